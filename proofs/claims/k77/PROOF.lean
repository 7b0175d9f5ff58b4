import PyProof.Rows.All
import Wide.All
import OpenK.AllK
import Wide.FinOn
import HandS.ForMost
import HandS.ForExc
import HandS.Gcd
import HandS.IsInst
import HandS.FStr
import HandS.More
import HandS.Property
import HandS.OwnEq
import HandS.DictComp
import HandS.Deep
import HandS.ExcInit
import HandS.TryMany
import HandS.Lambda
import HandS.Style
import HandS.Flow
import KE.KExcInit
import KE.KTryMore
import HandS.ExcIs
import KE.KExcIs
import PyProof.ReprRoads
import HandS.EndTab
import HandS.SetKeys
import HandS.SortInts
import HandS.TupSets
import HandS.Strs
import PyProof.TupleOfSeq
import HandS.Small
import HandS.Codes
import HandS.Iter
import HandS.Walk
import HandS.RaiseMore
import HandS.Dict
import KE.KDictPairs
import HandS.ClsMeth
import HandS.MakeKwOnly
import HandS.Wide
import HandS.WideBits
import HandS.WideMore
import KE.KCallOwn
import HandS.SlotsOwn
import PyProof.InstNe
import PyProof.Rows.PlainNe
import KE.KEqDict
import KE.KMathGC
import KE.DataFind
import HandS.Conv
import HandS.Zip
import HandS.TupAny
import HandS.Star
import HandS.TupMul
import KE.DataEq
import PyProof.TupleOfStr
import PyProof.ListStr
import PyProof.FitsInt
import KE.KExcLine
import PySem.Challenge.RW_biddingmoves_k77_claims_that_are_none
section F_Core
set_option Elab.async false
set_option maxRecDepth 100000
namespace Vf
open PySem PySem.Spec PyProof.Rows L2
inductive wE (X : Cx) (e : Expr) (σ : L2.St) (H : Hp) (Q : VK) : Prop
  | mk (t : TE) (h : PE X e t) (q : t σ H Q) : wE X e σ H Q
inductive wT (X : Cx) (e : Expr) (σ : L2.St) (H : Hp) (Q : Bool → Hp → Prop) : Prop
  | mk (t : TT) (h : PT X e t) (q : t σ H Q) : wT X e σ H Q
inductive wW (X : Cx) (e : Expr) (σ : L2.St) (H : Hp) (Q : Bool → Hp → Prop) : Prop
  | mk (t : TT) (h : PW X e t) (q : t σ H Q) : wW X e σ H Q
inductive wA (X : Cx) (es : List Expr) (σ : L2.St) (H : Hp) (Q : List V → Hp → Prop) : Prop
  | mk (t : TA) (h : PA X es t) (q : t σ H Q) : wA X es σ H Q
inductive wS (X : Cx) (st : Stmt) (D : Ends) (σ : L2.St) (H : Hp) : Prop
  | mk (t : TS) (h : PS X st t) (q : t D σ H) : wS X st D σ H
inductive wB (X : Cx) (st : List Stmt) (D : Ends) (σ : L2.St) (H : Hp) : Prop
  | mk (t : TS) (h : PSs X st t) (q : t D σ H) : wB X st D σ H
inductive wG (X : Cx) (tg : Expr) (v : V) (σ : L2.St) (H : Hp) (R : L2.St → Hp → Prop) : Prop
  | mk (t : TG) (h : PG X tg t) (q : t v σ H R) : wG X tg v σ H R
inductive wGs (X : Cx) (tg : List Expr) (vs : List V) (σ : L2.St) (H : Hp) (R : L2.St → Hp → Prop) : Prop
  | mk (t : TGs) (h : PGs X tg t) (q : t vs σ H R) : wGs X tg vs σ H R
inductive oB (X : Cx) (f : Value → Value → Sem Value) (x y : V) (H : Hp) (Q : VK) : Prop
  | mk (r : R2) (h : OpR X f r) (q : r x y H Q) : oB X f x y H Q
section
variable {X : Cx} {σ : L2.St} {H : Hp} {Q : VK} {D : Ends} {pos p1 p2 p3 : Pos}
theorem pE {e : Expr} : PE X e (wE X e) := ⟨fun a b c d f I ⟨_, h, q⟩ => h.run a b c d f I q⟩
theorem pT {e : Expr} : PT X e (wT X e) := ⟨fun a b c d f I ⟨_, h, q⟩ => h.run a b c d f I q⟩
theorem pW {e : Expr} : PW X e (wW X e) := ⟨fun a b c d f g I ⟨_, h, q⟩ => h.run a b c d f g I q⟩
theorem pA {e : List Expr} : PA X e (wA X e) := ⟨fun a b c d f g I ⟨_, h, q⟩ => h.run a b c d f g I q⟩
theorem pS {e : Stmt} : PS X e (wS X e) := ⟨fun a b c d f I ⟨_, h, q⟩ => h.run a b c d f I q⟩
theorem pB {e : List Stmt} : PSs X e (wB X e) := ⟨fun a b c d f I ⟨_, h, q⟩ => h.run a b c d f I q⟩
theorem pO {f : Value → Value → Sem Value} : OpR X f (oB X f) := fun a b c d x y u v Q I rx ry ⟨_, h, q⟩ => h a b c d x y u v Q I rx ry q
theorem wA_mono {es : List Expr} {R R' : List V → Hp → Prop} (h : wA X es σ H R) (hq : ∀ v H', R v H' → R' v H') : wA X es σ H R' := by
  obtain ⟨t, ht, q⟩ := h
  refine ⟨fun σ' H' S => ∃ R0 : List V → Hp → Prop, t σ' H' R0 ∧ ∀ v H2, R0 v H2 → S v H2, ⟨fun po pins s σ' H' S I ⟨R0, h0, h1⟩ => ?_⟩, R, q, hq⟩
  exact thn (ht.run po pins s σ' H' R0 I h0) fun u s' ⟨v, H2, I2, r2, q2⟩ => ⟨v, H2, I2, r2, h1 v H2 q2⟩
theorem s_nil (h : D.nx σ H) : wB X [] D σ H := ⟨_, pss_nil, h⟩
theorem s_cons {st : Stmt} {rest : List Stmt} (h : wS X st { D with nx := wB X rest D } σ H) : wB X (st :: rest) D σ H := ⟨_, pss_cons pS pB, h⟩
theorem s_ret {e : Expr} (h : wE X e σ H D.rt) : wS X (.Return (some e) pos) D σ H := ⟨_, ps_ret pE, h⟩
theorem s_if {c : Expr} {a b : List Stmt} (h : wT X c σ H fun k H1 => if k = true then wB X a D σ H1 else wB X b D σ H1) : wS X (.If c a b pos) D σ H := ⟨_, ps_if pT pB pB, h⟩
theorem s_expr {e : Expr} (h : wE X e σ H fun _ H1 => D.nx σ H1) (hs : swapsWith e none pos.line X.env = pure false := by rfl) : wS X (.Expr e pos) D σ H := ⟨_, ps_expr pE hs, h⟩
theorem s_set {i : Nat} {x : Str} {e : Expr} (h : wE X e σ H fun v H1 => D.nx (σ.set i (some v)) H1) (hN : X.N.Nodup) (hi : X.N[i]? = some x) (hx : Loc X.env.scope x)
    (hs : swapsWith e (some (.Name x p1)) pos.line X.env = pure false := by rfl) (hf : X.fn x = true ∨ X.env.scope.names.lookup x = some .local := by first | exact .inl rfl | exact .inr rfl | assumption) : wS X (.Assign [.Name x p1] e pos) D σ H := ⟨_, ps_set hN hi hx pE hs hf, h⟩
theorem e_var (i : Nat) {x : Str} {v : V} (hN : X.N[i]? = some x) (hv : Vis X.env.scope x) (h : σ[i]? = some (some v)) (q : Q v H) (hd : (x == ("__debug__" : Str)) = false := by decide) (hcd : (x == ("__classdict__" : Str)) = false := by decide) : wE X (.Name x pos) σ H Q :=
  ⟨_, pe_var (i := i) hN hv hd hcd, v, h, q⟩
theorem e_glob {x : Str} {v : V} {u : Value} (hg : Gl X x) (hm : X.mg x = some u) (r : RelV v u) (q : Q v H) (hd : (x == ("__debug__" : Str)) = false := by decide) : wE X (.Name x pos) σ H Q := ⟨_, pe_glob hg hm r hd, q⟩
theorem e_bltn {x : Str} {v : V} {u : Value} (hg : Gl X x) (hm : X.mg x = none) (hv : bootBuiltins x = some u) (r : RelV v u) (q : Q v H) (hn : x ≠ "__name__" := by decide) (hd : (x == ("__debug__" : Str)) = false := by decide) : wE X (.Name x pos) σ H Q := ⟨_, pe_bltn hg hm hv r hn hd, q⟩
theorem e_int {i : Int} {j : Nat} (q : Q (.int i) H) : wE X (.Constant (.int i) j pos) σ H Q := ⟨_, pe_int, q⟩
theorem e_bl {i : Bool} {j : Nat} (q : Q (.bl i) H) : wE X (.Constant (.bool i) j pos) σ H Q := ⟨_, pe_bl, q⟩
theorem e_non {j : Nat} (q : Q .non H) : wE X (.Constant .none j pos) σ H Q := ⟨_, pe_non, q⟩
theorem e_str {x : Str} {j : Nat} (q : Q (.str x) H) : wE X (.Constant (.str x) j pos) σ H Q := ⟨_, pe_str, q⟩
theorem e_bin {a b : Expr} {op : Operator} (h : wE X a σ H fun x H1 => wE X b σ H1 fun y H2 => oB X (binaryOp op) x y H2 Q) : wE X (.BinOp a op b pos) σ H Q := ⟨_, pe_op pO pE pE, h⟩
theorem e_cmp {a b : Expr} {op : CmpOp} (h : wE X a σ H fun x H1 => wE X b σ H1 fun y H2 => oB X (compareOp op) x y H2 Q) (hm : behindInMarks op b = false := by first | exact nomark _ (by decide) (by decide) | rfl) : wE X (.Compare a [op] [b] pos) σ H Q := ⟨_, pe_cmpR pO pE pE hm, h⟩
theorem e_lst {es : List Expr} (h : wA X es σ H fun xs H1 => xs.length ≤ sizeLine ∧ ∀ p, H1 p = none → Q (.ref p) (upd H1 p (.lst xs))) : wE X (.List es pos) σ H Q := ⟨_, pe_lst pA, h⟩
theorem e_if {c a b : Expr} (h : wT X c σ H fun k H1 => if k = true then wE X a σ H1 Q else wE X b σ H1 Q) : wE X (.IfExp c a b pos) σ H Q := ⟨_, pe_ifExp pT pE pE, h⟩
theorem e_and1 {a : Expr} {op : BoolOp} (h : wE X a σ H Q) : wE X (.BoolOp op [a] pos) σ H Q := ⟨_, pe_one pE, h⟩
theorem a_nil {R : List V → Hp → Prop} (h : R [] H) : wA X [] σ H R := ⟨_, pa_nil, h⟩
theorem a_cons {R : List V → Hp → Prop} {e : Expr} {es : List Expr} (h : wE X e σ H fun x H1 => wA X es σ H1 fun xs H2 => R (x :: xs) H2) (hs : starEach (e :: es) X.env = (false, eval e X.env) :: starEach es X.env := by rfl) : wA X (e :: es) σ H R := ⟨_, pa_cons pE pA hs, h⟩
variable {R : Bool → Hp → Prop}
theorem t_cmp {a b : Expr} {op : CmpOp} (h : wE X a σ H fun x H1 => wE X b σ H1 fun y H2 => oB X (compareOp op) x y H2 fun z H3 => ∃ k, z = .bl k ∧ R k H3) (hm : behindInMarks op b = false := by first | exact nomark _ (by decide) (by decide) | rfl) : wT X (.Compare a [op] [b] pos) σ H R := ⟨_, pt_cmpR pO pE pE hm, h⟩
theorem t_not {a : Expr} (h : wT X a σ H fun c H1 => R (!c) H1) : wT X (.UnaryOp .Not a pos) σ H R := ⟨_, pt_not pT, h⟩
theorem t_w {e : Expr} (h : wW X e σ H R) : wT X e σ H R := ⟨_, pW.pt, h⟩
theorem w_or1 {a : Expr} (h : wT X a σ H R) : wW X (.BoolOp .Or [a] pos) σ H R := ⟨_, pw_or1 pT, h⟩
theorem w_or {a b : Expr} {rest : List Expr} (h : wT X a σ H fun c H1 => if c = true then R true H1 else wW X (.BoolOp .Or (b :: rest) pos) σ H1 R) : wW X (.BoolOp .Or (a :: b :: rest) pos) σ H R := ⟨_, pw_or pT pW, h⟩
theorem o_addI {i j : Int} (q : Q (.int (i + j)) H) : oB X (binaryOp .Add) (.int i) (.int j) H Q := ⟨_, op_add, i, j, rfl, rfl, q⟩
theorem o_subI {i j : Int} (q : Q (.int (i - j)) H) : oB X (binaryOp .Sub) (.int i) (.int j) H Q := ⟨_, op_sub, i, j, rfl, rfl, q⟩
theorem o_mulI {i j : Int} (hc : CMul i j) (q : Q (.int (i * j)) H) : oB X (binaryOp .Mult) (.int i) (.int j) H Q := ⟨_, op_mul, i, j, rfl, rfl, hc, q⟩
theorem o_modI {i j : Int} (hc : 0 < j) (q : Q (.int (i % j)) H) : oB X (binaryOp .Mod) (.int i) (.int j) H Q := ⟨_, op_mod, i, j, rfl, rfl, hc, q⟩
theorem o_addS {i j : Str} (hl : i.length + j.length ≤ sizeLine) (q : Q (.str (i ++ j)) H) : oB X (binaryOp .Add) (.str i) (.str j) H Q := ⟨_, op_add_str, i, j, rfl, rfl, hl, q⟩
theorem o_eq {x y : V} (hs : scal x y = true) (q : Q (.bl (decide (x = y))) H) : oB X (compareOp .Eq) x y H Q := ⟨_, op_eq, hs, q⟩
theorem o_ne {x y : V} (hs : scal x y = true) (q : Q (.bl (!decide (x = y))) H) : oB X (compareOp .NotEq) x y H Q := ⟨_, op_ne, hs, q⟩
theorem o_ltI {i j : Int} (q : Q (.bl (decide (i < j))) H) : oB X (compareOp .Lt) (.int i) (.int j) H Q := ⟨_, op_lt, i, j, rfl, rfl, q⟩
theorem o_leI {i j : Int} (q : Q (.bl (decide (i ≤ j))) H) : oB X (compareOp .LtE) (.int i) (.int j) H Q := ⟨_, op_le, i, j, rfl, rfl, q⟩
theorem o_gtI {i j : Int} (q : Q (.bl (decide (j < i))) H) : oB X (compareOp .Gt) (.int i) (.int j) H Q := ⟨_, op_gt, i, j, rfl, rfl, q⟩
theorem o_geI {i j : Int} (q : Q (.bl (decide (j ≤ i))) H) : oB X (compareOp .GtE) (.int i) (.int j) H Q := ⟨_, op_ge, i, j, rfl, rfl, q⟩
end
end Vf
end F_Core
section F_Exc2
set_option Elab.async false
set_option maxRecDepth 100000
set_option maxHeartbeats 4000000
namespace Vf
open PySem PySem.Spec PyProof.Rows L2
end Vf
end F_Exc2
section F_Try
set_option Elab.async false
set_option maxRecDepth 100000
set_option maxHeartbeats 4000000
namespace Vf
open PySem PySem.Spec PyProof.Rows L2
abbrev Cl := (Value → Bool → Prop) × (Addr → Value → Option Addr → TS)
end Vf
end F_Try
section F_Suite
set_option Elab.async false
set_option maxRecDepth 100000
set_option maxHeartbeats 4000000
set_option linter.all false
namespace Vf
open PySem PySem.Spec PyProof.Rows L2
section
variable {X : Cx} {σ : L2.St} {H : Hp} {Q : VK} {C a : Addr} {oe : Obj} {d : Option Addr} {pn : List (Addr × Obj)} {fld : Str} {pos : Pos}
mutual
theorem dp_nodict {K : PySem.W.Frag} : ∀ {d : PyData} {v : V}, Dp K H v d → d.hasDict = false
  | _, _, .non => by simp only [PyData.hasDict]
  | _, _, .bl _ => by simp only [PyData.hasDict]
  | _, _, .int _ => by simp only [PyData.hasDict]
  | _, _, .str _ => by simp only [PyData.hasDict]
  | _, _, .lst _ h => by simp only [PyData.hasDict]; exact dps_nodict h
  | _, _, .tup _ h => by simp only [PyData.hasDict]; exact dps_nodict h
theorem dps_nodict {K : PySem.W.Frag} : ∀ {ds : List PyData} {vs : List V}, DpAll K H vs ds → PyData.hasDictAll ds = false
  | _, _, .nil => by simp only [PyData.hasDictAll]
  | _, _, .cons h1 h2 => by simp only [PyData.hasDictAll, dp_nodict h1, dps_nodict h2, Bool.or_self]
end
def rRepr (K : PySem.W.Frag) : List V → Hp → VK → Prop := fun xs H Q => ∃ x d, xs = [x] ∧ Dp K H x d ∧ d.showable = true ∧ d.depth ≤ 64 ∧ d.shown.length ≤ sizeLine ∧ Q (.str d.shown) H
theorem call_repr (hG : X.A.guards = some []) (hu : X.A.units + 70 < cLine) : CallR X (.builtin "repr") (rRepr X.K) := by
  intro pins s σ H xs us Q I r h
  obtain ⟨x, d, rfl, hd, hs, hdp, hz, q⟩ := h
  obtain ⟨u, rfl, rx⟩ := vals1 r
  obtain ⟨as, rd⟩ := Dp.reads I d x u hd rx
  have big : ∀ {b : Addr}, u = .ref b → d.hasDict = false → wpAny (model X.prog X.w) X.A (call (.builtin "repr") [u]) (EP X pins σ Q) X.xe s := fun {b} eb nd => by
    subst eb
    exact repr_of_reads' rd hs (PyData.noDict_hsm nd) hG (by omega) (fun _ _ z => z) (fun h' w tk k => ⟨.str d.shown, H, I.kept (t' := tk) k, ⟨_, rfl⟩, q⟩) hz
  have nd := dp_nodict hd
  cases hd with
  | non => cases rx; exact P.repr_of_none ⟨.str _, H, I.tok _, ⟨_, rfl⟩, q⟩
  | bl b => cases rx; exact P.repr_of_bool ⟨.str _, H, I.tok _, ⟨_, rfl⟩, q⟩
  | int i =>
    obtain ⟨t, rfl⟩ := rx
    exact P.repr_of_int (by simpa [PyData.showable] using hs) ⟨.str _, H, I.tok _, ⟨_, rfl⟩, q⟩
  | str y =>
    obtain ⟨t, rfl⟩ := rx
    exact P.repr_of_str ⟨.str _, H, I.tok _, ⟨_, rfl⟩, q⟩ hz
  | lst h1 h2 => cases rx; exact big rfl nd
  | tup h1 h2 => cases rx; exact big rfl nd
end
end Vf
end F_Suite
section F_EndG
set_option Elab.async false
set_option maxRecDepth 100000
set_option maxHeartbeats 4000000
set_option linter.all false
namespace Vf
open PySem PySem.Spec PyProof.Rows L2 LamX
/-- as FnOk, called where nothing is being shown -/
structure FnG (P : Program) (w : World) (K : PySem.W.Frag) (mg : Str → Option Value) (base : Heap) (CX : CXT) (k : Nat) (f : Addr) (fd : FuncData) (ps : List Str) (sp : Sp) : Prop where
  len : ∀ vs H Q E, sp vs H Q E → vs.length = ps.length
  run : ∀ (A : Around) (outer : List Env) (s : Shared) (H : Hp) (args : Args) (us : List Value) (vs : List V) (Q : VK) (E : XK), Room k A → A.guards = some [] → Env0 P w K mg base A outer s H → BindsTo s fd args (ps.zip us) → Vals vs us → sp vs H Q E →
    codeAny (model P w) A (.call (.ref f) args) (CR CX outer P w H s Q E) s
theorem FnG.of {P : Program} {w : World} {K : PySem.W.Frag} {mg : Str → Option Value} {base : Heap} {CX : CXT} {k : Nat} {f : Addr} {fd : FuncData} {ps : List Str} {sp : Sp} (F : FnOk P w K mg base CX k f fd ps sp) : FnG P w K mg base CX k f fd ps sp :=
  ⟨F.len, fun A outer s H args us vs Q E hr _ => F.run A outer s H args us vs Q E hr⟩
section
variable {P : Program} {w : World} {K : PySem.W.Frag} {mg : Str → Option Value} {base : Heap}
/-- a def of the text by its body -/
theorem okG {x qual : Str} {st : Stmt} {f : Addr} {fd : FuncData} {N ps : List Str} {k : Nat} {sp : Sp} (F : Fun K x qual st f fd) (S : FnScope N ps (defScope st)) (len : ∀ vs H Q E, sp vs H Q E → vs.length = ps.length)
    (hbody : ∀ (cdv : Value) (A : Around) (outer : List Env) (s : Shared) (H : Hp) (vs : List V) (Q : VK) (E : XK), Room k (A.deeper (envOfC qual (defScope st) s.heap.objs.size f cdv)) → A.guards = some [] → sp vs H Q E →
      wB (cxOf (L2.CX P w) P w K mg base N qual (defScope st) f cdv A outer s H E) (defBody st) { nx := fun _ H' => Q .non H', rt := Q } (L2.start N vs) H) : FnG P w K mg base (L2.CX P w) (k + 1) f fd ps sp := by
  obtain ⟨oc, od, kV, doc, pm, an, cdv, ct, osl, rfl, lk, hcd⟩ := F.ex
  exact ⟨len, fun A outer s H args us vs Q E hr hg e0 hb r hsp => run_ofS lk hcd S hr e0 hb r (len _ _ _ _ hsp) fun hr' => ⟨_, pB, hbody cdv A outer s H vs Q E hr' hg hsp⟩⟩
/-- the same where the guards do not matter -/
theorem okX {x qual : Str} {st : Stmt} {f : Addr} {fd : FuncData} {N ps : List Str} {k : Nat} {sp : Sp} (F : Fun K x qual st f fd) (S : FnScope N ps (defScope st)) (len : ∀ vs H Q E, sp vs H Q E → vs.length = ps.length)
    (hbody : ∀ (cdv : Value) (A : Around) (outer : List Env) (s : Shared) (H : Hp) (vs : List V) (Q : VK) (E : XK), Room k (A.deeper (envOfC qual (defScope st) s.heap.objs.size f cdv)) → sp vs H Q E →
      wB (cxOf (L2.CX P w) P w K mg base N qual (defScope st) f cdv A outer s H E) (defBody st) { nx := fun _ H' => Q .non H', rt := Q } (L2.start N vs) H) : FnOk P w K mg base (L2.CX P w) (k + 1) f fd ps sp :=
  F.okX S len fun cdv A outer s H vs Q E hr hsp => ⟨_, pB, hbody cdv A outer s H vs Q E hr hsp⟩
end
/-- the law's promise at the head's heap h -/
def LawAtG (l : PySem.W.OpenLaw) (w : World) (K : PySem.W.Frag) (CX : CXT) (k n : Nat) (x : Str) (mg : Str → Option Value) (fa : Addr) (h : Heap) : Prop :=
  ∃ (fd : FuncData) (cs : List (Addr × Addr)) (sp : Sp), (∀ p ∈ cs, h.get? p.2 = some { cls := .none, data := .fields #[] }) ∧ (∀ p ∈ cs, K.lookup p.2 = none) ∧ (∀ p ∈ cs, PySem.W.CodeHd h p.1 p.2) ∧ (∀ (s : Shared) (u : Value), BindsTo s fd ⟨[u], []⟩ [(x, u)]) ∧
    (∀ (H : Hp) (a : Addr) (ns : List Int), ns.length ≤ n → (∀ z ∈ ns, Builtin.Int.intBits z ≤ 1048576) → (∀ p ∈ cs, H p.2 = some (.tbl #[])) → SqL K H a (ns.map V.int) → sp [.ref a] H (fun v _ => v = .bl true) fun _ _ _ => False) ∧
    ∀ base : Heap, K.In base → base.Ns mainGlobals mg → (∀ p ∈ cs, TabB base mg p.1 p.2) → FnG l.prog w K mg base CX k fa fd [x] sp
end Vf
end F_EndG
section F_Calls
set_option Elab.async false
set_option maxRecDepth 100000
set_option maxHeartbeats 4000000
set_option linter.all false
namespace Vf
open PySem PySem.Spec PyProof.Rows L2 LamX
/-- a def of the module under its name, ready to be called -/
structure Df (P : Program) (w : World) (K : PySem.W.Frag) (mg : Str → Option Value) (base : Heap) (x : Str) (k : Nat) (sp : Sp) : Prop where
  ex : ∃ f fd ps, FnOk P w K mg base (L2.CX P w) k f fd ps sp ∧ mg x = some (.ref f) ∧ PySem.W.keepIn K (.ref f) = true ∧ Binds K fd ps []
structure DfG (P : Program) (w : World) (K : PySem.W.Frag) (mg : Str → Option Value) (base : Heap) (x : Str) (k : Nat) (sp : Sp) : Prop where
  ex : ∃ f fd ps, FnG P w K mg base (L2.CX P w) k f fd ps sp ∧ mg x = some (.ref f) ∧ PySem.W.keepIn K (.ref f) = true ∧ Binds K fd ps []
inductive cB (X : Cx) (f : Value) (vs : List V) (H : Hp) (Q : VK) : Prop
  | mk (r : List V → Hp → VK → Prop) (h : CallR X f r) (q : r vs H Q) : cB X f vs H Q
inductive mB (X : Cx) (id : String) (x : V) (vs : List V) (H : Hp) (Q : VK) : Prop
  | mk (r : V → List V → Hp → VK → Prop) (h : MtR X id r) (q : r x vs H Q) : mB X id x vs H Q
inductive ixB (X : Cx) (x y : V) (H : Hp) (Q : VK) : Prop
  | mk (r : R2) (h : IxR X r) (q : r x y H Q) : ixB X x y H Q
inductive slB (X : Cx) (x : V) (lo hi : Option Int) (H : Hp) (Q : VK) : Prop
  | mk (r : V → Option Int → Option Int → Hp → VK → Prop) (h : SlR X r) (q : r x lo hi H Q) : slB X x lo hi H Q
inductive setB (X : Cx) (o i v : V) (H : Hp) (Q : Hp → Prop) : Prop
  | mk (r : TSet) (h : PSet X r) (q : r o i v H Q) : setB X o i v H Q
inductive wP (X : Cx) (e : Option Expr) (σ : L2.St) (H : Hp) (R : Option Int → Hp → Prop) : Prop
  | mk (t : TO) (h : PO X e t) (q : t σ H R) : wP X e σ H R
inductive wI (X : Cx) (tg it : Expr) (σ : L2.St) (H : Hp) (R : It → Hp → Prop) : Prop
  | mk (t : TI) (h : PI X tg it t) (q : t σ H R) : wI X tg it σ H R
inductive wTs (X : Cx) (ifs : List Expr) (σ : L2.St) (H : Hp) (R : Bool → Hp → Prop) : Prop
  | mk (t : TT) (h : PTs X ifs t) (q : t σ H R) : wTs X ifs σ H R
section
variable {X : Cx} {σ : L2.St} {H : Hp} {Q : VK} {D : Ends} {pos p1 p2 p3 : Pos}
theorem pCB {f : Value} : CallR X f (cB X f) := fun a b c d xs us Q I r ⟨_, h, q⟩ => h a b c d xs us Q I r q
theorem pMB {id : String} : MtR X id (mB X id) := fun a b c d x xs v us Q I r r2 ⟨_, h, q⟩ => h a b c d x xs v us Q I r r2 q
theorem pIX : IxR X (ixB X) := fun v0 s0 a b c d x y v u Q I r1 r2 ⟨_, h, q⟩ hs => h v0 s0 a b c d x y v u Q I r1 r2 q hs
theorem pSL : SlR X (slB X) := fun a b c d x v vl vu lo hi sl Q I r hs pl pu ⟨_, h, q⟩ => h a b c d x v vl vu lo hi sl Q I r hs pl pu q
theorem pSET : PSet X (setB X) := fun a b c d o i v ov iv u Q I ro ri rv ⟨_, h, q⟩ => h a b c d o i v ov iv u Q I ro ri rv q
theorem pP {e : Option Expr} : PO X e (wP X e) := ⟨fun a b c d Q I ⟨_, h, q⟩ => h.run a b c d Q I q⟩
theorem pI {tg it : Expr} : PI X tg it (wI X tg it) := ⟨fun a b c d R I ⟨_, h, q⟩ => h.run a b c d R I q⟩
theorem pG {tg : Expr} : PG X tg (wG X tg) := ⟨fun a b c d v u Q I r ⟨_, h, q⟩ => h.run a b c d v u Q I r q⟩
theorem pGs {tg : List Expr} : PGs X tg (wGs X tg) := ⟨fun a b c d v u Q I r ⟨_, h, q⟩ => h.run a b c d v u Q I r q⟩
theorem e_call {x : Str} {k : Nat} {sp : Sp} {e : Expr} {es : List Expr} {E : XK} (F : Df X.prog X.w X.K X.mg X.base x k sp) (hr : Room k X.A) (hx : Passes (L2.CX X.prog X.w) X E) (h : wA X (e :: es) σ H fun vs H1 => sp vs H1 Q E)
    (hg : Gl X x := by rfl) (hdb : (x == ("__debug__" : Str)) = false := by decide) (he : starEach (e :: es) X.env = (false, eval e X.env) :: starEach es X.env := by rfl) (hpl : (backTo pos (starEach es X.env)).any (·.1) = false := by rfl) :
    wE X (.Call (.Name x p1) (e :: es) [] pos) σ H Q := by
  obtain ⟨f, fd, ps, F, hm, hk, hb⟩ := F.ex
  exact ⟨_, pe_call F hr hg hm hk hb .nil hx pA hdb he hpl, wA_mono h fun vs H1 q => by rw [List.append_nil]; exact q⟩
theorem e_callG {x : Str} {k : Nat} {sp : Sp} {e : Expr} {es : List Expr} {E : XK} (hG : X.A.guards = some []) (F : DfG X.prog X.w X.K X.mg X.base x k sp) (hr : Room k X.A) (hx : Passes (L2.CX X.prog X.w) X E) (h : wA X (e :: es) σ H fun vs H1 => sp vs H1 Q E)
    (hg : Gl X x := by rfl) (hdb : (x == ("__debug__" : Str)) = false := by decide) (he : starEach (e :: es) X.env = (false, eval e X.env) :: starEach es X.env := by rfl) (hpl : (backTo pos (starEach es X.env)).any (·.1) = false := by rfl) :
    wE X (.Call (.Name x p1) (e :: es) [] pos) σ H Q := by
  obtain ⟨f, fd, ps, F, hm, hk, hb⟩ := F.ex
  refine ⟨fun σ H Q => wA X (e :: es) σ H fun vs H1 => sp vs H1 Q E, ⟨fun pins s σ H Q I h => ?_⟩, h⟩
  refine wpAny_Call_Name_kw (ld_glob I hg hm ?_ hdb)
  refine PySem.W.callWith_K (h₀ := X.base) I.ok.mod.kin hk (thn (pA.run pos pins s σ H _ I h) fun us s1 ⟨vs, H1, I1, r, q⟩ => ⟨I1.kIn, ?_⟩) he hpl
  have hl : us.length = ps.length := by rw [← r.length]; exact F.len _ _ _ _ q
  have b := hb s1 us I1.kIn (by rw [List.append_nil]; exact hl)
  rw [List.append_nil] at b
  refine wpAny_call (codeAny_mono (F.run X.A X.stack s1 H1 ⟨us, []⟩ us vs Q E hr hG I1.env0 b r q) fun r s' hq => ?_)
  cases r with
  | error e => exact hx pins σ H1 s1 e s' I1 hq
  | ok fl =>
    cases fl with
    | ret u => exact I1.after hq
    | next => exact False.elim hq
    | brk => exact False.elim hq
    | cont => exact False.elim hq
theorem Kt {x : Str} {id : String} {e : Expr} {es : List Expr} (h : wA X (e :: es) σ H fun vs H1 => cB X (.builtin id) vs H1 Q) (hm : X.mg x = none) (hv : bootBuiltins x = some (.builtin id)) (hg : Gl X x := by rfl) (hn : x ≠ "__name__" := by decide) (hdb : (x == ("__debug__" : Str)) = false := by decide)
    (he : starEach (e :: es) X.env = (false, eval e X.env) :: starEach es X.env := by rfl) (hpl : (backTo pos (starEach es X.env)).any (·.1) = false := by rfl) : wE X (.Call (.Name x p1) (e :: es) [] pos) σ H Q := ⟨_, pe_callB pCB hg hm hv pA hn hdb he hpl, h⟩
theorem e_callT {x : Str} {T : String} {e : Expr} {es : List Expr} (h : wA X (e :: es) σ H fun vs H1 => cB X (.type T) vs H1 Q) (hm : X.mg x = none) (hv : bootBuiltins x = some (.type T)) (hg : Gl X x := by rfl) (hn : x ≠ "__name__" := by decide) (hdb : (x == ("__debug__" : Str)) = false := by decide)
    (he : starEach (e :: es) X.env = (false, eval e X.env) :: starEach es X.env := by rfl) (hpl : (backTo pos (starEach es X.env)).any (·.1) = false := by rfl) : wE X (.Call (.Name x p1) (e :: es) [] pos) σ H Q := ⟨_, pe_callTy pCB hg hm hv pA hn hdb he hpl, h⟩
theorem e_bm {T id : String} {o e : Expr} {es : List Expr} {name : Str} (pa : PlainAttrs T) (slot : Slot T name id) (hty : typeOf (.builtin id) = pure (.type "method_descriptor"))
    (h : wE X o σ H fun x H1 => tyV X.K T x H1 ∧ wA X (e :: es) σ H1 fun xs H2 => mB X id x xs H2 Q) (hbase : attributeBase o name X.env (eval o X.env) = eval o X.env := by rfl)
    (hfew : ((backTo pos (starEach (e :: es) X.env)).all (fun x => !x.1) && (backToKw pos (keywordEach [] X.env)).all (fun x => x.1.isSome)
      && decide ((e :: es).length + ([] : List Keyword).length + (if ([] : List Keyword).isEmpty then 0 else 1) < 30)) = true := by rfl)
    (hline : (p1.endLine == pos.line) = true := by rfl) (hs : starEach (e :: es) X.env = (false, eval e X.env) :: starEach es X.env := by rfl) (hplain : (backTo pos (starEach es X.env)).any (·.1) = false := by rfl) :
    wE X (.Call (.Attribute o name p1) (e :: es) [] pos) σ H Q := ⟨_, pe_bm pa slot hty pMB pE pA hbase hfew hline hs hplain, h⟩
theorem e_ix {a b : Expr} (h : wE X a σ H fun x H1 => wE X b σ H1 fun y H2 => ixB X x y H2 Q) (hs : PlainIx b := by exact fun _ _ => rfl) : wE X (.Subscript a b pos) σ H Q := ⟨_, pe_ix pIX pE pE hs, h⟩
theorem e_slice {a : Expr} {lo hi : Option Expr} (h : wE X a σ H fun x H1 => wP X lo σ H1 fun l H2 => wP X hi σ H2 fun u H3 => slB X x l u H3 Q) : wE X (.Subscript a (.Slice lo hi none p2) pos) σ H Q := ⟨_, pe_slice pSL pE pP pP, h⟩
theorem p_none {R : Option Int → Hp → Prop} (h : R none H) : wP X none σ H R := ⟨_, po_none, h⟩
theorem p_some {e : Expr} {R : Option Int → Hp → Prop} (h : wE X e σ H fun x H1 => ∃ i, x = .int i ∧ R (some i) H1) : wP X (some e) σ H R := ⟨_, po_some pE, h⟩
theorem ix_L {p : Addr} {xs : List V} {i : Int} {v : V} (hx : SqL X.K H p xs) (hi : atI xs i = some v) (q : Q v H) : ixB X (.ref p) (.int i) H Q := ⟨_, ix_list, p, xs, i, v, rfl, rfl, hx, hi, q⟩
theorem ix_T {p : Addr} {xs : List V} {i : Int} {v : V} (hx : SqT X.K H p xs) (hi : atI xs i = some v) (q : Q v H) : ixB X (.ref p) (.int i) H Q := ⟨_, ix_tup, p, xs, i, v, rfl, rfl, hx, hi, q⟩
theorem ix_S {z : Str} {i : Int} {c : Nat} (hz : z.length ≤ sizeLine) (hi : atI z.cps.toList i = some c) (q : Q (.str ⟨#[c]⟩) H) : ixB X (.str z) (.int i) H Q := ⟨_, ix_str, z, i, c, rfl, rfl, hz, hi, q⟩
theorem g_name {i : Nat} {x : Str} {v : V} {R : L2.St → Hp → Prop} (hN : X.N.Nodup) (hi : X.N[i]? = some x) (hx : Loc X.env.scope x) (h : R (σ.set i (some v)) H) (hf : X.fn x = true ∨ X.env.scope.names.lookup x = some .local := by first | exact .inl rfl | exact .inr rfl | assumption) : wG X (.Name x pos) v σ H R := ⟨_, pg_name hN hi hx hf, h⟩
theorem g_tup {es : List Expr} {k n : Nat} {v : V} {R : L2.St → Hp → Prop} (h : ∃ a xs, v = .ref a ∧ SqT X.K H a xs ∧ xs.length = n ∧ wGs X es xs σ H R) (hc : X.calm = true := by rfl)
    (hn : (assignEach es X.env).length = n := by rfl) (hst : (assignEach es X.env).findIdx? (·.1) = none := by rfl) : wG X (.Tuple es k pos) v σ H R := ⟨_, pg_tup hc pGs hn hst, h⟩
theorem g_nil {R : L2.St → Hp → Prop} (h : R σ H) : wGs X [] [] σ H R := ⟨_, pgs_nil, rfl, h⟩
theorem g_cons {e : Expr} {es : List Expr} {v : V} {vs : List V} {R : L2.St → Hp → Prop} (h : wG X e v σ H fun σ' H' => wGs X es vs σ' H' R) (hs : (assignEach (e :: es) X.env).map (·.2) = assign e X.env :: (assignEach es X.env).map (·.2) := by rfl) : wGs X (e :: es) (v :: vs) σ H R :=
  ⟨_, pgs_cons pG pGs hs, v, vs, rfl, h⟩
theorem g_sub {o i : Expr} {v : V} {R : L2.St → Hp → Prop} (h : wE X o σ H fun x H1 => wE X i σ H1 fun y H2 => setB X x y v H2 fun H3 => R σ H3)
    (ha : ∀ v, assign (.Subscript o i pos) X.env v = (do
      let ov ← holding [v] (eval o X.env)
      let iv ← holding [v, ov] (eval i X.env)
      standAt pos
      holding [v, ov, iv] (setItem ov iv v)
      release [v, ov, iv] []) := by intro _; rfl) : wG X (.Subscript o i pos) v σ H R := ⟨_, pg_sub pE pE pSET ha, h⟩
theorem s_asg {tg e : Expr} (h : wE X e σ H fun v H1 => wG X tg v σ H1 D.nx) (hs : swapsWithSole [tg] e pos.line X.env = pure false := by rfl) (hw : swappedStores [tg] e X.env = pure none := by rfl)
    (h1 : (assignEach [tg] X.env).map (·.2) = [assign tg X.env] := by rfl) : wS X (.Assign [tg] e pos) D σ H := ⟨_, ps_asg pE pG hs hw h1, h⟩
theorem s_par {i j : Nat} {x y : Str} {a b : Expr} {px py pt : Pos} {kt k2 : Nat} {pt2 : Pos} (h : wA X [a, b] σ H fun vs H1 => ∃ v w, vs = [v, w] ∧ D.nx ((σ.set i (some v)).set j (some w)) H1) (hN : X.N.Nodup) (hi : X.N[i]? = some x) (hj : X.N[j]? = some y) (hij : i ≠ j)
    (hx : X.env.scope.names.lookup x = some .local) (hy : X.env.scope.names.lookup y = some .local) (hc : X.calm = true := by rfl)
    (hw : swappedStores [.Tuple [.Name x px, .Name y py] kt pt] (.Tuple [a, b] k2 pt2) X.env = pure (some [x, y]) := by rfl)
    (hs : swapsWithSole [.Tuple [.Name x px, .Name y py] kt pt] (.Tuple [a, b] k2 pt2) pos.line X.env = pure false := by rfl) :
    wS X (.Assign [.Tuple [.Name x px, .Name y py] kt pt] (.Tuple [a, b] k2 pt2) pos) D σ H := ⟨_, ps_par hc hN hi hj hij hx hy pA hw hs, h⟩
theorem set_L {p : Addr} {xs : List V} {k : Int} {j : Nat} {v : V} {R : Hp → Prop} (hp : H p = some (.lst xs)) (hj : ixN xs.length k = some j) (q : R (upd H p (.lst (xs.set j v)))) : setB X (.ref p) (.int k) v H R := ⟨_, set_list, p, xs, k, j, rfl, rfl, hp, hj, q⟩
theorem s_for {tg iter : Expr} {body : List Stmt} (hp : PassesOwn (model X.prog X.w) X.A X.env X.xe) (h : tFor (wI X tg iter) (wG X tg) (wB X body) D σ H) (hc : X.calm = true := by rfl) (hs : ∀ x, foldedSetIterable iter X.env x = pure x := by intro _; rfl) : wS X (.For tg iter body [] pos) D σ H := ⟨_, ps_for hp hc pI pG pB hs, h⟩
theorem s_while {c : Expr} {body : List Stmt} (hp : PassesOwn (model X.prog X.w) X.A X.env X.xe) (h : tWhile (wT X c) (wB X body) D σ H) : wS X (.While c body [] pos) D σ H := ⟨_, ps_while hp pT pB, h⟩
theorem i_list {tg l : Expr} {R : It → Hp → Prop} (h : wE X l σ H fun x H1 => ∃ a, x = .ref a ∧ (∃ xs, SqL X.K H1 a xs) ∧ R (Itl X.K a) H1) : wI X tg l σ H R := ⟨_, pi_list pE, h⟩
theorem i_tup {tg l : Expr} {R : It → Hp → Prop} (h : wE X l σ H fun x H1 => ∃ a, x = .ref a ∧ (∃ xs, SqT X.K H1 a xs) ∧ R (Itt X.K a) H1) : wI X tg l σ H R := ⟨_, pi_tup pE, h⟩
theorem i_range1 {tg a : Expr} {R : It → Hp → Prop} (hm : X.mg "range" = none) (h : wA X [a] σ H fun vs H1 => ∃ j : Int, vs = [.int j] ∧ -(2 ^ 62) ≤ j ∧ j < 2 ^ 62 ∧ R (Itr 0 j.toNat) H1) (hg : Gl X "range" := by rfl) (hs : starEach [a] X.env = [(false, eval a X.env)] := by rfl) :
    wI X tg (.Call (.Name "range" p1) [a] [] pos) σ H R := ⟨_, pi_range1 hg hm pA hs, h⟩
theorem pTs {ifs : List Expr} : PTs X ifs (wTs X ifs) := ⟨fun a b c d f I ⟨_, h, q⟩ => h.run a b c d f I q⟩
theorem ts_nil {R : Bool → Hp → Prop} (h : R true H) : wTs X [] σ H R := ⟨_, pts_nil, h⟩
theorem ts_one {c : Expr} {R : Bool → Hp → Prop} (h : wT X c σ H R) : wTs X [c] σ H R := ⟨_, pts_one pT, h⟩
def bG (X : Cx) (scope : Scope) (tg : Expr) : TG := fun v σ H R => ∀ (s : Shared) (H0 : Hp) (C : Addr) (cl : List (Str × Addr)) (fp : List Addr), wG (X.blk s H0 scope (compEnvC scope cl C X.env) fp) tg v σ H R
def bT (X : Cx) (scope : Scope) (ifs : List Expr) : TT := fun σ H R => ∀ (s : Shared) (H0 : Hp) (C : Addr) (cl : List (Str × Addr)) (fp : List Addr), wTs (X.blk s H0 scope (compEnvC scope cl C X.env) fp) ifs σ H R
def bE (X : Cx) (scope : Scope) (e : Expr) : TE := fun σ H R => ∀ (s : Shared) (H0 : Hp) (C : Addr) (cl : List (Str × Addr)) (fp : List Addr), wE (X.blk s H0 scope (compEnvC scope cl C X.env) fp) e σ H R
theorem e_lc {elt tg iter : Expr} {ifs : List Expr} {scope : Scope} {own : List (Str × Nat)} (hN : X.N.Nodup) (ok : BlkOk X.N X.env.scope scope own) (h : tLc (wI X tg iter) (bG X scope tg) (bT X scope ifs) (bE X scope elt) (own.map (·.2)) σ H Q)
    (hc : X.calm = true := by rfl) (hs : ∀ x, foldedSetIterable iter X.env x = pure x := by intro _; rfl) : wE X (.ListComp elt [⟨tg, iter, ifs, 0⟩] scope pos) σ H Q :=
  ⟨_, pe_lc hc hN pI ok (fun s H C cl fp => ⟨fun a b c d v u Q I r q => pG.run a b c d v u Q I r (q s H C cl fp)⟩) (fun s H C cl fp => ⟨fun a b c d f I q => pTs.run a b c d f I (q s H C cl fp)⟩)
    (fun s H C cl fp => ⟨fun a b c d f I q => pE.run a b c d f I (q s H C cl fp)⟩) hs, h⟩
theorem s_setLc {i : Nat} {y : Str} {py : Pos} {elt tg iter : Expr} {ifs : List Expr} {scope : Scope} {own : List (Str × Nat)} {spos : Pos} (hN : X.N.Nodup) (hy : X.N[i]? = some y) (hyl : X.env.scope.names.lookup y = some .local)
    (hsw : swapsWith (.ListComp elt [⟨tg, iter, ifs, 0⟩] scope pos) (some (.Name y py)) spos.line X.env = pure true) (ok : BlkOk X.N X.env.scope scope own)
    (h : tLc (wI X tg iter) (bG X scope tg) (bT X scope ifs) (bE X scope elt) (own.map (·.2)) σ H fun v H1 => D.nx (σ.set i (some v)) H1) (hc : X.calm = true := by rfl) (hs : ∀ x, foldedSetIterable iter X.env x = pure x := by intro _; rfl) :
    wS X (.Assign [.Name y py] (.ListComp elt [⟨tg, iter, ifs, 0⟩] scope pos) spos) D σ H :=
  ⟨_, ps_setLc hc hN hy hyl hsw pI ok (fun s H C cl fp => ⟨fun a b c d v u Q I r q => pG.run a b c d v u Q I r (q s H C cl fp)⟩) (fun s H C cl fp => ⟨fun a b c d f I q => pTs.run a b c d f I (q s H C cl fp)⟩)
    (fun s H C cl fp => ⟨fun a b c d f I q => pE.run a b c d f I (q s H C cl fp)⟩) hs, h⟩
end
end Vf
end F_Calls
section F_Tac
set_option Elab.async false
set_option maxRecDepth 100000
set_option maxHeartbeats 4000000
set_option linter.all false
namespace Vf
open PySem PySem.Spec PyProof.Rows L2 LamX
section
variable {X : Cx} {σ : L2.St} {H : Hp} {Q : VK} {pos p1 : Pos}
theorem eb_int {e : Expr} {es : List Expr} (hm : X.mg "int" = none) (h : wA X (e :: es) σ H fun vs H1 => cB X (.type "int") vs H1 Q) (hg : Gl X "int" := by rfl) (he : starEach (e :: es) X.env = (false, eval e X.env) :: starEach es X.env := by rfl) (hpl : (backTo pos (starEach es X.env)).any (·.1) = false := by rfl) : wE X (.Call (.Name "int" p1) (e :: es) [] pos) σ H Q := e_callT h hm (by decide +kernel) hg (by decide) (by decide) he hpl
theorem en_int (hm : X.mg "int" = none) (q : Q (.ty "int") H) (hg : Gl X "int" := by rfl) : wE X (.Name "int" pos) σ H Q := e_bltn (v := .ty "int") (u := .type "int") hg hm (by decide +kernel) rfl q
theorem Ke {e : Expr} {es : List Expr} (hm : X.mg "len" = none) (h : wA X (e :: es) σ H fun vs H1 => cB X (.builtin "len") vs H1 Q) (hg : Gl X "len" := by rfl) (he : starEach (e :: es) X.env = (false, eval e X.env) :: starEach es X.env := by rfl) (hpl : (backTo pos (starEach es X.env)).any (·.1) = false := by rfl) : wE X (.Call (.Name "len" p1) (e :: es) [] pos) σ H Q := Kt h hm (by decide +kernel) hg (by decide) (by decide) he hpl
theorem eb_abs {e : Expr} {es : List Expr} (hm : X.mg "abs" = none) (h : wA X (e :: es) σ H fun vs H1 => cB X (.builtin "abs") vs H1 Q) (hg : Gl X "abs" := by rfl) (he : starEach (e :: es) X.env = (false, eval e X.env) :: starEach es X.env := by rfl) (hpl : (backTo pos (starEach es X.env)).any (·.1) = false := by rfl) : wE X (.Call (.Name "abs" p1) (e :: es) [] pos) σ H Q := Kt h hm (by decide +kernel) hg (by decide) (by decide) he hpl
theorem eb_divmod {e : Expr} {es : List Expr} (hm : X.mg "divmod" = none) (h : wA X (e :: es) σ H fun vs H1 => cB X (.builtin "divmod") vs H1 Q) (hg : Gl X "divmod" := by rfl) (he : starEach (e :: es) X.env = (false, eval e X.env) :: starEach es X.env := by rfl) (hpl : (backTo pos (starEach es X.env)).any (·.1) = false := by rfl) : wE X (.Call (.Name "divmod" p1) (e :: es) [] pos) σ H Q := Kt h hm (by decide +kernel) hg (by decide) (by decide) he hpl
theorem eb_max {e : Expr} {es : List Expr} (hm : X.mg "max" = none) (h : wA X (e :: es) σ H fun vs H1 => cB X (.builtin "max") vs H1 Q) (hg : Gl X "max" := by rfl) (he : starEach (e :: es) X.env = (false, eval e X.env) :: starEach es X.env := by rfl) (hpl : (backTo pos (starEach es X.env)).any (·.1) = false := by rfl) : wE X (.Call (.Name "max" p1) (e :: es) [] pos) σ H Q := Kt h hm (by decide +kernel) hg (by decide) (by decide) he hpl
theorem eb_min {e : Expr} {es : List Expr} (hm : X.mg "min" = none) (h : wA X (e :: es) σ H fun vs H1 => cB X (.builtin "min") vs H1 Q) (hg : Gl X "min" := by rfl) (he : starEach (e :: es) X.env = (false, eval e X.env) :: starEach es X.env := by rfl) (hpl : (backTo pos (starEach es X.env)).any (·.1) = false := by rfl) : wE X (.Call (.Name "min" p1) (e :: es) [] pos) σ H Q := Kt h hm (by decide +kernel) hg (by decide) (by decide) he hpl
theorem KC {e : Expr} {es : List Expr} (hm : X.mg "all" = none) (h : wA X (e :: es) σ H fun vs H1 => cB X (.builtin "all") vs H1 Q) (hg : Gl X "all" := by rfl) (he : starEach (e :: es) X.env = (false, eval e X.env) :: starEach es X.env := by rfl) (hpl : (backTo pos (starEach es X.env)).any (·.1) = false := by rfl) : wE X (.Call (.Name "all" p1) (e :: es) [] pos) σ H Q := Kt h hm (by decide +kernel) hg (by decide) (by decide) he hpl
theorem eb_any {e : Expr} {es : List Expr} (hm : X.mg "any" = none) (h : wA X (e :: es) σ H fun vs H1 => cB X (.builtin "any") vs H1 Q) (hg : Gl X "any" := by rfl) (he : starEach (e :: es) X.env = (false, eval e X.env) :: starEach es X.env := by rfl) (hpl : (backTo pos (starEach es X.env)).any (·.1) = false := by rfl) : wE X (.Call (.Name "any" p1) (e :: es) [] pos) σ H Q := Kt h hm (by decide +kernel) hg (by decide) (by decide) he hpl
theorem eb_tuple {e : Expr} {es : List Expr} (hm : X.mg "tuple" = none) (h : wA X (e :: es) σ H fun vs H1 => cB X (.type "tuple") vs H1 Q) (hg : Gl X "tuple" := by rfl) (he : starEach (e :: es) X.env = (false, eval e X.env) :: starEach es X.env := by rfl) (hpl : (backTo pos (starEach es X.env)).any (·.1) = false := by rfl) : wE X (.Call (.Name "tuple" p1) (e :: es) [] pos) σ H Q := e_callT h hm (by decide +kernel) hg (by decide) (by decide) he hpl
theorem en_tuple (hm : X.mg "tuple" = none) (q : Q (.ty "tuple") H) (hg : Gl X "tuple" := by rfl) : wE X (.Name "tuple" pos) σ H Q := e_bltn (v := .ty "tuple") (u := .type "tuple") hg hm (by decide +kernel) rfl q
theorem eb_dict {e : Expr} {es : List Expr} (hm : X.mg "dict" = none) (h : wA X (e :: es) σ H fun vs H1 => cB X (.type "dict") vs H1 Q) (hg : Gl X "dict" := by rfl) (he : starEach (e :: es) X.env = (false, eval e X.env) :: starEach es X.env := by rfl) (hpl : (backTo pos (starEach es X.env)).any (·.1) = false := by rfl) : wE X (.Call (.Name "dict" p1) (e :: es) [] pos) σ H Q := e_callT h hm (by decide +kernel) hg (by decide) (by decide) he hpl
theorem en_str (hm : X.mg "str" = none) (q : Q (.ty "str") H) (hg : Gl X "str" := by rfl) : wE X (.Name "str" pos) σ H Q := e_bltn (v := .ty "str") (u := .type "str") hg hm (by decide +kernel) rfl q
theorem eb_repr {e : Expr} {es : List Expr} (hm : X.mg "repr" = none) (h : wA X (e :: es) σ H fun vs H1 => cB X (.builtin "repr") vs H1 Q) (hg : Gl X "repr" := by rfl) (he : starEach (e :: es) X.env = (false, eval e X.env) :: starEach es X.env := by rfl) (hpl : (backTo pos (starEach es X.env)).any (·.1) = false := by rfl) : wE X (.Call (.Name "repr" p1) (e :: es) [] pos) σ H Q := Kt h hm (by decide +kernel) hg (by decide) (by decide) he hpl
theorem eb_type {e : Expr} {es : List Expr} (hm : X.mg "type" = none) (h : wA X (e :: es) σ H fun vs H1 => cB X (.type "type") vs H1 Q) (hg : Gl X "type" := by rfl) (he : starEach (e :: es) X.env = (false, eval e X.env) :: starEach es X.env := by rfl) (hpl : (backTo pos (starEach es X.env)).any (·.1) = false := by rfl) : wE X (.Call (.Name "type" p1) (e :: es) [] pos) σ H Q := e_callT h hm (by decide +kernel) hg (by decide) (by decide) he hpl
end
section
variable {X : Cx} {H : Hp} {Q : VK}
theorem c_int {i : Int} (q : Q (.int i) H) : cB X (.type "int") [.int i] H Q := ⟨_, call_int1, .inl ⟨i, rfl, q⟩⟩
theorem c_intB {k : Bool} (q : Q (.int (if k then 1 else 0)) H) : cB X (.type "int") [.bl k] H Q := ⟨_, call_int1, .inr ⟨k, rfl, q⟩⟩
theorem c_abs {i : Int} (q : Q (.int (if i < 0 then -i else i)) H) : cB X (.builtin "abs") [.int i] H Q := ⟨_, call_abs, i, rfl, q⟩
theorem c_divmod {i j : Int} (hc : CDiv i j) (q : ∀ p, H p = none → Q (.ref p) (upd H p (.tup [.int (i / j), .int (i % j)]))) : cB X (.builtin "divmod") [.int i, .int j] H Q := ⟨_, call_divmod, i, j, rfl, hc, q⟩
theorem c_lenL {a : Addr} {xs : List V} (h : SqL X.K H a xs) (q : Q (.int xs.length) H) : cB X (.builtin "len") [.ref a] H Q := ⟨_, call_len_seq, a, xs, rfl, .inl h, q⟩
theorem c_lenT {a : Addr} {xs : List V} (h : SqT X.K H a xs) (q : Q (.int xs.length) H) : cB X (.builtin "len") [.ref a] H Q := ⟨_, call_len_seq, a, xs, rfl, .inr h, q⟩
theorem c_lenS {z : Str} (h : z.length ≤ sizeLine) (q : Q (.int z.length) H) : cB X (.builtin "len") [.str z] H Q := ⟨_, call_len_str, z, rfl, h, q⟩
theorem c_max2 (hc : X.calm = true) {i j : Int} (q : Q (.int (if j > i then j else i)) H) : cB X (.builtin "max") [.int i, .int j] H Q := ⟨_, call_max2 hc, i, j, rfl, q⟩
theorem c_min2 (hc : X.calm = true) {i j : Int} (q : Q (.int (if j < i then j else i)) H) : cB X (.builtin "min") [.int i, .int j] H Q := ⟨_, call_min2 hc, i, j, rfl, q⟩
theorem sl_L {a : Addr} {xs : List V} {lo hi : Option Int} (h : SqL X.K H a xs) (q : ∀ p, H p = none → Q (.ref p) (upd H p (.lst (cutV xs lo hi)))) : slB X (.ref a) lo hi H Q := ⟨_, sl_list, a, xs, rfl, h, q⟩
end
theorem Jb {H : Hp} {p : Addr} {o : HO} (h : H p = none) : Same H (upd H p o) := fun a u e => by rw [upd_ne (ne_of_none e h)]; exact e
end Vf
end F_Tac
section F_SetS
set_option Elab.async false
set_option maxRecDepth 100000
set_option maxHeartbeats 4000000
set_option linter.all false
namespace Vs
open PySem PySem.Spec PyProof.Rows L2
/-- the text of an entry -/
def kOf (e : Int × Value) : Str := match e.2 with | .str k _ => k | _ => Str.empty
variable {P : Program} {w : World}
/-- entries that hold texts: the texts, in some order -/
structure Row (P : Program) (w : World) (l : List (Int × Value)) (ks : List Str) : Prop where
  each : ∀ e ∈ l, ∃ k tk, e.2 = Value.str k tk ∧ e.1 = (PySem.strKind P w).hash k
  perm : (l.map kOf).Perm ks
  once : ks.Nodup
/-- a table that can be walked -/
structure Tab (w : World) (t : SetTable) (n : Nat) : Prop where
  small : n < scanBound
  fit : t.fits n = true
  ris : Ris t.place.toList
  led : w.params.followText "set-order" = true ∨ t.led = true
/-- the set of texts at a -/
def Sx (P : Program) (w : World) (h : Heap) (a : Addr) (ks : List Str) : Prop :=
  ∃ o es ep t, h.get? a = some o ∧ o.ExactSet ∧ o.data = .set es ep t ∧ Row P w es.toList ks ∧ Tab w t es.size
theorem Sx.at {h h' : Heap} {a : Addr} {ks : List Str} (x : Sx P w h a ks) (k : ∀ o, h.get? a = some o → h'.get? a = some o) : Sx P w h' a ks := let ⟨o, es, ep, t, ho, r⟩ := x; ⟨o, es, ep, t, k o ho, r⟩
/-- what has been met of the first i -/
def Met (P : Program) (w : World) (a : Addr) (xs : List Str) (i : Nat) (h : Heap) : Prop := ∃ ks, Sx P w h a ks ∧ (∀ k, k ∈ ks ↔ k ∈ xs.take i) ∧ ks.length ≤ i
theorem Met.at {h h' : Heap} {a : Addr} {xs : List Str} {i : Nat} (m : Met P w a xs i h) (k : ∀ o, h.get? a = some o → h'.get? a = some o) : Met P w a xs i h' := let ⟨ks, x, r⟩ := m; ⟨ks, x.at k, r⟩
end Vs
namespace Vf
open PySem PySem.Spec PyProof.Rows L2
end Vf
end F_SetS
section F_More1
set_option Elab.async false
set_option maxRecDepth 100000
set_option maxHeartbeats 4000000
set_option linter.all false
namespace Vf
open PySem PySem.Spec PyProof.Rows L2 LamX
/-- the text of one sign -/
def lt (c : Nat) : Str := ⟨#[c]⟩
theorem lt_inj {a b : Nat} (h : lt a = lt b) : a = b := by
  have := congrArg Str.cps h
  have := congrArg Array.toList this
  simpa [lt] using this
/-- letters as values -/
def lv (c : Nat) : V := .str (lt c)
section
variable {X : Cx} {σ : L2.St} {H : Hp} {Q : VK} {pos p1 : Pos}
theorem o_eqD {x y : V} {d e : PyData} (hu : X.A.units + 64 < cLine) (hx : Dp X.K H x d) (hy : Dp X.K H y e) (sx : SeqAt.shaped d = true) (sy : SeqAt.shaped e = true) (q : Q (.bl (PyData.eqv d e)) H) : oB X (compareOp .Eq) x y H Q := ⟨_, op_eqD hu, d, e, hx, hy, sx, sy, q⟩
theorem o_neD {x y : V} {d e : PyData} (hu : X.A.units + 64 < cLine) (hx : Dp X.K H x d) (hy : Dp X.K H y e) (sx : SeqAt.shaped d = true) (sy : SeqAt.shaped e = true) (q : Q (.bl (!PyData.eqv d e)) H) : oB X (compareOp .NotEq) x y H Q := ⟨_, op_neD hu, d, e, hx, hy, sx, sy, q⟩
theorem o_catT {a b : Addr} {xs ys : List V} (hx : SqT X.K H a xs) (hy : SqT X.K H b ys) (nx : xs ≠ []) (ny : ys ≠ []) (hl : xs.length + ys.length ≤ sizeLine) (q : ∀ p, H p = none → Q (.ref p) (upd H p (.tup (xs ++ ys)))) : oB X (binaryOp .Add) (.ref a) (.ref b) H Q :=
  ⟨_, op_catT, a, b, xs, ys, rfl, rfl, hx, hy, nx, hl, fun z => absurd z ny, fun _ => q⟩
theorem o_ltStr {i j : Str} (q : Q (.bl (decide (i.cps.toList < j.cps.toList))) H) : oB X (compareOp .Lt) (.str i) (.str j) H Q := ⟨_, op_lt_str, i, j, rfl, rfl, q⟩
theorem c_tupleT {a : Addr} {xs : List V} (h : SqT X.K H a xs) (q : Q (.ref a) H) : cB X (.type "tuple") [.ref a] H Q := ⟨_, call_tuple_of, a, xs, rfl, .inr ⟨h, q⟩⟩
theorem m_append {a : Addr} {xs : List V} {y : V} (h : H a = some (.lst xs)) (hl : xs.length < sizeLine) (q : Q .non (upd H a (.lst (xs ++ [y])))) : mB X "list.append" (.ref a) [y] H Q := ⟨_, mt_append, a, xs, y, rfl, rfl, h, hl, q⟩
/-- o.append(e) -/
theorem e_append {o e : Expr} (h : wE X o σ H fun x H1 => tyV X.K "list" x H1 ∧ wA X [e] σ H1 fun xs H2 => mB X "list.append" x xs H2 Q) (hbase : attributeBase o "append" X.env (eval o X.env) = eval o X.env := by rfl)
    (hfew : ((backTo pos (starEach [e] X.env)).all (fun x => !x.1) && (backToKw pos (keywordEach [] X.env)).all (fun x => x.1.isSome)
      && decide ([e].length + ([] : List Keyword).length + (if ([] : List Keyword).isEmpty then 0 else 1) < 30)) = true := by rfl)
    (hline : (p1.endLine == pos.line) = true := by rfl) (hs : starEach [e] X.env = (false, eval e X.env) :: starEach [] X.env := by rfl) (hplain : (backTo pos (starEach [] X.env)).any (·.1) = false := by rfl) :
    wE X (.Call (.Attribute o "append" p1) [e] [] pos) σ H Q := e_bm PySem.F.plainAttrs_list PySem.F.slot_list_append PySem.F.type_list_append h hbase hfew hline hs hplain
end
inductive Wh
  | part (n d : Int)
  | ways (l : List Nat)
def WhAt (K : PySem.W.Frag) (H : Hp) (v : V) : Wh → Prop
  | .part n d => ∃ p, v = .ref p ∧ SqT K H p [.int n, .int d]
  | .ways l => ∃ p, v = .ref p ∧ SqT K H p (l.map lv)
def RowAt (K : PySem.W.Frag) (H : Hp) (v : V) (r : Nat × Wh) : Prop := ∃ p q, v = .ref p ∧ SqT K H p [lv r.1, q] ∧ WhAt K H q r.2
/-- things in a row that stand for things in a row -/
inductive All2 {α β : Type} (R : α → β → Prop) : List α → List β → Prop
  | nil : All2 R [] []
  | cons {a b as bs} : R a b → All2 R as bs → All2 R (a :: as) (b :: bs)
theorem All2.mono {α β : Type} {R S : α → β → Prop} {as : List α} {bs : List β} (h : All2 R as bs) (k : ∀ a b, R a b → S a b) : All2 S as bs := by
  induction h with
  | nil => exact .nil
  | cons r _ ih => exact .cons (k _ _ r) ih
theorem All2.len {α β : Type} {R : α → β → Prop} {as : List α} {bs : List β} (h : All2 R as bs) : as.length = bs.length := by
  induction h with
  | nil => rfl
  | cons _ _ ih => rw [List.length_cons, List.length_cons, ih]
theorem All2.get {α β : Type} {R : α → β → Prop} {as : List α} {bs : List β} (h : All2 R as bs) : ∀ {i : Nat} {a : α}, as[i]? = some a → ∃ b, bs[i]? = some b ∧ R a b := by
  induction h with
  | nil => intro i a e; simp at e
  | cons r _ ih =>
    intro i a e
    cases i with
    | zero => exact ⟨_, rfl, by simp at e; rw [← e]; exact r⟩
    | succ i => simp at e; obtain ⟨b, z, q⟩ := ih e; exact ⟨b, by simpa using z, q⟩
theorem All2.set {α β : Type} {R : α → β → Prop} {as : List α} {bs : List β} {a : α} {b : β} (h : All2 R as bs) (r : R a b) (i : Nat) : All2 R (as.set i a) (bs.set i b) := by
  induction h generalizing i with
  | nil => exact .nil
  | cons r' t ih =>
    cases i with
    | zero => exact .cons r t
    | succ i => exact .cons r' (ih i)
abbrev RowsAt (K : PySem.W.Frag) (H : Hp) : List V → List (Nat × Wh) → Prop := All2 (RowAt K H)
/-- all tuples stay -/
def Tk (K : PySem.W.Frag) (H H' : Hp) : Prop := ∀ a xs, SqT K H a xs → SqT K H' a xs
theorem Tk.refl {K : PySem.W.Frag} {H : Hp} : Tk K H H := fun _ _ h => h
theorem Tk.trans {K : PySem.W.Frag} {H H1 H2 : Hp} (a : Tk K H H1) (b : Tk K H1 H2) : Tk K H H2 := fun x xs h => b x xs (a x xs h)
theorem Tk.of {K : PySem.W.Frag} {H H1 : Hp} (s : Same H H1) : Tk K H H1 := fun a xs h => h.imp (fun z => z.imp (s _ _) fun ⟨o, z⟩ => ⟨o, s _ _ z⟩) id
/-- a list's own change keeps the tuples -/
theorem Tk.upd {K : PySem.W.Frag} {H : Hp} {l : Addr} {xs ys : List V} (h : H l = some (.lst xs)) : Tk K H (upd H l (.lst ys)) := fun a zs q => q.imp (fun z => by
    have na : a ≠ l := fun e => by
      rw [e] at z
      rcases z with z | ⟨o, z⟩ <;> (rw [h] at z; cases z)
    exact z.imp (fun z => by rw [upd_ne na]; exact z) fun ⟨o, z⟩ => ⟨o, by rw [upd_ne na]; exact z⟩) id
theorem WhAt.tk {K : PySem.W.Frag} {H H' : Hp} {v : V} {x : Wh} (h : WhAt K H v x) (t : Tk K H H') : WhAt K H' v x := by
  cases x with
  | part n d => exact let ⟨p, e, q⟩ := h; ⟨p, e, t _ _ q⟩
  | ways l => exact let ⟨p, e, q⟩ := h; ⟨p, e, t _ _ q⟩
theorem RowAt.tk {K : PySem.W.Frag} {H H' : Hp} {v : V} {r : Nat × Wh} (h : RowAt K H v r) (t : Tk K H H') : RowAt K H' v r := let ⟨p, q, e, s, z⟩ := h; ⟨p, q, e, t _ _ s, z.tk t⟩
theorem RowsAt.tk {K : PySem.W.Frag} {H H' : Hp} {vs : List V} {rs : List (Nat × Wh)} (h : RowsAt K H vs rs) (t : Tk K H H') : RowsAt K H' vs rs := h.mono fun _ _ z => z.tk t
end Vf
end F_More1
section F_Data
set_option Elab.async false
set_option maxRecDepth 100000
set_option maxHeartbeats 4000000
set_option linter.all false
namespace Vf
open PySem PySem.Spec PyProof.Rows L2 LamX
end Vf
end F_Data
section F_Order
set_option Elab.async false
set_option maxRecDepth 100000
set_option linter.all false
namespace Vf
open PySem PySem.Spec PyProof.Rows L2 LamX
def code (x : Str) : Nat := x.cps.getD 0 0
end Vf
end F_Order
section F_SortT
set_option Elab.async false
set_option maxRecDepth 100000
set_option maxHeartbeats 4000000
set_option linter.all false
namespace Vf
open PySem PySem.Spec PyProof.Rows L2
end Vf
end F_SortT
section F_Nm
set_option Elab.async false
set_option maxRecDepth 100000
set_option maxHeartbeats 4000000
set_option linter.all false
namespace Vf
open PySem PySem.Spec PyProof.Rows L2 LamX
/-- type(x) == T -/
def tyEq : R2 := fun x y H Q => ∃ a b, x = .ty a ∧ y = .ty b ∧ (∀ s' : Shared, s'.TypeIs (.type a) "type") ∧ (∀ s' : Shared, s'.TypeIs (.type b) "type") ∧ Q (.bl (decide (a = b))) H
section
variable {X : Cx} {σ : L2.St} {H : Hp} {Q : VK} {pos p1 : Pos}
theorem op_tyEq : OpR X (compareOp .Eq) tyEq := by
  intro pins s σ H x y v u Q I rx ry ⟨a, b, ex, ey, ma, mb, q⟩
  subst ex ey
  cases (show v = Value.type a from rx)
  cases (show u = Value.type b from ry)
  by_cases e : a = b
  · subst e
    rw [decide_eq_true rfl] at q
    exact PySem.TypeEq.eq_type_same ma ⟨.bl true, H, I, rfl, q⟩
  · rw [decide_eq_false e] at q
    exact PySem.TypeEq.eq_type_other ma mb (by rw [ty_beq, decide_eq_false e]) ⟨.bl false, H, I, rfl, q⟩
theorem o_ty {a b : String} (ha : ∀ s' : Shared, s'.TypeIs (.type a) "type") (hb : ∀ s' : Shared, s'.TypeIs (.type b) "type") (q : Q (.bl (decide (a = b))) H) : oB X (compareOp .Eq) (.ty a) (.ty b) H Q := ⟨_, op_tyEq, a, b, rfl, rfl, ha, hb, q⟩
theorem c_type {v : V} {T : String} (h : TyB X.K H v T) (q : Q (.ty T) H) : cB X (.type "type") [v] H Q := ⟨_, call_type1, v, T, rfl, h, q⟩
theorem o_leStr {i j : Str} (q : Q (.bl (!decide (j.cps.toList < i.cps.toList))) H) : oB X (compareOp .LtE) (.str i) (.str j) H Q := ⟨_, op_le_str, i, j, rfl, rfl, q⟩
theorem c_gcd {a b : Int} (q : Q (.int ((Int.gcd a b : Nat) : Int)) H) : cB X (.builtin "math.gcd") [.int a, .int b] H Q := ⟨_, cr_gcd, a, b, rfl, q⟩
theorem e_gcd {e : Expr} {es : List Expr} (hm : X.mg "gcd" = some (.builtin "math.gcd")) (h : wA X (e :: es) σ H fun vs H1 => cB X (.builtin "math.gcd") vs H1 Q) (hg : Gl X "gcd" := by rfl)
    (he : starEach (e :: es) X.env = (false, eval e X.env) :: starEach es X.env := by rfl) (hpl : (backTo pos (starEach es X.env)).any (·.1) = false := by rfl) : wE X (.Call (.Name "gcd" p1) (e :: es) [] pos) σ H Q := ⟨_, pe_callBfun pCB hg hm pA (by decide) he hpl, h⟩
theorem e_chain {a b c : Expr} {op op' : CmpOp} (h : wE X a σ H fun x H1 => wE X b σ H1 fun y H2 => oB X (compareOp op) x y H2 fun z H3 => ∃ k, z = .bl k ∧ if k = true then wE X c σ H3 fun v H4 => oB X (compareOp op') y v H4 Q else Q (.bl false) H3) (hm : lastMarks [op, op'] [b, c] = false := by rfl) : wE X (.Compare a [op, op'] [b, c] pos) σ H Q :=
  ⟨_, pe_chain pO pO pE pE pE hm, h⟩
theorem t_chain {a b c : Expr} {op op' : CmpOp} {R : Bool → Hp → Prop} (h : wE X a σ H fun x H1 => wE X b σ H1 fun y H2 => oB X (compareOp op) x y H2 fun z H3 => ∃ k, z = .bl k ∧ if k = true then wE X c σ H3 fun v H4 => oB X (compareOp op') y v H4 fun z H5 => ∃ k, z = .bl k ∧ R k H5 else ∃ k, V.bl false = .bl k ∧ R k H3) (hm : lastMarks [op, op'] [b, c] = false := by rfl) : wT X (.Compare a [op, op'] [b, c] pos) σ H R :=
  ⟨_, pt_chain pO pO pE pE pE hm, h⟩
end
section
variable {X : Cx} {H : Hp} {Q : VK}
theorem ix_P {p : Addr} {xs : List V} {i : Int} {v : V} (h : SqT X.K H p xs ∨ SqL X.K H p xs) (e : atI xs i = some v) (q : Q v H) : ixB X (.ref p) (.int i) H Q := h.elim (fun z => ix_T z e q) (fun z => ix_L z e q)
theorem c_lenP {p : Addr} {xs : List V} (h : SqT X.K H p xs ∨ SqL X.K H p xs) (q : Q (.int xs.length) H) : cB X (.builtin "len") [.ref p] H Q := h.elim (fun z => c_lenT z q) (fun z => c_lenL z q)
theorem c_all {a : Addr} {bs : List Bool} (hc : X.calm = true) (h : SqL X.K H a (bs.map V.bl)) (q : Q (.bl (bs.all id)) H) : cB X (.builtin "all") [.ref a] H Q := ⟨_, cr_all hc, a, bs, rfl, h, q⟩
theorem c_any {a : Addr} {bs : List Bool} (hc : X.calm = true) (h : SqL X.K H a (bs.map V.bl)) (q : Q (.bl (bs.any id)) H) : cB X (.builtin "any") [.ref a] H Q := ⟨_, cr_any hc, a, bs, rfl, h, q⟩
end
def isLet : V → Prop
  | .str z => ∃ c, 97 ≤ c ∧ c ≤ 122 ∧ z = lt c
  | _ => False
end Vf
end F_Nm
section F_Dct
set_option Elab.async false
set_option maxRecDepth 100000
set_option maxHeartbeats 4000000
set_option linter.all false
namespace Vf
open PySem PySem.Spec PyProof.Rows L2 LamX
section
variable {X : Cx} {σ : L2.St} {H : Hp} {Q : VK} {D : Ends} {pos p1 : Pos}
theorem e_dc {kx vx tg iter : Expr} {ifs : List Expr} {scope : Scope} {own : List (Str × Nat)} (hN : X.N.Nodup) (ok : BlkOk X.N X.env.scope scope own) (h : tDc (wI X tg iter) (bG X scope tg) (bT X scope ifs) (bE X scope kx) (bE X scope vx) (own.map (·.2)) σ H Q)
    (hc : X.calm = true := by rfl) (hs : ∀ x, foldedSetIterable iter X.env x = pure x := by intro _; rfl) : wE X (.DictComp kx vx [⟨tg, iter, ifs, 0⟩] scope pos) σ H Q :=
  ⟨_, pe_dc hc hN pI ok (fun s H C cl fp => ⟨fun a b c d v u Q I r q => pG.run a b c d v u Q I r (q s H C cl fp)⟩) (fun s H C cl fp => ⟨fun a b c d f I q => pTs.run a b c d f I (q s H C cl fp)⟩)
    (fun s H C cl fp => ⟨fun a b c d f I q => pE.run a b c d f I (q s H C cl fp)⟩) (fun s H C cl fp => ⟨fun a b c d f I q => pE.run a b c d f I (q s H C cl fp)⟩) hs, h⟩
theorem e_inD {i o : Expr} (hu : X.A.units + 1 < cLine) (h : wE X i σ H fun y H1 => wE X o σ H1 fun x H2 => ∃ a r, x = .ref a ∧ DGet H2 a y r ∧ Q (.bl r.isSome) H2) (hm : behindInMarks .In o = false := by rfl) : wE X (.Compare i [.In] [o] pos) σ H Q := ⟨_, pe_cmp (pc_din hu pE pE) hm, h⟩
theorem t_notinD {i o : Expr} {R : Bool → Hp → Prop} (hu : X.A.units + 1 < cLine) (h : wE X i σ H fun y H1 => wE X o σ H1 fun x H2 => ∃ a r, x = .ref a ∧ DGet H2 a y r ∧ ∃ c, V.bl (!r.isSome) = .bl c ∧ R c H2) (hm : behindInMarks .NotIn o = false := by rfl) : wT X (.Compare i [.NotIn] [o] pos) σ H R := ⟨_, pt_cmp (pc_dnotin hu pE pE) hm, h⟩
theorem set_D {a : Addr} {i v : V} {R : Hp → Prop} {H' : Hp} (hu : X.A.units + 1 < cLine) (h : DPut H a i v H') (q : R H') : setB X (.ref a) i v H R := ⟨_, set_dict hu, a, H', rfl, h, q⟩
end
/-- a dict whose keys are the letters of which L holds -/
def LetD (H : Hp) (a : Addr) (m : Nat) (L : Nat → Prop) : Prop := ∃ kvs : List (Key × V), H a = some (.dK kvs) ∧ kvs.length ≤ m ∧ ∀ c, (valV kvs (.inr (lt c))).isSome = true ↔ L c
theorem LetD.get {H : Hp} {a : Addr} {m : Nat} {L : Nat → Prop} (h : LetD H a m L) (c : Nat) : ∃ r, DGet H a (lv c) r ∧ (r.isSome = true ↔ L c) := by
  obtain ⟨kvs, e, _, q⟩ := h
  exact ⟨valV kvs (.inr (lt c)), .inl ⟨kvs, .inr (lt c), .inl e, rfl, rfl⟩, q c⟩
theorem putK_len {κ : Type} [DecidableEq κ] (kvs : List (κ × V)) (k : κ) (v : V) : (putK kvs k v).length ≤ kvs.length + 1 := by
  unfold putK
  split
  · rw [List.length_map]; omega
  · rw [List.length_append, List.length_singleton]; omega
theorem valV_letter (kvs : List (Key × V)) (c d : Nat) (v : V) : (valV (putK kvs (.inr (lt c)) v) (.inr (lt d))).isSome = true ↔ (valV kvs (.inr (lt d))).isSome = true ∨ d = c := by
  rw [valV_put]
  by_cases e : d = c
  · subst e; simp
  · have n : ¬ ((.inr (lt d) : Key) = .inr (lt c)) := fun z => e (lt_inj (by injection z))
    rw [if_neg n]
    simp [e]
theorem LetD.put {H : Hp} {a : Addr} {m : Nat} {L : Nat → Prop} (h : LetD H a m L) (hm : m < 100000) (c : Nat) (v : V) : ∃ kvs, H a = some (.dK kvs) ∧ kvs.length < sizeLine ∧ LetD (upd H a (.dK (putK kvs (.inr (lt c)) v))) a (m + 1) (fun d => L d ∨ d = c) := by
  obtain ⟨kvs, e, l, q⟩ := h
  refine ⟨kvs, e, by rw [sizeLine_eq]; omega, _, upd_same, by have := putK_len kvs (.inr (lt c)) v; omega, fun d => ?_⟩
  rw [valV_letter, q]
theorem LetD.mono {H : Hp} {a : Addr} {m n : Nat} {L : Nat → Prop} (h : LetD H a m L) (k : m ≤ n) : LetD H a n L := let ⟨kvs, e, l, q⟩ := h; ⟨kvs, e, by omega, q⟩
theorem LetD.same {H H' : Hp} {a : Addr} {m : Nat} {L : Nat → Prop} (h : LetD H a m L) (k : Same H H') : LetD H' a m L := let ⟨kvs, e, l, q⟩ := h; ⟨kvs, k _ _ e, l, q⟩
end Vf
end F_Dct
section F_Lc2
set_option Elab.async false
set_option maxRecDepth 100000
set_option maxHeartbeats 4000000
set_option linter.all false
namespace Vf
open PySem PySem.Spec PyProof.Rows L2 LamX
def bI (X : Cx) (scope : Scope) (tg it : Expr) : TI := fun σ H R => ∀ (s : Shared) (H0 : Hp) (C : Addr) (cl : List (Str × Addr)) (fp : List Addr), wI (X.blk s H0 scope (compEnvC scope cl C X.env) fp) tg it σ H R
section
variable {X : Cx} {σ : L2.St} {H : Hp} {Q : VK} {D : Ends} {pos p1 : Pos}
theorem s_setLc2 {i : Nat} {y : Str} {py : Pos} {elt tg iter tg1 iter1 : Expr} {ifs ifs1 : List Expr} {scope : Scope} {own : List (Str × Nat)} {vs1 : List Nat} {spos : Pos} (hN : X.N.Nodup) (hy : X.N[i]? = some y) (hyl : X.env.scope.names.lookup y = some .local)
    (hsw : swapsWith (.ListComp elt [⟨tg, iter, ifs, 0⟩, ⟨tg1, iter1, ifs1, 0⟩] scope pos) (some (.Name y py)) spos.line X.env = pure true) (ok : BlkOk X.N X.env.scope scope own) (hv : ∀ i ∈ vs1, i ∈ own.map (·.2))
    (h : tLc2 (wI X tg iter) (bG X scope tg) (bT X scope ifs) (bI X scope tg1 iter1) (bG X scope tg1) (bT X scope ifs1) (bE X scope elt) (own.map (·.2)) vs1 σ H fun v H1 => D.nx (σ.set i (some v)) H1) (hc : X.calm = true := by rfl)
    (hs : ∀ x, foldedSetIterable iter X.env x = pure x := by intro _; rfl) (hs1 : ∀ env x, foldedSetIterable iter1 env x = pure x := by intro _ _; rfl) :
    wS X (.Assign [.Name y py] (.ListComp elt [⟨tg, iter, ifs, 0⟩, ⟨tg1, iter1, ifs1, 0⟩] scope pos) spos) D σ H :=
  ⟨_, ps_setLc2 hc hN hy hyl hsw pI ok hv (fun s H C cl fp => ⟨fun a b c d v u Q I r q => pG.run a b c d v u Q I r (q s H C cl fp)⟩) (fun s H C cl fp => ⟨fun a b c d f I q => pTs.run a b c d f I (q s H C cl fp)⟩)
    (fun s H C cl fp => ⟨fun a b c d R I q => pI.run a b c d R I (q s H C cl fp)⟩) (fun s H C cl fp => ⟨fun a b c d v u Q I r q => pG.run a b c d v u Q I r (q s H C cl fp)⟩) (fun s H C cl fp => ⟨fun a b c d f I q => pTs.run a b c d f I (q s H C cl fp)⟩)
    (fun s H C cl fp => ⟨fun a b c d f I q => pE.run a b c d f I (q s H C cl fp)⟩) hs hs1, h⟩
theorem o_isN {x : V} (q : Q (.bl (decide (x = .non))) H) : oB X (compareOp .Is) x .non H Q := ⟨_, op_isN, rfl, q⟩
end
end Vf
end F_Lc2
section F_Txts
set_option Elab.async false
set_option maxRecDepth 100000
set_option maxHeartbeats 4000000
set_option linter.all false
namespace Vf
open PySem PySem.Spec PyProof.Rows L2 LamX
open SX (S)
section
variable {X : Cx} {σ : L2.St} {H : Hp} {Q : VK} {pos p1 : Pos}
theorem i_str {tg e : Expr} {R : It → Hp → Prop} (h : wE X e σ H fun v H1 => ∃ x, v = .str x ∧ R (Its x) H1) : wI X tg e σ H R := ⟨_, pi_str pE, h⟩
theorem c_intStr {a : List Nat} {n : Int} (h : intText? (S a) = some n) (hl : a.length ≤ 640) (q : Q (.int n) H) : cB X (.type "int") [.str (S a)] H Q := ⟨_, call_int_str, S a, n, rfl, h, by rw [SX.S_len]; exact hl, q⟩
end
end Vf
namespace Vf
open PySem PySem.Spec PyProof.Rows L2 LamX
open SX (S)
end Vf
end F_Txts
section F_DictT
set_option Elab.async false
set_option maxRecDepth 100000
set_option maxHeartbeats 4000000
set_option linter.all false
namespace Vf
open PySem PySem.Spec PyProof.Rows L2 LamX
theorem list_of {α : Type} (R : Nat → α → Prop) : ∀ n, (∀ j, j < n → ∃ x, R j x) → ∃ l : List α, l.length = n ∧ ∀ j x, l[j]? = some x → R j x
  | 0, _ => ⟨[], rfl, fun j x h => by simp at h⟩
  | n + 1, h => by
    obtain ⟨l, hl, hr⟩ := list_of R n fun j hj => h j (Nat.lt_succ_of_lt hj)
    obtain ⟨x, hx⟩ := h n (Nat.lt_succ_self n)
    refine ⟨l ++ [x], by rw [List.length_append, hl]; rfl, fun j y e => ?_⟩
    by_cases c : j < l.length
    · rw [List.getElem?_append_left c] at e
      exact hr j y e
    · rw [List.getElem?_append_right (by omega)] at e
      have : j - l.length = 0 := by
        cases q : j - l.length with
        | zero => rfl
        | succ k => rw [q] at e; simp at e
      rw [this] at e
      simp at e
      have ej : j = n := by omega
      rw [ej, ← e]
      exact hx
section
variable {X : Cx}
/-- a plain tuple: nothing hangs on it -/
def PlT (H : Hp) (p : Addr) (xs : List V) : Prop := ∃ ob, H p = some (.frz ob (.tup xs)) ∧ ob.cls = .type "tuple" ∧ ob.dict = none
theorem PlT.sq {K : PySem.W.Frag} {H : Hp} {p : Addr} {xs : List V} (h : PlT H p xs) : SqT K H p xs := let ⟨ob, e, _⟩ := h; .inl (.inr ⟨ob, e⟩)
theorem PlT.same {H H' : Hp} {p : Addr} {xs : List V} (h : PlT H p xs) (s : ∀ a o, H a = some o → H' a = some o) : PlT H' p xs := let ⟨ob, e, r⟩ := h; ⟨ob, s _ _ e, r⟩
def rTupFz (K : PySem.W.Frag) : List V → Hp → VK → Prop := fun vs H Q => ∃ (a : Addr) (xs : List V), vs = [.ref a] ∧ SqL K H a xs ∧ ∀ (p : Addr) (ob : Obj), H p = none → ob.cls = .type "tuple" → ob.dict = none → Q (.ref p) (upd H p (.frz ob (.tup xs)))
theorem cr_tupFz : CallR X (.type "tuple") (rTupFz X.K) := by
  intro pins s σ H vs us Q I r h
  obtain ⟨a, xs, rfl, hq, q⟩ := h
  rw [Vals.ref1 r]
  obtain ⟨its, rv, pl, hz⟩ := I.list hq
  have len := rv.length
  refine call_tuple_list pl.isList (fun h' kp => ?_) (by simp only [List.size_toArray] <;> omega)
  have I1 : Inv X pins σ H { s with heap := h' } := I.kept (t' := s.toks) kp
  have new : (h'.push { cls := .type "tuple", data := .seq its.toArray }).get? h'.objs.size = some { cls := .type "tuple", data := .seq its.toArray } := Heap.get?_push_size _ rfl
  exact ⟨.ref h'.objs.size, _, I1.laid (t' := s.toks) (o := .frz { cls := .type "tuple", data := .seq its.toArray } (.tup xs)) (fun b o e => Heap.get?_push_of_some _ e) (Nat.le_refl _) ⟨new, hz, its, rv, IsTup.new _ _⟩, rfl, q _ _ (I1.hok.fresh (Nat.le_refl _)) rfl rfl⟩
theorem c_tupFz {H : Hp} {Q : VK} {a : Addr} {xs : List V} (h : SqL X.K H a xs) (q : ∀ p H', H p = none → Same H H' → PlT H' p xs → Q (.ref p) H') : cB X (.type "tuple") [.ref a] H Q :=
  ⟨_, cr_tupFz, a, xs, rfl, h, fun p ob n c d => q p _ n (Jb n) ⟨ob, upd_same, c, d⟩⟩
def rDictT (K : PySem.W.Frag) : List V → Hp → VK → Prop := fun xs H Q => ∃ (a : Addr) (ps : List Addr) (kvs : List (Key × V)), xs = [.ref a] ∧ PlT H a (ps.map V.ref) ∧ Paired (fun p kv => SqT K H p [kV kv.1, kv.2]) ps kvs ∧ ∀ p, H p = none → Q (.ref p) (upd H p (.dK (mergeK [] kvs)))
theorem cr_dictT (hcalm : X.calm = true) : CallR X (.type "dict") (rDictT X.K) := by
  intro pins s σ H xs us Q I r q
  obtain ⟨a, ps, kvs, rfl, ha, hp, q⟩ := q
  rw [Vals.ref1 r]
  obtain ⟨ob, ha, hc, hdn⟩ := ha
  obtain ⟨hob, hz, its, rv, ob', hob', hc', n, hdat⟩ := (show ObjOk X.prog X.w H s.heap a (.frz ob (.tup (ps.map V.ref))) from I.hok a _ ha)
  rw [hob] at hob'
  cases hob'
  have ei := refs_at rv
  subst ei
  rw [List.length_map] at hz
  obtain ⟨prs, rel, hl, hpr⟩ := pairs_of I hp
  obtain ⟨qs, ql, hq⟩ := list_of (fun j (x : Value × Value) => ∃ k b, prs[j]? = some (k, x.2) ∧ ps[j]? = some b ∧ s.heap.IsTuple b #[x.1, x.2] ∧ keyIs k x.1 = true) prs.length (fun j hj => by
    obtain ⟨b, u, e1, e2, e3⟩ := hpr j prs[j] (List.getElem?_eq_getElem hj)
    exact ⟨(u, prs[j].2), prs[j].1, b, List.getElem?_eq_getElem hj, e1, e2, e3⟩)
  have A := PySem.PairArg.tuple (prog := X.prog) (w := X.w) a (ps.map Value.ref).toArray (fun j => ps.getD j 0) qs
  refine PySem.call_dict_pairs (knd := mixKind X.prog X.w) (kvs := prs) A (I.ok.hd hcalm) ⟨⟨_, n, hob, hc, hdn, hdat⟩, ?_, fun j k v e => ?_⟩ ⟨ql.symm, fun i key v e => ?_⟩ (by rw [ql, hl]; exact hz) fun h' tk hd' k => ?_
  · rw [List.size_toArray, List.length_map, ql, hl]
  · obtain ⟨k', b, e1, e2, e3, e4⟩ := hq j (k, v) e
    have eb : ps.getD j 0 = b := by rw [List.getD_eq_getElem?_getD, e2]; rfl
    refine ⟨?_, .inl ?_⟩
    · show (ps.map Value.ref).toArray[j]? = _
      rw [List.getElem?_toArray, List.getElem?_map, e2]
      show some (Value.ref b) = some (Value.ref (ps.getD j 0))
      rw [eb]
    · show s.heap.IsTuple (ps.getD j 0) #[k, v]
      rw [eb]; exact e3
  · obtain ⟨k', b, e1, e2, e3, e4⟩ := hq i (key, v) e
    exact ⟨k', e1, e4⟩
  · have hm : (s.heap.objs.size == sysModules) = false := beq_eq_false_iff_ne.mpr (Nat.ne_of_gt I.big)
    have hlen : (mergeK [] kvs).length ≤ sizeLine := by
      have := length_mergeK kvs []
      rw [List.length_nil, Nat.zero_add, rel.length, hl] at this
      exact Nat.le_trans this hz
    exact ⟨.ref s.heap.objs.size, upd H s.heap.objs.size (.dK (mergeK [] kvs)), I.laid (t' := tk) (fun b o e => k b o (fun z => nomatch z) e) (Nat.le_refl _) (show ObjOk X.prog X.w _ _ _ (.dK (mergeK [] kvs)) from ⟨hlen, hm, merged [] prs, KV.merge rel .nil, hd'⟩), rfl, q _ (I.hok.fresh (Nat.le_refl _))⟩
theorem c_dictT {H : Hp} {Q : VK} {a : Addr} {ps : List Addr} {kvs : List (Key × V)} (hc : X.calm = true) (ha : PlT H a (ps.map V.ref)) (hp : Paired (fun p kv => SqT X.K H p [kV kv.1, kv.2]) ps kvs) (q : ∀ p, H p = none → Q (.ref p) (upd H p (.dK (mergeK [] kvs)))) : cB X (.type "dict") [.ref a] H Q :=
  ⟨_, cr_dictT hc, a, ps, kvs, rfl, ha, hp, q⟩
end
end Vf
end F_DictT
section F_Wb
set_option Elab.async false
set_option maxRecDepth 100000
set_option maxHeartbeats 4000000
set_option linter.all false
namespace Vf
open PySem PySem.Spec PyProof.Rows L2 LamX
/-- the web at a, with its rows; pl: its rows are a plain tuple -/
def WebAt (pl : Bool) (K : PySem.W.Frag) (H : Hp) (C a : Addr) (rs : List (Nat × Wh)) : Prop := ∃ dx p xs, H a = some (.ins C dx [("_rows", .ref p)]) ∧ SqT K H p xs ∧ RowsAt K H xs rs ∧ (pl = true → PlT H p xs)
theorem WebAt.same {pl : Bool} {K : PySem.W.Frag} {H H' : Hp} {C a : Addr} {rs : List (Nat × Wh)} (h : WebAt pl K H C a rs) (s : Same H H') : WebAt pl K H' C a rs := let ⟨dx, p, xs, e, hp, hx, q⟩ := h; ⟨dx, p, xs, s _ _ e, Tk.of s _ _ hp, hx.tk (Tk.of s), fun z => (q z).same s⟩
end Vf
end F_Wb
section F_Stat
set_option Elab.async false
set_option maxRecDepth 100000
set_option maxHeartbeats 4000000
set_option linter.all false
namespace Vf
open PySem PySem.Spec PyProof.Rows L2 LamX
end Vf
end F_Stat
section F_Kw
set_option Elab.async false
set_option maxRecDepth 100000
set_option maxHeartbeats 4000000
set_option linter.all false
namespace Vf
open PySem PySem.Spec PyProof.Rows L2 LamX
end Vf
end F_Kw
section F_Tr1
set_option Elab.async false
set_option maxRecDepth 100000
set_option maxHeartbeats 4000000
set_option linter.all false
namespace Tr
open PySem PySem.Spec PyProof.Rows L2 LamX Vf
open SX (S)
/-- a value without addresses -/
inductive T where
  | non | bl (b : Bool) | int (i : Int) | str (l : List Nat) | ty (n : String) | cst (a : Addr)
  | tup (l : List T) | tpu (l : List T) | sq (l : List T) | lst (l : List T) | dct (l : List (Key × T)) | obj (C : Addr) (fs : List (Str × T))
/-- a list that nobody writes -/
def SqF (K : PySem.W.Frag) (H : Hp) (p : Addr) (vs : List V) : Prop := (∃ ob, H p = some (.frz ob (.lst vs))) ∨
  ∃ (o : Obj) (its : Array Value) (n : Nat), K.lookup p = some o ∧ o.cls = .type "list" ∧ o.dict = none ∧ o.data = .seq its n ∧ its.size ≤ sizeLine ∧ Vals vs its.toList
mutual
/-- v is t; what is private (A) is not met within -/
inductive Rp (K : PySem.W.Frag) (H : Hp) (A : Addr → Prop) : T → V → Prop
  | non : Rp K H A .non .non
  | bl (b : Bool) : Rp K H A (.bl b) (.bl b)
  | int (i : Int) : Rp K H A (.int i) (.int i)
  | str (l : List Nat) : Rp K H A (.str l) (.str (S l))
  | ty (n : String) : Rp K H A (.ty n) (.ty n)
  | cst (a : Addr) : Rp K H A (.cst a) (.ref a)
  | tup {p : Addr} {vs : List V} {l : List T} : PlT H p vs → Rps K H A l vs → Rp K H A (.tup l) (.ref p)
  | tpu {p : Addr} {vs : List V} {l : List T} : SqT K H p vs → Rps K H A l vs → Rp K H A (.tpu l) (.ref p)
  | sq {p : Addr} {vs : List V} {l : List T} : SqF K H p vs → Rps K H A l vs → Rp K H A (.sq l) (.ref p)
  | lst {p : Addr} {vs : List V} {l : List T} : H p = some (.lst vs) → ¬ A p → Rps K H A l vs → Rp K H A (.lst l) (.ref p)
  | dct {p : Addr} {vs : List (Key × V)} {l : List (Key × T)} : Rd H p (.dK vs) → ¬ A p → Rpk K H A l vs → Rp K H A (.dct l) (.ref p)
  | obj {a C dx : Addr} {vs : List (Str × V)} {fs : List (Str × T)} : H a = some (.ins C dx vs) → Rpf K H A fs vs → Rp K H A (.obj C fs) (.ref a)
inductive Rps (K : PySem.W.Frag) (H : Hp) (A : Addr → Prop) : List T → List V → Prop
  | nil : Rps K H A [] []
  | cons {t : T} {v : V} {ts : List T} {vs : List V} : Rp K H A t v → Rps K H A ts vs → Rps K H A (t :: ts) (v :: vs)
inductive Rpk (K : PySem.W.Frag) (H : Hp) (A : Addr → Prop) : List (Key × T) → List (Key × V) → Prop
  | nil : Rpk K H A [] []
  | cons {k : Key} {t : T} {v : V} {ts : List (Key × T)} {vs : List (Key × V)} : Rp K H A t v → Rpk K H A ts vs → Rpk K H A ((k, t) :: ts) ((k, v) :: vs)
inductive Rpf (K : PySem.W.Frag) (H : Hp) (A : Addr → Prop) : List (Str × T) → List (Str × V) → Prop
  | nil : Rpf K H A [] []
  | cons {k : Str} {t : T} {v : V} {ts : List (Str × T)} {vs : List (Str × V)} : Rp K H A t v → Rpf K H A ts vs → Rpf K H A ((k, t) :: ts) ((k, v) :: vs)
end
/-- a list or a dict stands there -/
def LD : Option HO → Prop
  | some (.lst _) => True
  | some (.dK _) => True
  | _ => False
/-- from one heap to a later one: what is not in P is kept, what is newly private is new -/
structure Gon (P A A' : Addr → Prop) (H H' : Hp) : Prop where
  keep : ∀ a o, ¬ P a → H a = some o → H' a = some o
  priv : ∀ a, P a → A a ∧ LD (H a)
  new : ∀ a, A' a → A a ∨ H a = none
section
variable {K : PySem.W.Frag} {H H' : Hp} {P A A' : Addr → Prop}
theorem Gon.rd {p : Addr} {o : HO} (g : Gon P A A' H H') (h : Rd H p o) (n : ¬ P p) : Rd H' p o := h.imp (g.keep p _ n) fun ⟨ob, e⟩ => ⟨ob, g.keep p _ n e⟩
theorem LD.lst {H : Hp} {p : Addr} (h : LD (H p)) : (∃ xs, H p = some (.lst xs)) ∨ ∃ xs, H p = some (.dK xs) := by
  cases e : H p with
  | none => rw [e] at h; exact h.elim
  | some o => cases o with
    | lst xs => exact .inl ⟨xs, rfl⟩
    | dK xs => exact .inr ⟨xs, rfl⟩
    | _ => rw [e] at h; exact h.elim
theorem Gon.sqT {p : Addr} {vs : List V} (g : Gon P A A' H H') (h : SqT K H p vs) : SqT K H' p vs := by
  rcases h with h | h
  · refine .inl (g.rd h fun z => ?_)
    rcases (g.priv p z).2.lst with ⟨xs, e⟩ | ⟨xs, e⟩ <;> (rcases h with h | ⟨o, h⟩ <;> (rw [e] at h; cases h))
  · exact .inr h
theorem Gon.sqF {p : Addr} {vs : List V} (g : Gon P A A' H H') (h : SqF K H p vs) : SqF K H' p vs := by
  rcases h with ⟨ob, e⟩ | h
  · refine .inl ⟨ob, g.keep p _ (fun z => ?_) e⟩
    rcases (g.priv p z).2.lst with ⟨xs, e2⟩ | ⟨xs, e2⟩ <;> (rw [e2] at e; cases e)
  · exact .inr h
theorem SqF.sq {p : Addr} {vs : List V} (h : SqF K H p vs) : SqL K H p vs := h.elim (fun ⟨ob, e⟩ => .inl (.inr ⟨ob, e⟩)) .inr
theorem Gon.plT {p : Addr} {vs : List V} (g : Gon P A A' H H') (h : PlT H p vs) : PlT H' p vs := by
  obtain ⟨ob, e, r⟩ := h
  refine ⟨ob, g.keep p _ (fun z => ?_) e, r⟩
  rcases (g.priv p z).2.lst with ⟨xs, e2⟩ | ⟨xs, e2⟩ <;> (rw [e2] at e; cases e)
theorem Gon.newA {p : Addr} {o : HO} (g : Gon P A A' H H') (h : H p = some o) (n : ¬ A p) : ¬ A' p := fun z => by
  rcases g.new p z with z | z
  · exact n z
  · rw [z] at h; cases h
theorem Rd_some {H : Hp} {p : Addr} {o : HO} (h : Rd H p o) : ∃ o', H p = some o' := h.elim (fun e => ⟨_, e⟩) fun ⟨ob, e⟩ => ⟨_, e⟩
mutual
theorem Rp.go (g : Gon P A A' H H') : ∀ {t : T} {v : V}, Rp K H A t v → Rp K H' A' t v
  | _, _, .non => .non
  | _, _, .bl b => .bl b
  | _, _, .int i => .int i
  | _, _, .str l => .str l
  | _, _, .ty n => .ty n
  | _, _, .cst a => .cst a
  | _, _, .tup h r => .tup (g.plT h) (Rps.go g r)
  | _, _, .tpu h r => .tpu (g.sqT h) (Rps.go g r)
  | _, _, .sq h r => .sq (g.sqF h) (Rps.go g r)
  | _, _, .lst h n r => .lst (g.keep _ _ (fun z => n (g.priv _ z).1) h) (g.newA h n) (Rps.go g r)
  | _, _, .dct h n r => .dct (g.rd h fun z => n (g.priv _ z).1) (let ⟨_, e⟩ := Rd_some h; g.newA e n) (Rpk.go g r)
  | _, _, .obj (a := a) h r => .obj (g.keep _ _ (fun z => by
      rcases (g.priv _ z).2.lst with ⟨xs, e2⟩ | ⟨xs, e2⟩ <;> (rw [e2] at h; cases h)) h) (Rpf.go g r)
theorem Rps.go (g : Gon P A A' H H') : ∀ {t : List T} {v : List V}, Rps K H A t v → Rps K H' A' t v
  | _, _, .nil => .nil
  | _, _, .cons h r => .cons (Rp.go g h) (Rps.go g r)
theorem Rpk.go (g : Gon P A A' H H') : ∀ {t : List (Key × T)} {v : List (Key × V)}, Rpk K H A t v → Rpk K H' A' t v
  | _, _, .nil => .nil
  | _, _, .cons h r => .cons (Rp.go g h) (Rpk.go g r)
theorem Rpf.go (g : Gon P A A' H H') : ∀ {t : List (Str × T)} {v : List (Str × V)}, Rpf K H A t v → Rpf K H' A' t v
  | _, _, .nil => .nil
  | _, _, .cons h r => .cons (Rp.go g h) (Rpf.go g r)
end
theorem vf (h : ∀ a, A' a → A a) : Gon (fun _ => False) A A' H H := ⟨fun _ _ _ e => e, fun _ z => z.elim, fun a z => .inl (h a z)⟩
theorem gon_new {p : Addr} {o : HO} (h : H p = none) : Gon (fun _ => False) A A H (upd H p o) := ⟨fun a u _ e => Jb h a u e, fun _ z => z.elim, fun a z => .inl z⟩
theorem Jv (h : Same H H') : Gon (fun _ => False) A A H H' := ⟨fun a u _ e => h a u e, fun _ z => z.elim, fun a z => .inl z⟩
/-- one address more that is private -/
def Pl (A : Addr → Prop) (p : Addr) : Addr → Prop := fun a => A a ∨ a = p
theorem gon_newP {p : Addr} {o : HO} (h : H p = none) : Gon (fun _ => False) A (Pl A p) H (upd H p o) := ⟨fun a u _ e => Jb h a u e, fun _ z => z.elim, fun a z => z.imp id fun (e : a = p) => by rw [e]; exact h⟩
theorem Rps.length {t : List T} {v : List V} (h : Rps K H A t v) : t.length = v.length := by
  induction t generalizing v with
  | nil => cases h; rfl
  | cons t ts ih => cases h with | cons a b => simp [ih b]
theorem Rpk.length {t : List (Key × T)} {v : List (Key × V)} (h : Rpk K H A t v) : t.length = v.length := by
  induction t generalizing v with
  | nil => cases h; rfl
  | cons t ts ih => cases h with | cons a b => simp [ih b]
theorem Rps.get {t : List T} {v : List V} (h : Rps K H A t v) {i : Nat} {x : T} (e : t[i]? = some x) : ∃ y, v[i]? = some y ∧ Rp K H A x y := by
  induction t generalizing v i with
  | nil => simp at e
  | cons t ts ih =>
    cases h with
    | cons a b =>
      cases i with
      | zero => simp at e; subst e; exact ⟨_, rfl, a⟩
      | succ i => simpa using ih b (by simpa using e)
theorem Rps.append {t t' : List T} {v v' : List V} (h : Rps K H A t v) (h' : Rps K H A t' v') : Rps K H A (t ++ t') (v ++ v') := by
  induction t generalizing v with
  | nil => cases h; exact h'
  | cons t ts ih => cases h with | cons a b => exact .cons a (ih b)
theorem Rps.drop {t : List T} {v : List V} (h : Rps K H A t v) (n : Nat) : Rps K H A (t.drop n) (v.drop n) := by
  induction t generalizing v n with
  | nil => cases h; simp; exact .nil
  | cons t ts ih =>
    cases h with
    | cons a b => cases n with
      | zero => exact .cons a b
      | succ n => simpa using ih b n
theorem Rps.take {t : List T} {v : List V} (h : Rps K H A t v) (n : Nat) : Rps K H A (t.take n) (v.take n) := by
  induction t generalizing v n with
  | nil => cases h; simp; exact .nil
  | cons t ts ih =>
    cases h with
    | cons a b => cases n with
      | zero => exact .nil
      | succ n => exact .cons a (ih b n)
theorem Rps.set {t : List T} {v : List V} (h : Rps K H A t v) {x : T} {y : V} (r : Rp K H A x y) (i : Nat) : Rps K H A (t.set i x) (v.set i y) := by
  induction t generalizing v i with
  | nil => cases h; exact .nil
  | cons t ts ih =>
    cases h with
    | cons a b => cases i with
      | zero => exact .cons r b
      | succ i => exact .cons a (ih b i)
/-- what a private one holds -/
def Ow (K : PySem.W.Frag) (H : Hp) (A : Addr → Prop) : T → Addr → Prop
  | .lst l, p => ∃ vs, H p = some (.lst vs) ∧ Rps K H A l vs
  | .dct l, p => ∃ vs, H p = some (.dK vs) ∧ Rpk K H A l vs
  | _, _ => False
theorem Ow.go {t : T} {p : Addr} (g : Gon P A A' H H') (h : Ow K H A t p) (n : ¬ P p) : Ow K H' A' t p := by
  cases t with
  | lst l => obtain ⟨vs, e, r⟩ := h; exact ⟨vs, g.keep p _ n e, r.go g⟩
  | dct l => obtain ⟨vs, e, r⟩ := h; exact ⟨vs, g.keep p _ n e, r.go g⟩
  | _ => exact h.elim
theorem Ow.ld {t : T} {p : Addr} (h : Ow K H A t p) : LD (H p) := by
  cases t with
  | lst l => obtain ⟨vs, e, r⟩ := h; rw [e]; trivial
  | dct l => obtain ⟨vs, e, r⟩ := h; rw [e]; trivial
  | _ => exact h.elim
/-- given away -/
theorem Ow.fz {t : T} {p : Addr} (h : Ow K H A t p) (n : ¬ A' p) (s : ∀ a, A' a → A a) : Rp K H A' t (.ref p) := by
  cases t with
  | lst l => obtain ⟨vs, e, r⟩ := h; exact .lst e n (r.go (vf s))
  | dct l => obtain ⟨vs, e, r⟩ := h; exact .dct (.inl e) n (r.go (vf s))
  | _ => exact h.elim
/-- what may be read -/
def Rr (K : PySem.W.Frag) (H : Hp) (A : Addr → Prop) (t : T) (v : V) : Prop := Rp K H A t v ∨ ∃ p, v = .ref p ∧ Ow K H A t p
theorem Rr.lst {l : List T} {v : V} (h : Rr K H A (.lst l) v) : ∃ p vs, v = .ref p ∧ H p = some (.lst vs) ∧ Rps K H A l vs := by
  rcases h with h | ⟨p, rfl, vs, e, r⟩
  · cases h with | lst a b c => exact ⟨_, _, rfl, a, c⟩
  · exact ⟨p, vs, rfl, e, r⟩
theorem Rr.dct {l : List (Key × T)} {v : V} (h : Rr K H A (.dct l) v) : ∃ p vs, v = .ref p ∧ Rd H p (.dK vs) ∧ Rpk K H A l vs := by
  rcases h with h | ⟨p, rfl, vs, e, r⟩
  · cases h with | dct a b c => exact ⟨_, _, rfl, a, c⟩
  · exact ⟨p, vs, rfl, .inl e, r⟩
/-- all but lists and dicts is given away -/
def T.ld : T → Bool
  | .lst _ => true
  | .dct _ => true
  | _ => false
theorem Rr.rp {t : T} {v : V} (h : Rr K H A t v) (n : t.ld = false) : Rp K H A t v := by
  rcases h with h | ⟨p, rfl, h⟩
  · exact h
  · cases t <;> first | exact h.elim | cases n
theorem Rr.go {t : T} {v : V} (g : Gon P A A' H H') (h : Rr K H A t v) (n : ∀ p, P p → False) : Rr K H' A' t v := h.imp (fun h => h.go g) fun ⟨p, e, h⟩ => ⟨p, e, h.go g (n p)⟩
end
inductive Sl where
  | no | va (t : T) | ow (t : T) | lk (t : T) | kd (l : List (Key × T))
abbrev Sls := List Sl
def Sl.priv : Sl → Bool
  | .ow _ => true
  | .lk _ => true
  | _ => false
def Sl.cont : Sl → Option T
  | .ow t => some t
  | .lk t => some t
  | _ => none
def SlOk (K : PySem.W.Frag) (H : Hp) (A : Addr → Prop) : Sl → Option (Option V) → Prop
  | .no, _ => True
  | .va t, x => ∃ v, x = some (some v) ∧ Rp K H A t v
  | .ow t, x => ∃ p, x = some (some (.ref p)) ∧ A p ∧ Ow K H A t p
  | .lk t, x => ∃ p, x = some (some (.ref p)) ∧ A p ∧ Ow K H A t p
  | .kd l, x => ∃ p ob vs, x = some (some (.ref p)) ∧ H p = some (.frz ob (.dK vs)) ∧ ¬ A p ∧ Rpk K H A l vs
/-- a slot that may not be stored to -/
def Sl.fx : Sl → Bool
  | .lk _ => true
  | .kd _ => true
  | _ => false
theorem We {K : PySem.W.Frag} {H H' : Hp} {P A A' : Addr → Prop} {l : List (Key × T)} {x : Option (Option V)} (k : Gon P A A' H H') (h : SlOk K H A (.kd l) x) : SlOk K H' A' (.kd l) x := by
  obtain ⟨p, ob, vs, e1, e2, n, r⟩ := h
  refine ⟨p, ob, vs, e1, k.keep _ _ (fun z => ?_) e2, k.newA e2 n, r.go k⟩
  rcases (k.priv _ z).2.lst with ⟨xs, e3⟩ | ⟨xs, e3⟩ <;> (rw [e3] at e2; cases e2)
/-- slot i is a private one, at p -/
def At (ρ : Sls) (σ : L2.St) (i : Nat) (p : Addr) : Prop := ∃ s : Sl, ρ[i]? = some s ∧ s.priv = true ∧ σ[i]? = some (some (V.ref p))
/-- p may be written -/
def Prv (ρ : Sls) (σ : L2.St) (p : Addr) : Prop := ∃ (i : Nat) (t : T), ρ[i]? = some (Sl.ow t) ∧ σ[i]? = some (some (V.ref p))
theorem Prv.at {ρ : Sls} {σ : L2.St} {p : Addr} (h : Prv ρ σ p) : ∃ i, At ρ σ i p := let ⟨i, t, a, b⟩ := h; ⟨i, _, a, rfl, b⟩
structure Gd (K : PySem.W.Frag) (ρ : Sls) (σ : L2.St) (H : Hp) (A : Addr → Prop) : Prop where
  tr : ∀ a, A a → LD (H a)
  sl : ∀ (i : Nat) (s : Sl), ρ[i]? = some s → SlOk K H A s σ[i]?
  dj : ∀ i j p, At ρ σ i p → At ρ σ j p → i = j
  len : ρ.length = σ.length
section
variable {K : PySem.W.Frag} {ρ ρ' : Sls} {σ : L2.St} {H H' : Hp} {A A' : Addr → Prop}
theorem Gd.at_ (g : Gd K ρ σ H A) {i : Nat} {p : Addr} (h : At ρ σ i p) : A p := by
  obtain ⟨s, e, pr, e2⟩ := h
  have q := g.sl i s e
  cases s with
  | ow t => obtain ⟨q, e3, h, _⟩ := q; rw [e2] at e3; cases e3; exact h
  | lk t => obtain ⟨q, e3, h, _⟩ := q; rw [e2] at e3; cases e3; exact h
  | _ => cases pr
theorem Gd.prv (g : Gd K ρ σ H A) {p : Addr} (h : Prv ρ σ p) : A p := let ⟨_, h⟩ := h.at; g.at_ h
theorem Gd.cont (g : Gd K ρ σ H A) {i : Nat} {s : Sl} {t : T} (e : ρ[i]? = some s) (c : s.cont = some t) : ∃ p, σ[i]? = some (some (.ref p)) ∧ A p ∧ Ow K H A t p := by
  have q := g.sl i s e
  cases s with
  | ow t => cases c; exact q
  | lk t => cases c; exact q
  | _ => cases c
end
end Tr
end F_Tr1
section F_Tr2
set_option Elab.async false
set_option maxRecDepth 100000
set_option maxHeartbeats 4000000
set_option linter.all false
namespace Tr
open PySem PySem.Spec PyProof.Rows L2 LamX Vf
open SX (S)
/-- an exception: its class, its attribute -/
structure Ex where
  C : Addr
  fs : List (Str × T)
def XOk (K : PySem.W.Frag) (H : Hp) (A : Addr → Prop) (x : Ex) (c : Value) (d : Option Addr) : Prop :=
  c = .ref x.C ∧ match x.fs with
    | [] => d = none
    | fs => ∃ dd vs, d = some dd ∧ H dd = some (.xd vs) ∧ Rpf K H A fs vs
inductive Cl where
  | va | ow | bo (i : Nat)
inductive Ans where
  | ok (t : T) (c : Cl) (ρ : Sls) | er (x : Ex)
abbrev M := Sls → Option Ans
/-- only what private ones hold may differ -/
def Shp (ρ ρ' : Sls) : Prop := ρ.length = ρ'.length ∧ ∀ (i : Nat) (s : Sl), ρ[i]? = some s → ∃ s', ρ'[i]? = some s' ∧ match s with | .ow _ => ∃ t, s' = .ow t | s => s' = s
theorem Shp.refl {ρ : Sls} : Shp ρ ρ := ⟨rfl, fun i s e => ⟨s, e, by cases s <;> first | rfl | exact ⟨_, rfl⟩⟩⟩
theorem Shp.trans {a b c : Sls} (h : Shp a b) (k : Shp b c) : Shp a c := ⟨h.1.trans k.1, fun i s e => by
  obtain ⟨s1, e1, r1⟩ := h.2 i s e
  obtain ⟨s2, e2, r2⟩ := k.2 i s1 e1
  refine ⟨s2, e2, ?_⟩
  cases s with
  | ow t => obtain ⟨u, rfl⟩ := r1; exact r2
  | no => cases r1; exact r2
  | va t => cases r1; exact r2
  | lk t => cases r1; exact r2
  | kd t => cases r1; exact r2⟩
theorem Shp.back {ρ ρ' : Sls} (h : Shp ρ ρ') {i : Nat} {s' : Sl} (e : ρ'[i]? = some s') : ∃ s, ρ[i]? = some s ∧ match s with | .ow _ => ∃ t, s' = .ow t | s => s' = s := by
  have l : i < ρ'.length := (List.getElem?_eq_some_iff.mp e).1
  obtain ⟨s2, e2, r⟩ := h.2 i _ (List.getElem?_eq_getElem (h.1 ▸ l))
  rw [e] at e2
  cases e2
  exact ⟨_, List.getElem?_eq_getElem (h.1 ▸ l), r⟩
theorem Shp.at_ {ρ ρ' : Sls} {σ : L2.St} (h : Shp ρ ρ') {i : Nat} {p : Addr} (a : At ρ σ i p) : At ρ' σ i p := by
  obtain ⟨s, e, pr, e2⟩ := a
  obtain ⟨s', e', r⟩ := h.2 i s e
  refine ⟨s', e', ?_, e2⟩
  cases s with
  | ow t => obtain ⟨u, rfl⟩ := r; rfl
  | lk t => cases r; rfl
  | _ => cases pr
theorem Shp.at' {ρ ρ' : Sls} {σ : L2.St} (h : Shp ρ ρ') {i : Nat} {p : Addr} (a : At ρ' σ i p) : At ρ σ i p := by
  obtain ⟨s', e', pr, e2⟩ := a
  obtain ⟨s, e, r⟩ := h.back e'
  refine ⟨s, e, ?_, e2⟩
  cases s with
  | ow t => rfl
  | lk t => rfl
  | no => cases r; cases pr
  | kd t => cases r; cases pr
  | va t => cases r; cases pr
theorem Shp.prv {ρ ρ' : Sls} {σ : L2.St} (h : Shp ρ ρ') {p : Addr} (a : Prv ρ' σ p) : Prv ρ σ p := by
  obtain ⟨i, t, e', e2⟩ := a
  obtain ⟨s, e, r⟩ := h.back e'
  cases s with
  | ow u => exact ⟨i, u, e, e2⟩
  | no => cases r
  | va t => cases r
  | lk t => cases r
  | kd t => cases r
/-- behind an expression -/
structure Aft (K : PySem.W.Frag) (ρ : Sls) (σ : L2.St) (H : Hp) (A : Addr → Prop) (ρ' : Sls) (H' : Hp) (A' : Addr → Prop) : Prop where
  sub : ∀ a, A a → A' a
  new : ∀ a, A' a → A a ∨ H a = none
  shp : Shp ρ ρ'
  keep : ∀ a o, ¬ Prv ρ σ a → H a = some o → H' a = some o
  good : Gd K ρ' σ H' A'
section
variable {K : PySem.W.Frag} {ρ ρ1 ρ2 ρ' : Sls} {σ : L2.St} {H H1 H2 H' : Hp} {A A1 A2 A' : Addr → Prop}
theorem LD.ne {o : Option HO} (h : LD o) : ∃ u, o = some u := by cases o with | none => exact h.elim | some u => exact ⟨u, rfl⟩
theorem Gd.less (g : Gd K ρ σ H A') (s : ∀ a, A a → A' a) (m : ∀ i p, At ρ σ i p → A p) : Gd K ρ σ H A := ⟨fun a h => g.tr a (s a h), fun i x e => by
  have q := g.sl i x e
  cases x with
  | no => trivial
  | kd l => exact We (vf s) q
  | va t => obtain ⟨v, e2, r⟩ := q; exact ⟨v, e2, r.go (vf s)⟩
  | ow t => obtain ⟨p, e2, _, r⟩ := q; exact ⟨p, e2, m i p ⟨_, e, rfl, e2⟩, r.go (vf s) fun z => z⟩
  | lk t => obtain ⟨p, e2, _, r⟩ := q; exact ⟨p, e2, m i p ⟨_, e, rfl, e2⟩, r.go (vf s) fun z => z⟩, g.dj, g.len⟩
/-- nothing of the private ones is changed -/
theorem Gd.go {P : Addr → Prop} (g : Gd K ρ σ H A) (k : Gon P A A' H H') (n : ∀ i p, At ρ σ i p → ¬ P p ∧ A' p) (l : ∀ a, A' a → LD (H' a)) : Gd K ρ σ H' A' := ⟨l, fun i x e => by
  have q := g.sl i x e
  cases x with
  | no => trivial
  | kd l => exact We k q
  | va t => obtain ⟨v, e2, r⟩ := q; exact ⟨v, e2, r.go k⟩
  | ow t => obtain ⟨p, e2, _, r⟩ := q; exact ⟨p, e2, (n i p ⟨_, e, rfl, e2⟩).2, r.go k (n i p ⟨_, e, rfl, e2⟩).1⟩
  | lk t => obtain ⟨p, e2, _, r⟩ := q; exact ⟨p, e2, (n i p ⟨_, e, rfl, e2⟩).2, r.go k (n i p ⟨_, e, rfl, e2⟩).1⟩, g.dj, g.len⟩
theorem Aft.refl (g : Gd K ρ σ H A) : Aft K ρ σ H A ρ H A := ⟨fun _ h => h, fun _ h => .inl h, .refl, fun _ _ _ e => e, g⟩
theorem Aft.gon (a : Aft K ρ σ H A ρ' H' A') (g : Gd K ρ σ H A) : Gon (Prv ρ σ) A A' H H' := ⟨a.keep, fun p h => ⟨g.prv h, g.tr _ (g.prv h)⟩, a.new⟩
theorem Aft.there (a : Aft K ρ σ H A ρ' H' A') (g : Gd K ρ σ H A) {p : Addr} (h : H' p = none) : H p = none := by
  cases e : H p with
  | none => rfl
  | some o =>
    by_cases q : Prv ρ σ p
    · obtain ⟨u, e2⟩ := (a.good.tr p (a.sub p (g.prv q))).ne
      rw [h] at e2; cases e2
    · rw [a.keep p o q e] at h; cases h
theorem Aft.trans (a : Aft K ρ σ H A ρ1 H1 A1) (g : Gd K ρ σ H A) (b : Aft K ρ1 σ H1 A1 ρ2 H2 A2) : Aft K ρ σ H A ρ2 H2 A2 :=
  ⟨fun p h => b.sub p (a.sub p h), fun p h => (b.new p h).elim (a.new p) fun z => .inr (a.there g z), a.shp.trans b.shp, fun p o n e => b.keep p o (fun z => n (a.shp.prv z)) (a.keep p o n e), b.good⟩
theorem Aft.less (a : Aft K ρ σ H A ρ' H' A') (g : Gd K ρ σ H A) : Aft K ρ σ H A ρ' H' A :=
  ⟨fun _ h => h, fun _ h => .inl h, a.shp, a.keep, a.good.less a.sub fun i p h => g.at_ (a.shp.at' h)⟩
/-- a value by its class: v is t; ow: a new one of one's own; bo i: what slot i holds -/
def VOk (K : PySem.W.Frag) (A : Addr → Prop) (H' : Hp) (A' : Addr → Prop) (ρ' : Sls) (σ : L2.St) : Cl → T → V → Prop
  | .va, t, v => Rp K H' A' t v
  | .ow, t, v => ∃ p, v = .ref p ∧ ¬ A p ∧ A' p ∧ Ow K H' A' t p
  | .bo i, t, v => ∃ (p : Addr) (s : Sl), v = .ref p ∧ σ[i]? = some (some (.ref p)) ∧ ρ'[i]? = some s ∧ s.cont = some t
/-- what it is by now -/
def Jd : Cl → T → Sls → T
  | .bo i, t, ρ => match ρ[i]? with
    | some (.ow u) => u
    | some (.lk u) => u
    | _ => t
  | _, t, _ => t
theorem VOk.rr {c : Cl} {t : T} {v : V} (h : VOk K A H' A' ρ' σ c t v) (g : Gd K ρ' σ H' A') : Rr K H' A' t v := by
  cases c with
  | va => exact .inl h
  | ow => obtain ⟨p, rfl, _, _, h⟩ := h; exact .inr ⟨p, rfl, h⟩
  | bo i =>
    obtain ⟨p, s, rfl, e, e2, c⟩ := h
    obtain ⟨q, e3, _, h⟩ := g.cont e2 c
    rw [e] at e3; cases e3
    exact .inr ⟨p, rfl, h⟩
def Cl.free : Cl → Bool
  | .bo _ => false
  | _ => true
theorem VOk.fz {c : Cl} {t : T} {v : V} (h : VOk K A H' A' ρ' σ c t v) (s : ∀ a, A a → A' a) (f : c.free = true) : Rp K H' A t v := by
  cases c with
  | va => exact Rp.go (vf s) h
  | ow => obtain ⟨p, rfl, n, _, h⟩ := h; exact h.fz n s
  | bo i => cases f
theorem VOk.go {c : Cl} {t : T} {v : V} (h : VOk K A H1 A1 ρ1 σ c t v) (g1 : Gd K ρ1 σ H1 A1) (pr : ∀ i p, At ρ1 σ i p → A p) (a : Aft K ρ1 σ H1 A1 ρ2 H2 A2) : VOk K A H2 A2 ρ2 σ c (Jd c t ρ2) v := by
  cases c with
  | va => exact Rp.go (a.gon g1) h
  | ow =>
    obtain ⟨p, rfl, n, n2, h⟩ := h
    exact ⟨p, rfl, n, a.sub _ n2, h.go (a.gon g1) fun z => n (let ⟨i, z⟩ := z.at; pr i p z)⟩
  | bo i =>
    obtain ⟨p, s, rfl, e, e2, c⟩ := h
    obtain ⟨s', e3, r⟩ := a.shp.2 i s e2
    refine ⟨p, s', rfl, e, e3, ?_⟩
    cases s with
    | ow u => obtain ⟨w, rfl⟩ := r; simp [Jd, e3, Sl.cont]
    | lk u => cases r; simp [Jd, e3, Sl.cont]
    | no => cases c
    | kd u => cases c
    | va u => cases c
/-- an operation that at most makes new things: b: the result is a new one of one's own -/
def Nw (K : PySem.W.Frag) (A : Addr → Prop) (H : Hp) (t : T) (b : Bool) (v : V) (H' : Hp) : Prop :=
  Same H H' ∧ match b with
    | true => ∃ p, v = .ref p ∧ H p = none ∧ Ow K H' (Pl A p) t p
    | false => Rp K H' A t v
def Jr : Bool → Cl
  | true => .ow
  | false => .va
theorem Aft.nw {t : T} {b : Bool} {v : V} (a : Aft K ρ σ H A ρ1 H1 A1) (g : Gd K ρ σ H A) (n : Nw K A1 H1 t b v H2) : ∃ A2, Aft K ρ σ H A ρ1 H2 A2 ∧ VOk K A H2 A2 ρ1 σ (Jr b) t v := by
  obtain ⟨s, n⟩ := n
  have ld : ∀ a, A1 a → LD (H2 a) := fun p h => by
    have q := a.good.tr p h
    obtain ⟨u, e⟩ := q.ne
    rw [s p u e, ← e]
    exact q
  cases b with
  | false =>
    exact ⟨A1, ⟨a.sub, a.new, a.shp, fun p o n e => s _ _ (a.keep p o n e), a.good.go (Jv s) (fun i p h => ⟨fun z => z, a.good.at_ h⟩) ld⟩, n⟩
  | true =>
    obtain ⟨p, rfl, hp, ow⟩ := n
    have na : ¬ A p := fun z => by obtain ⟨u, e⟩ := (a.good.tr p (a.sub p z)).ne; rw [hp] at e; cases e
    refine ⟨Pl A1 p, ⟨fun q h => .inl (a.sub q h), fun q h => ?_, a.shp, fun p o n e => s _ _ (a.keep p o n e), a.good.go ⟨fun a o _ e => s a o e, fun _ z => z.elim, fun q z => ?_⟩ (fun i q h => ⟨fun z => z, .inl (a.good.at_ h)⟩) fun q h => ?_⟩, p, rfl, na, .inr rfl, ow⟩
    · rcases h with h | rfl
      · exact a.new q h
      · exact .inr (a.there g hp)
    · exact z.imp id fun z => by rw [z]; exact hp
    · rcases h with h | rfl
      · exact ld q h
      · exact ow.ld
end
/-- what is wanted of the answer -/
def Fin (X : Cx) (W : XK) (ρ : Sls) (σ : L2.St) (H : Hp) (A : Addr → Prop) (r : Ans) (Q : VK) : Prop := match r with
  | .ok t c ρ' => ∀ v H' A', Aft X.K ρ σ H A ρ' H' A' → VOk X.K A H' A' ρ' σ c t v → Q v H'
  | .er x => ∀ C d H', (∀ a o, ¬ Prv ρ σ a → H a = some o → H' a = some o) → XOk X.K H' A x C d → W C d H'
/-- e computes m -/
def SE (X : Cx) (W : XK) (e : Expr) (m : M) : Prop := ∀ ρ σ H A r Q, Gd X.K ρ σ H A → m ρ = some r → Fin X W ρ σ H A r Q → wE X e σ H Q
def bnd (m : M) (k : T → Cl → M) : M := fun ρ => match m ρ with
  | some (.ok t c ρ') => k t c ρ'
  | some (.er x) => some (.er x)
  | none => none
section
variable {X : Cx} {W : XK} {e a b : Expr} {m ma mb : M} {pos : Pos}
/-- first one, then the other -/
theorem SE.bind {ρ : Sls} {σ : L2.St} {H : Hp} {A : Addr → Prop} {r : Ans} {Q : VK} {k : T → Cl → M} (h : SE X W e m) (g : Gd X.K ρ σ H A) (er : bnd m k ρ = some r) (f : Fin X W ρ σ H A r Q)
    {R : VK} (hk : ∀ t c ρ1 v H1 A1, k t c ρ1 = some r → Aft X.K ρ σ H A ρ1 H1 A1 → VOk X.K A H1 A1 ρ1 σ c t v → R v H1) : wE X e σ H R := by
  unfold bnd at er
  cases em : m ρ with
  | none => rw [em] at er; cases er
  | some u =>
    rw [em] at er
    cases u with
    | ok t c ρ1 => exact h ρ σ H A _ R g em fun v H1 A1 af vo => hk t c ρ1 v H1 A1 er af vo
    | er x => cases er; exact h ρ σ H A _ R g em f
/-- behind the first one -/
theorem Fin.later {ρ ρ1 : Sls} {σ : L2.St} {H H1 : Hp} {A A1 : Addr → Prop} {r : Ans} {Q : VK} (f : Fin X W ρ σ H A r Q) (g : Gd X.K ρ σ H A) (af : Aft X.K ρ σ H A ρ1 H1 A1)
    (hq : ∀ t c ρ2, r = .ok t c ρ2 → ∀ v H2 A2, Aft X.K ρ1 σ H1 A1 ρ2 H2 A2 → VOk X.K A1 H2 A2 ρ2 σ c t v → Q v H2) : Fin X W ρ1 σ H1 A1 r Q := by
  cases r with
  | ok t c ρ2 => exact hq t c ρ2 rfl
  | er x =>
    intro C d H' k xo
    refine f C d H' (fun p o n e => k p o (fun z => n (af.shp.prv z)) (af.keep p o n e)) ?_
    obtain ⟨e1, e2⟩ := xo
    refine ⟨e1, ?_⟩
    cases hx : x.fs with
    | nil => rw [hx] at e2; exact e2
    | cons y ys => rw [hx] at e2; obtain ⟨dd, vs, h1, h2, h3⟩ := e2; exact ⟨dd, vs, h1, h2, h3.go (vf af.sub)⟩
def ret (t : T) : M := fun ρ => some (.ok t .va ρ)
theorem SE.ret {t : T} {v : V} (h : ∀ σ H Q, Q v H → wE X e σ H Q) (r : ∀ H A, Rp X.K H A t v) : SE X W e (ret t) := by
  intro ρ σ H A r0 Q g er f
  cases er
  exact h σ H Q (f v H A (.refl g) (r H A))
theorem je {i : Int} {j : Nat} : SE X W (.Constant (.int i) j pos) (ret (.int i)) := .ret (v := .int i) (fun _ _ _ q => e_int q) fun _ _ => .int i
theorem JX {i : Bool} {j : Nat} : SE X W (.Constant (.bool i) j pos) (ret (.bl i)) := .ret (v := .bl i) (fun _ _ _ q => e_bl q) fun _ _ => .bl i
theorem se_non {j : Nat} : SE X W (.Constant .none j pos) (ret .non) := .ret (v := .non) (fun _ _ _ q => e_non q) fun _ _ => .non
theorem ji {x : Str} {j : Nat} {l : List Nat} (hl : x = S l) : SE X W (.Constant (.str x) j pos) (ret (.str l)) := .ret (v := .str x) (fun _ _ _ q => e_str q) fun _ _ => by rw [hl]; exact .str l
def var (i : Nat) : M := fun ρ => match ρ[i]? with
  | some (.va t) => some (.ok t .va ρ)
  | some (.ow t) => some (.ok t (.bo i) ρ)
  | some (.lk t) => some (.ok t (.bo i) ρ)
  | some (.kd l) => some (.ok (.dct l) .va ρ)
  | _ => none
theorem jd (i : Nat) {x : Str} (hN : X.N[i]? = some x) (hv : Vis X.env.scope x) (hd : (x == ("__debug__" : Str)) = false := by decide) (hcd : (x == ("__classdict__" : Str)) = false := by decide) : SE X W (.Name x pos) (var i) := by
  intro ρ σ H A r Q g er f
  unfold var at er
  cases es : ρ[i]? with
  | none => rw [es] at er; cases er
  | some s =>
    rw [es] at er
    have q := g.sl i s es
    cases s with
    | no => cases er
    | kd l => cases er; obtain ⟨p, ob, vs, e2, e3, n, h⟩ := q; exact e_var i hN hv e2 (f (.ref p) H A (.refl g) (.dct (.inr ⟨ob, e3⟩) n h)) hd hcd
    | va t => cases er; obtain ⟨v, e2, h⟩ := q; exact e_var i hN hv e2 (f v H A (.refl g) h) hd hcd
    | ow t => cases er; obtain ⟨p, e2, h1, h2⟩ := q; exact e_var i hN hv e2 (f (.ref p) H A (.refl g) ⟨p, _, rfl, e2, es, rfl⟩) hd hcd
    | lk t => cases er; obtain ⟨p, e2, h1, h2⟩ := q; exact e_var i hN hv e2 (f (.ref p) H A (.refl g) ⟨p, _, rfl, e2, es, rfl⟩) hd hcd
theorem se_globI {x : Str} {i : Int} {t : Tok} (hg : Gl X x) (hm : X.mg x = some (.int i t)) (hd : (x == ("__debug__" : Str)) = false := by decide) : SE X W (.Name x pos) (ret (.int i)) := .ret (v := .int i) (fun _ _ _ q => e_glob (v := .int i) hg hm ⟨t, rfl⟩ q hd) fun _ _ => .int i
theorem se_ty {x : Str} {n : String} (h : ∀ {σ : L2.St} {H : Hp} {Q : VK}, Q (.ty n) H → wE X (.Name x pos) σ H Q) : SE X W (.Name x pos) (ret (.ty n)) := .ret (v := .ty n) (fun _ _ _ q => h q) fun _ _ => .ty n
abbrev F2 := T → T → Option (T × Bool)
def Jg (r : Option (T × Bool)) (ρ : Sls) : Option Ans := match r with
  | some (t, b) => some (.ok t (Jr b) ρ)
  | none => none
def op2 (ma mb : M) (f : F2) : M := bnd ma fun ta ca => bnd mb fun tb _ => fun ρ => Jg (f (Jd ca ta ρ) tb) ρ
/-- f is what the operator computes -/
def Kw (X : Cx) (op : Value → Value → Sem Value) (f : F2) : Prop := ∀ H A ta tb x y t b Q, (∀ a, A a → LD (H a)) → Rr X.K H A ta x → Rr X.K H A tb y → f ta tb = some (t, b) → (∀ v H', Nw X.K A H t b v H' → Q v H') → oB X op x y H Q
theorem se_op {op : Value → Value → Sem Value} {f : F2} (hw : ∀ {σ : L2.St} {H : Hp} {Q : VK}, (wE X a σ H fun x H1 => wE X b σ H1 fun y H2 => oB X op x y H2 Q) → wE X e σ H Q) (ho : Kw X op f) (ha : SE X W a ma) (hb : SE X W b mb) : SE X W e (op2 ma mb f) := by
  intro ρ σ H A r Q g er f0
  refine hw (ha.bind g er f0 fun ta ca ρ1 x H1 A1 ek af1 vx => ?_)
  have g1 := af1.good
  refine hb.bind g1 ek (f0.later g af1 fun t c ρ2 e v H2 A2 af2 vo => ?_) fun tb cb ρ2 y H2 A2 ek2 af2 vy => ?_
  · subst e
    cases c with
    | va => exact f0 v H2 A2 (af1.trans g af2) vo
    | ow => obtain ⟨p, e1, e2, e3⟩ := vo; exact f0 v H2 A2 (af1.trans g af2) ⟨p, e1, fun z => e2 (af1.sub _ z), e3⟩
    | bo i => exact f0 v H2 A2 (af1.trans g af2) vo
  · have g2 := af2.good
    have vx2 := vx.go g1 (fun i p h => g.at_ (af1.shp.at' h)) af2
    unfold Jg at ek2
    cases ef : f (Jd ca ta ρ2) tb with
    | none => rw [ef] at ek2; cases ek2
    | some u =>
      obtain ⟨t, bb⟩ := u
      rw [ef] at ek2
      cases ek2
      refine ho H2 A2 _ _ x y t bb Q g2.tr (vx2.rr g2) (vy.rr g2) ef fun v H3 n => ?_
      obtain ⟨A3, af3, vo⟩ := (af1.trans g af2).nw g n
      exact f0 v H3 A3 af3 vo
end
end Tr
end F_Tr2
section F_Tr3
set_option Elab.async false
set_option maxRecDepth 100000
set_option maxHeartbeats 4000000
set_option linter.all false
namespace Tr
open PySem PySem.Spec PyProof.Rows L2 LamX Vf
open SX (S)
theorem S_len {l : List Nat} : (S l).length = l.length := SX.S_len l
theorem S_inj {a b : List Nat} (h : S a = S b) : a = b := by
  have := congrArg (fun x : Str => x.cps.toList) h
  simpa [S] using this
def big : Nat := 10000000
theorem JO : big < sizeLine := by rw [sizeLine_eq]; decide
mutual
def toD : T → Option PyData
  | .non => some .none
  | .bl b => some (.bool b)
  | .int i => some (.int i)
  | .str l => some (.str (S l))
  | .tup l => (Ji l).map .tuple
  | .tpu l => (Ji l).map .tuple
  | .sq l => (Ji l).map .list
  | .lst l => (Ji l).map .list
  | _ => none
def Ji : List T → Option (List PyData)
  | [] => some []
  | t :: ts => match toD t, Ji ts with
    | some d, some ds => some (d :: ds)
    | _, _ => none
end
section
variable {K : PySem.W.Frag} {H : Hp} {A : Addr → Prop}
mutual
theorem toD_dp : ∀ {t : T} {v : V} {d : PyData}, toD t = some d → Rp K H A t v → Dp K H v d
  | .non, _, _, e, .non => by simp only [toD] at e; cases e; exact .non
  | .bl b, _, _, e, .bl _ => by simp only [toD] at e; cases e; exact .bl b
  | .int i, _, _, e, .int _ => by simp only [toD] at e; cases e; exact .int i
  | .str l, _, _, e, .str _ => by simp only [toD] at e; cases e; exact .str _
  | .tup l, _, _, e, .tup h r => by
    simp only [toD] at e
    cases q : Ji l with
    | none => rw [q] at e; cases e
    | some ds => rw [q] at e; cases e; exact .tup h.sq (toDs_dp q r)
  | .tpu l, _, _, e, .tpu h r => by
    simp only [toD] at e
    cases q : Ji l with
    | none => rw [q] at e; cases e
    | some ds => rw [q] at e; cases e; exact .tup h (toDs_dp q r)
  | .sq l, _, _, e, .sq h r => by
    simp only [toD] at e
    cases q : Ji l with
    | none => rw [q] at e; cases e
    | some ds => rw [q] at e; cases e; exact .lst h.sq (toDs_dp q r)
  | .lst l, _, _, e, .lst h n r => by
    simp only [toD] at e
    cases q : Ji l with
    | none => rw [q] at e; cases e
    | some ds => rw [q] at e; cases e; exact .lst (SqL.of h) (toDs_dp q r)
theorem toDs_dp : ∀ {t : List T} {v : List V} {d : List PyData}, Ji t = some d → Rps K H A t v → DpAll K H v d
  | [], _, _, e, .nil => by simp only [Ji] at e; cases e; exact .nil
  | t :: ts, _, _, e, .cons h r => by
    simp only [Ji] at e
    cases q : toD t with
    | none => rw [q] at e; cases e
    | some d =>
      cases q2 : Ji ts with
      | none => rw [q, q2] at e; cases e
      | some ds => rw [q, q2] at e; cases e; exact .cons (toD_dp q h) (toDs_dp q2 r)
end
theorem Rr.dp {t : T} {v : V} {d : PyData} (h : Rr K H A t v) (e : toD t = some d) : Dp K H v d := by
  rcases h with h | ⟨p, rfl, h⟩
  · exact toD_dp e h
  · cases t with
    | lst l =>
      obtain ⟨vs, e2, r⟩ := h
      simp only [toD] at e
      cases q : Ji l with
      | none => rw [q] at e; cases e
      | some ds => rw [q] at e; cases e; exact .lst (SqL.of e2) (toDs_dp q r)
    | dct l => simp [toD] at e
    | _ => exact h.elim
theorem Rp.int' {i : Int} {v : V} (h : Rp K H A (.int i) v) : v = .int i := by cases h; rfl
theorem Rp.str' {l : List Nat} {v : V} (h : Rp K H A (.str l) v) : v = .str (S l) := by cases h; rfl
theorem Rp.bl' {b : Bool} {v : V} (h : Rp K H A (.bl b) v) : v = .bl b := by cases h; rfl
theorem Rp.non' {v : V} (h : Rp K H A .non v) : v = .non := by cases h; rfl
theorem Rp.ty' {n : String} {v : V} (h : Rp K H A (.ty n) v) : v = .ty n := by cases h; rfl
theorem Rp.cst' {a : Addr} {v : V} (h : Rp K H A (.cst a) v) : v = .ref a := by cases h; rfl
theorem Rr.int {i : Int} {v : V} (h : Rr K H A (.int i) v) : v = .int i := (h.rp rfl).int'
theorem Rr.str {l : List Nat} {v : V} (h : Rr K H A (.str l) v) : v = .str (S l) := (h.rp rfl).str'
theorem Rr.bl {b : Bool} {v : V} (h : Rr K H A (.bl b) v) : v = .bl b := (h.rp rfl).bl'
theorem Rr.non {v : V} (h : Rr K H A .non v) : v = .non := (h.rp rfl).non'
theorem Rr.ty {n : String} {v : V} (h : Rr K H A (.ty n) v) : v = .ty n := (h.rp rfl).ty'
theorem Rr.cst {a : Addr} {v : V} (h : Rr K H A (.cst a) v) : v = .ref a := (h.rp rfl).cst'
theorem Rr.tup {l : List T} {v : V} (h : Rr K H A (.tup l) v) : ∃ p vs, v = .ref p ∧ SqT K H p vs ∧ Rps K H A l vs := by
  have h := h.rp rfl
  cases h with | tup a b => exact ⟨_, _, rfl, a.sq, b⟩
theorem Rr.tpu {l : List T} {v : V} (h : Rr K H A (.tpu l) v) : ∃ p vs, v = .ref p ∧ SqT K H p vs ∧ Rps K H A l vs := by
  have h := h.rp rfl
  cases h with | tpu a b => exact ⟨_, _, rfl, a, b⟩
theorem Rr.sq {l : List T} {v : V} (h : Rr K H A (.sq l) v) : ∃ p vs, v = .ref p ∧ SqL K H p vs ∧ Rps K H A l vs := by
  have h := h.rp rfl
  cases h with | sq a b => exact ⟨_, _, rfl, a.sq, b⟩
/-- a row of any kind: a tuple (true) or a list -/
def T.row : T → Option (Bool × List T)
  | .tup l => some (true, l)
  | .tpu l => some (true, l)
  | .sq l => some (false, l)
  | .lst l => some (false, l)
  | _ => none
theorem Rr.row {t : T} {v : V} {b : Bool} {l : List T} (h : Rr K H A t v) (e : t.row = some (b, l)) : ∃ p vs, v = .ref p ∧ (if b = true then SqT K H p vs else SqL K H p vs) ∧ Rps K H A l vs := by
  cases t with
  | tup l => cases e; obtain ⟨p, vs, e, a, c⟩ := h.tup; exact ⟨p, vs, e, a, c⟩
  | tpu l => cases e; obtain ⟨p, vs, e, a, c⟩ := h.tpu; exact ⟨p, vs, e, a, c⟩
  | sq l => cases e; obtain ⟨p, vs, e, a, c⟩ := h.sq; exact ⟨p, vs, e, a, c⟩
  | lst l => cases e; obtain ⟨p, vs, e, a, c⟩ := h.lst; exact ⟨p, vs, e, SqL.of a, c⟩
  | _ => cases e
theorem Rr.seq {t : T} {v : V} {b : Bool} {l : List T} (h : Rr K H A t v) (e : t.row = some (b, l)) : ∃ p vs, v = .ref p ∧ (SqL K H p vs ∨ SqT K H p vs) ∧ Rps K H A l vs := by
  obtain ⟨p, vs, e1, a, c⟩ := h.row e
  cases b with
  | true => exact ⟨p, vs, e1, .inr a, c⟩
  | false => exact ⟨p, vs, e1, .inl a, c⟩
theorem vE {t : T} {v : V} (h : Rp K H A t v) : Nw K A H t false v H := ⟨fun _ _ e => e, h⟩
theorem nw_lst {p : Addr} {l : List T} {vs : List V} (hp : H p = none) (r : Rps K H A l vs) : Nw K A H (.lst l) true (.ref p) (upd H p (.lst vs)) :=
  ⟨Jb hp, p, rfl, hp, vs, upd_same, r.go (gon_newP hp)⟩
theorem nw_dct {p : Addr} {l : List (Key × T)} {vs : List (Key × V)} (hp : H p = none) (r : Rpk K H A l vs) : Nw K A H (.dct l) true (.ref p) (upd H p (.dK vs)) :=
  ⟨Jb hp, p, rfl, hp, vs, upd_same, r.go (gon_newP hp)⟩
theorem nw_tpu {p : Addr} {l : List T} {vs : List V} (hp : H p = none) (r : Rps K H A l vs) : Nw K A H (.tpu l) false (.ref p) (upd H p (.tup vs)) :=
  ⟨Jb hp, .tpu (SqT.of upd_same) (r.go (gon_new hp))⟩
theorem nw_tup {p : Addr} {l : List T} {vs : List V} {H' : Hp} (s : Same H H') (pl : PlT H' p vs) (r : Rps K H A l vs) : Nw K A H (.tup l) false (.ref p) H' :=
  ⟨s, .tup pl (r.go (Jv s))⟩
end
section
variable {X : Cx}
def fI (f : Int → Int → Option T) : F2
  | .int i, .int j => (f i j).map fun t => (t, false)
  | _, _ => none
theorem binI {op : Value → Value → Sem Value} {f : Int → Int → Option T} (h : ∀ H i j t Q, f i j = some t → (∃ v, (∀ K A, Rp K H A t v) ∧ (Q v H → oB X op (.int i) (.int j) H Q))) : Kw X op (fI f) := by
  intro H A ta tb x y t b Q hA rx ry e q
  cases ta <;> try cases e
  cases tb <;> try cases e
  rename_i i j
  cases ef : f i j with
  | none => simp only [fI, ef] at e; cases e
  | some u =>
    simp only [fI, ef, Option.map_some, Option.some.injEq, Prod.mk.injEq] at e
    obtain ⟨rfl, rfl⟩ := e
    obtain ⟨v, r, k⟩ := h H i j u Q ef
    cases rx.int; cases ry.int
    exact k (q v H (vE (r _ _)))
def KG := fun i j : Int => some (T.int (i + j))
def WG : F2 := fI fun i j => some (.int (i - j))
def fMul' : Int → Int → Option T := fun i j => if (-(2 ^ 64) < i ∧ i < 2 ^ 64) ∨ (-(2 ^ 64) < j ∧ j < 2 ^ 64) ∨ i.natAbs.log2 + j.natAbs.log2 < 1000000 then some (.int (i * j)) else none
def WC : F2 := fI fun i j => if 0 < j ∧ j.natAbs.log2 < 9000 then some (.int (i / j)) else none
def Wu : F2 := fI fun i j => if 0 < j then some (.int (i % j)) else none
def WH : F2 := fI fun i j => if 0 ≤ j ∧ j ≤ 1000000 ∧ i.natAbs < 2 ^ 64 then some (.int (i ^ j.toNat)) else none
theorem bin_sub : Kw X (binaryOp .Sub) WG := binI fun H i j t Q e => by cases e; exact ⟨.int (i - j), fun _ _ => .int _, fun q => o_subI q⟩
theorem bin_div : Kw X (binaryOp .FloorDiv) WC := binI fun H i j t Q e => by
  split at e
  · rename_i c; cases e; exact ⟨.int (i / j), fun _ _ => .int _, fun q => ⟨_, op_fdivW, i, j, rfl, rfl, c, q⟩⟩
  · cases e
theorem bin_mod : Kw X (binaryOp .Mod) Wu := binI fun H i j t Q e => by
  split at e
  · rename_i c; cases e; exact ⟨.int (i % j), fun _ _ => .int _, fun q => o_modI c q⟩
  · cases e
theorem bin_pow : Kw X (binaryOp .Pow) WH := binI fun H i j t Q e => by
  split at e
  · rename_i c; cases e; exact ⟨.int (i ^ j.toNat), fun _ _ => .int _, fun q => ⟨_, op_pow, i, j, rfl, rfl, c, q⟩⟩
  · cases e
def Wk : F2
  | .int i, .int j => some (.int (i + j), false)
  | .str a, .str b => if a.length + b.length ≤ big then some (.str (a ++ b), false) else none
  | .lst a, .lst b => if a.length + b.length ≤ big then some (.lst (a ++ b), true) else none
  | .tup a, .tup b => if a ≠ [] ∧ b ≠ [] ∧ a.length + b.length ≤ big then some (.tpu (a ++ b), false) else none
  | _, _ => none
theorem bin_add : Kw X (binaryOp .Add) Wk := by
  intro H A ta tb x y t b Q hA rx ry e q
  cases ta <;> cases tb <;> simp only [Wk] at e <;> try cases e
  · rename_i i j
    cases rx.int; cases ry.int
    exact o_addI (q _ H (vE (.int _)))
  · rename_i i j
    split at e
    · rename_i c
      cases e
      cases rx.str; cases ry.str
      refine o_addS (by rw [S_len, S_len]; have := JO; omega) ?_
      rw [SX.S_cat]
      exact q _ H (vE (.str _))
    · cases e
  · rename_i i j
    split at e
    · rename_i c
      cases e
      obtain ⟨p, vs, rfl, e1, r1⟩ := rx.tup
      obtain ⟨p2, vs2, rfl, e2, r2⟩ := ry.tup
      have l1 := r1.length
      have l2 := r2.length
      obtain ⟨c1, c2, c3⟩ := c
      exact o_catT e1 e2 (fun z => c1 (by rw [z] at l1; exact List.eq_nil_of_length_eq_zero l1)) (fun z => c2 (by rw [z] at l2; exact List.eq_nil_of_length_eq_zero l2)) (by have := JO; omega) fun p hp => q _ _ (nw_tpu hp (r1.append r2))
    · cases e
  · rename_i i j
    split at e
    · rename_i c
      cases e
      obtain ⟨p, vs, rfl, e1, r1⟩ := rx.lst
      obtain ⟨p2, vs2, rfl, e2, r2⟩ := ry.lst
      refine ⟨_, op_cat, p, p2, vs, vs2, rfl, rfl, e1, e2, by have := JO; rw [← r1.length, ← r2.length]; omega, fun p hp => q _ _ (nw_lst hp (r1.append r2))⟩
    · cases e
def vK : F2
  | .int i, .int j => (fMul' i j).map fun t => (t, false)
  | .lst a, .int k => if 0 ≤ k ∧ k < 2 ^ 63 ∧ a.length * k.toNat ≤ big then some (.lst (List.replicate k.toNat a).flatten, true) else none
  | _, _ => none
theorem Rps.rep {K : PySem.W.Frag} {H : Hp} {A : Addr → Prop} {l : List T} {vs : List V} (r : Rps K H A l vs) : ∀ n : Nat, Rps K H A (List.replicate n l).flatten (List.replicate n vs).flatten
  | 0 => .nil
  | n + 1 => by rw [List.replicate_succ, List.replicate_succ, List.flatten_cons, List.flatten_cons]; exact r.append (r.rep n)
theorem Jj : Kw X (binaryOp .Mult) vK := by
  intro H A ta tb x y t b Q hA rx ry e q
  cases ta <;> cases tb <;> simp only [vK] at e <;> try cases e
  · rename_i i j
    unfold fMul' at e
    split at e
    · rename_i c
      cases e
      cases rx.int; cases ry.int
      rcases c with c | c | c
      · exact o_mulI (.inl c) (q _ H (vE (.int _)))
      · exact o_mulI (.inr c) (q _ H (vE (.int _)))
      · exact ⟨_, op_mulW, i, j, rfl, rfl, c, q _ H (vE (.int _))⟩
    · cases e
  · rename_i a k
    split at e
    · rename_i c
      cases e
      obtain ⟨p, vs, rfl, e1, r1⟩ := rx.lst
      cases ry.int
      refine ⟨_, op_rep, p, k, vs, rfl, rfl, e1, by omega, c.2.1, by have := JO; rw [← r1.length]; omega, fun p hp => q _ _ (nw_lst hp (r1.rep _))⟩
    · cases e
def bo (b : Bool) : Option (T × Bool) := some (.bl b, false)
def fLt : F2
  | .int i, .int j => bo (decide (i < j))
  | .str a, .str b => bo (decide (a < b))
  | _, _ => none
def fLe : F2
  | .int i, .int j => bo (decide (i ≤ j))
  | .str a, .str b => bo (!decide (b < a))
  | _, _ => none
def fGt : F2
  | .int i, .int j => bo (decide (j < i))
  | .str a, .str b => bo (decide (b < a))
  | _, _ => none
def fGe : F2
  | .int i, .int j => bo (decide (j ≤ i))
  | .str a, .str b => bo (!decide (a < b))
  | _, _ => none
theorem Ku (l : List Nat) : (S l).cps.toList = l := by simp [S]
theorem bin_lt : Kw X (compareOp .Lt) fLt := by
  intro H A ta tb x y t b Q hA rx ry e q
  cases ta <;> cases tb <;> simp only [fLt, bo] at e <;> cases e
  · cases rx.int; cases ry.int; exact o_ltI (q _ H (vE (.bl _)))
  · cases rx.str; cases ry.str; exact o_ltStr (by rw [Ku, Ku]; exact q _ H (vE (.bl _)))
theorem KD : Kw X (compareOp .LtE) fLe := by
  intro H A ta tb x y t b Q hA rx ry e q
  cases ta <;> cases tb <;> simp only [fLe, bo] at e <;> cases e
  · cases rx.int; cases ry.int; exact o_leI (q _ H (vE (.bl _)))
  · cases rx.str; cases ry.str; exact o_leStr (by rw [Ku, Ku]; exact q _ H (vE (.bl _)))
theorem bin_gt : Kw X (compareOp .Gt) fGt := by
  intro H A ta tb x y t b Q hA rx ry e q
  cases ta <;> cases tb <;> simp only [fGt, bo] at e <;> cases e
  · cases rx.int; cases ry.int; exact o_gtI (q _ H (vE (.bl _)))
  · cases rx.str; cases ry.str; exact ⟨_, op_gt_str, _, _, rfl, rfl, by rw [Ku, Ku]; exact q _ H (vE (.bl _))⟩
theorem bin_ge : Kw X (compareOp .GtE) fGe := by
  intro H A ta tb x y t b Q hA rx ry e q
  cases ta <;> cases tb <;> simp only [fGe, bo] at e <;> cases e
  · cases rx.int; cases ry.int; exact o_geI (q _ H (vE (.bl _)))
  · cases rx.str; cases ry.str; exact ⟨_, op_ge_str, _, _, rfl, rfl, by rw [Ku, Ku]; exact q _ H (vE (.bl _))⟩
/-- whether two are equal, where it is told -/
def eqT (a b : T) : Option Bool := match a, b with
  | .int i, .int j => some (decide (i = j))
  | .str x, .str y => some (decide (x = y))
  | .ty m, .ty n => if (["NoneType", "bool", "int", "str", "bytes", "list", "tuple", "dict"] : List String).contains m && (["NoneType", "bool", "int", "str", "bytes", "list", "tuple", "dict"] : List String).contains n then some (decide (m = n)) else none
  | a, b => match toD a, toD b with
    | some d, some e => if SeqAt.shaped d && SeqAt.shaped e then some (PyData.eqv d e) else none
    | _, _ => none
def fEq : F2 := fun a b => (eqT a b).map fun c => (.bl c, false)
def ku : T → T → Bool
  | .ty _, .ty _ => true
  | _, _ => false
def fNe : F2 := fun a b => if ku a b = true then none else (eqT a b).map fun c => (.bl (!c), false)
theorem ty_meta {m : String} (h : (["NoneType", "bool", "int", "str", "bytes", "list", "tuple", "dict"] : List String).contains m = true) : ∀ s' : Shared, s'.TypeIs (.type m) "type" := by
  have h : m = "NoneType" ∨ m = "bool" ∨ m = "int" ∨ m = "str" ∨ m = "bytes" ∨ m = "list" ∨ m = "tuple" ∨ m = "dict" := by simpa using h
  rcases h with rfl | rfl | rfl | rfl | rfl | rfl | rfl | rfl
  · exact PySem.TypeEq.meta_NoneType
  · exact PySem.TypeEq.meta_bool
  · exact PySem.TypeEq.meta_int
  · exact PySem.TypeEq.meta_str
  · exact PySem.TypeEq.meta_bytes
  · exact PySem.TypeEq.meta_list
  · exact PySem.TypeEq.meta_tuple
  · exact PySem.TypeEq.meta_dict
theorem eqT_cases {a b : T} {c : Bool} (h : eqT a b = some c) : (∃ i j, a = .int i ∧ b = .int j ∧ c = decide (i = j)) ∨ (∃ i j, a = .str i ∧ b = .str j ∧ c = decide (i = j)) ∨
    (∃ m n, a = .ty m ∧ b = .ty n ∧ c = decide (m = n) ∧ (∀ s' : Shared, s'.TypeIs (.type m) "type") ∧ ∀ s' : Shared, s'.TypeIs (.type n) "type") ∨
    ∃ d e, toD a = some d ∧ toD b = some e ∧ SeqAt.shaped d = true ∧ SeqAt.shaped e = true ∧ c = PyData.eqv d e := by
  unfold eqT at h
  split at h
  · cases h; exact .inl ⟨_, _, rfl, rfl, rfl⟩
  · cases h; exact .inr (.inl ⟨_, _, rfl, rfl, rfl⟩)
  · split at h
    · rename_i q
      cases h
      rw [Bool.and_eq_true] at q
      exact .inr (.inr (.inl ⟨_, _, rfl, rfl, rfl, ty_meta q.1, ty_meta q.2⟩))
    · cases h
  · split at h
    · split at h
      · rename_i q
        cases h
        rw [Bool.and_eq_true] at q
        exact .inr (.inr (.inr ⟨_, _, by assumption, by assumption, q.1, q.2, rfl⟩))
      · cases h
    · cases h
theorem dec_S (a b : List Nat) : decide (V.str (S a) = V.str (S b)) = decide (a = b) := by
  by_cases e : a = b
  · subst e; simp
  · rw [decide_eq_false e]; exact decide_eq_false fun z => e (S_inj (by injection z))
theorem dec_I (a b : Int) : decide (V.int a = V.int b) = decide (a = b) := by
  by_cases e : a = b
  · subst e; simp
  · rw [decide_eq_false e]; exact decide_eq_false fun z => e (by injection z)
theorem Ka (hu : X.A.units + 64 < cLine) : Kw X (compareOp .Eq) fEq := by
  intro H A ta tb x y t b Q hA rx ry e q
  unfold fEq at e
  cases h : eqT ta tb with
  | none => rw [h] at e; cases e
  | some c =>
    rw [h] at e
    cases e
    rcases eqT_cases h with ⟨i, j, rfl, rfl, rfl⟩ | ⟨i, j, rfl, rfl, rfl⟩ | ⟨m, n, rfl, rfl, rfl, h1, h2⟩ | ⟨d, f, e1, e2, s1, s2, rfl⟩
    · cases rx.int; cases ry.int; exact o_eq rfl (by rw [dec_I]; exact q _ H (vE (.bl _)))
    · cases rx.str; cases ry.str; exact o_eq rfl (by rw [dec_S]; exact q _ H (vE (.bl _)))
    · cases rx.ty; cases ry.ty; exact o_ty h1 h2 (q _ H (vE (.bl _)))
    · exact o_eqD hu (rx.dp e1) (ry.dp e2) s1 s2 (q _ H (vE (.bl _)))
theorem bin_ne (hu : X.A.units + 64 < cLine) : Kw X (compareOp .NotEq) fNe := by
  intro H A ta tb x y t b Q hA rx ry e q
  unfold fNe at e
  split at e
  · cases e
  rename_i nt
  cases h : eqT ta tb with
  | none => rw [h] at e; cases e
  | some c =>
    rw [h] at e
    cases e
    rcases eqT_cases h with ⟨i, j, rfl, rfl, rfl⟩ | ⟨i, j, rfl, rfl, rfl⟩ | ⟨m, n, rfl, rfl, rfl, h1, h2⟩ | ⟨d, f, e1, e2, s1, s2, rfl⟩
    · cases rx.int; cases ry.int; exact o_ne rfl (by rw [dec_I]; exact q _ H (vE (.bl _)))
    · cases rx.str; cases ry.str; exact o_ne rfl (by rw [dec_S]; exact q _ H (vE (.bl _)))
    · exact absurd rfl nt
    · exact o_neD hu (rx.dp e1) (ry.dp e2) s1 s2 (q _ H (vE (.bl _)))
def wQ : T → Option V
  | .non => some .non
  | .bl b => some (.bl b)
  | .int i => some (.int i)
  | .str l => some (.str (S l))
  | _ => none
def ko : List T → Option (List V)
  | [] => some []
  | t :: ts => match wQ t, ko ts with
    | some v, some vs => some (v :: vs)
    | _, _ => none
theorem flatT_ok {K : PySem.W.Frag} {H : Hp} {A : Addr → Prop} {t : T} {v w : V} (h : wQ t = some w) (r : Rp K H A t v) : v = w ∧ flatV w = true := by
  cases t <;> simp only [wQ] at h <;> cases h
  · exact ⟨r.non', rfl⟩
  · exact ⟨r.bl', rfl⟩
  · exact ⟨r.int', rfl⟩
  · exact ⟨r.str', rfl⟩
theorem flatT_rr {K : PySem.W.Frag} {H : Hp} {A : Addr → Prop} {t : T} {v w : V} (h : wQ t = some w) (r : Rr K H A t v) : v = w ∧ flatV w = true :=
  flatT_ok h (r.rp (by cases t <;> simp only [wQ] at h <;> first | rfl | cases h))
theorem flatTs_ok {K : PySem.W.Frag} {H : Hp} {A : Addr → Prop} {t : List T} {v w : List V} (h : ko t = some w) (r : Rps K H A t v) : v = w ∧ w.all flatV = true := by
  induction t generalizing v w with
  | nil => cases r; cases h; exact ⟨rfl, rfl⟩
  | cons t ts ih =>
    simp only [ko] at h
    cases r with
    | cons a b =>
      cases e1 : wQ t with
      | none => rw [e1] at h; cases h
      | some u =>
        cases e2 : ko ts with
        | none => rw [e1, e2] at h; cases h
        | some us =>
          rw [e1, e2] at h
          cases h
          obtain ⟨rfl, f1⟩ := flatT_ok e1 a
          obtain ⟨rfl, f2⟩ := ih e2 b
          exact ⟨rfl, by simp only [List.all_cons, f1, f2]; rfl⟩
/-- x in row; sign in text; key in dict -/
def inT (a b : T) : Option Bool := match b with
  | .str z => match a with
    | .str [c] => some (decide (c ∈ z))
    | _ => none
  | b => match b.row with
    | some (_, l) => match wQ a, ko l with
      | some v, some vs => some (inV v vs)
      | _, _ => none
    | none => none
def fIn : F2 := fun a b => (inT a b).map fun c => (.bl c, false)
def fNotIn : F2 := fun a b => (inT a b).map fun c => (.bl (!c), false)
theorem inT_cases {a b : T} {c : Bool} (h : inT a b = some c) : (∃ d z, a = .str [d] ∧ b = .str z ∧ c = decide (d ∈ z)) ∨ ∃ k l v vs, b.row = some (k, l) ∧ wQ a = some v ∧ ko l = some vs ∧ c = inV v vs := by
  unfold inT at h
  split at h
  · split at h
    · cases h; exact .inl ⟨_, _, rfl, rfl, rfl⟩
    · cases h
  · split at h
    · split at h
      · cases h; exact .inr ⟨_, _, _, _, by assumption, by assumption, by assumption, rfl⟩
      · cases h
    · cases h
theorem bin_in : Kw X (compareOp .In) fIn := by
  intro H A ta tb x y t b Q hA rx ry e q
  unfold fIn at e
  cases h : inT ta tb with
  | none => rw [h] at e; cases e
  | some c =>
    rw [h] at e
    cases e
    rcases inT_cases h with ⟨d, z, rfl, rfl, rfl⟩ | ⟨k, l, v, vs, e1, e2, e3, rfl⟩
    · cases rx.str; cases ry.str
      exact ⟨_, op_in_sign, d, S z, rfl, rfl, by rw [Ku]; exact q _ H (vE (.bl _))⟩
    · obtain ⟨p, us, rfl, sq, r⟩ := ry.seq e1
      obtain ⟨rfl, f1⟩ := flatT_rr e2 rx
      obtain ⟨rfl, f2⟩ := flatTs_ok e3 r
      exact ⟨_, op_in_seq, p, _, rfl, sq, f1, f2, q _ H (vE (.bl _))⟩
theorem bin_notin : Kw X (compareOp .NotIn) fNotIn := by
  intro H A ta tb x y t b Q hA rx ry e q
  unfold fNotIn at e
  cases h : inT ta tb with
  | none => rw [h] at e; cases e
  | some c =>
    rw [h] at e
    cases e
    rcases inT_cases h with ⟨d, z, rfl, rfl, rfl⟩ | ⟨k, l, v, vs, e1, e2, e3, rfl⟩
    · cases rx.str; cases ry.str
      exact ⟨_, op_notIn_sign, d, S z, rfl, rfl, by rw [Ku]; exact q _ H (vE (.bl _))⟩
    · obtain ⟨p, us, rfl, sq, r⟩ := ry.seq e1
      obtain ⟨rfl, f1⟩ := flatT_rr e2 rx
      obtain ⟨rfl, f2⟩ := flatTs_ok e3 r
      exact ⟨_, op_notIn_seq, p, _, rfl, sq, f1, f2, q _ H (vE (.bl _))⟩
def isT (a b : T) : Option Bool := match a, b with
  | .non, .non => some true
  | .bl _, .non => some false
  | .int _, .non => some false
  | .str _, .non => some false
  | .tup _, .non => some false
  | .tpu _, .non => some false
  | .lst _, .non => some false
  | .obj _ _, .non => some false
  | _, _ => none
theorem isT_ok {K : PySem.W.Frag} {H : Hp} {A : Addr → Prop} {a b : T} {c : Bool} {x y : V} (h : isT a b = some c) (rx : Rr K H A a x) (ry : Rr K H A b y) : y = .non ∧ c = decide (x = .non) := by
  unfold isT at h
  split at h <;> first | cases h | skip
  · cases rx.non; cases ry.non; exact ⟨rfl, rfl⟩
  · cases rx.bl; cases ry.non; exact ⟨rfl, rfl⟩
  · cases rx.int; cases ry.non; exact ⟨rfl, rfl⟩
  · cases rx.str; cases ry.non; exact ⟨rfl, rfl⟩
  · obtain ⟨p, vs, rfl, _⟩ := rx.tup; cases ry.non; exact ⟨rfl, rfl⟩
  · obtain ⟨p, vs, rfl, _⟩ := rx.tpu; cases ry.non; exact ⟨rfl, rfl⟩
  · obtain ⟨p, vs, rfl, _⟩ := rx.lst; cases ry.non; exact ⟨rfl, rfl⟩
  · cases rx.rp rfl; cases ry.non; exact ⟨rfl, rfl⟩
def fIs : F2 := fun a b => (isT a b).map fun c => (.bl c, false)
def fIsNot : F2 := fun a b => (isT a b).map fun c => (.bl (!c), false)
theorem bin_is : Kw X (compareOp .Is) fIs := by
  intro H A ta tb x y t b Q hA rx ry e q
  unfold fIs at e
  cases h : isT ta tb with
  | none => rw [h] at e; cases e
  | some c =>
    rw [h] at e
    cases e
    obtain ⟨rfl, rfl⟩ := isT_ok h rx ry
    exact o_isN (q _ H (vE (.bl _)))
end
end Tr
end F_Tr3
section F_Tr4
set_option Elab.async false
set_option maxRecDepth 100000
set_option maxHeartbeats 4000000
set_option linter.all false
namespace Tr
open PySem PySem.Spec PyProof.Rows L2 LamX Vf
open SX (S)
section
variable {X : Cx} {σ : L2.St} {H : Hp} {Q : VK} {pos : Pos} {es : List Expr} {t : TA}
theorem pe_tupF {x1} (h : PA X es t) : PE X (.Tuple es x1 pos) (fun σ H Q => t σ H fun xs H1 => xs.length ≤ sizeLine ∧ ∀ p ob, H1 p = none → ob.cls = .type "tuple" → ob.dict = none → Q (.ref p) (upd H1 p (.frz ob (.tup xs)))) := by
  refine ⟨fun pins s σ H Q I hq => ?_⟩
  refine wpAny_Tuple_spliced (thn (h.run pos pins s σ H _ I hq) fun us s1 ⟨xs, H1, I1, r, z, q⟩ => ⟨by rw [← r.length]; exact z, ?_⟩)
  have hf : H1 s1.heap.objs.size = none := I1.hok.fresh (Nat.le_refl _)
  refine ⟨.ref s1.heap.objs.size, upd H1 s1.heap.objs.size (.frz { cls := .type "tuple", data := .seq us.toArray } (.tup xs)), I1.laid (t' := s1.toks) (fun b u e => Heap.get?_push_of_some _ e) (Nat.le_refl _) ?_, rfl, q _ _ hf rfl rfl⟩
  exact ⟨Heap.get?_push_size _ rfl, z, us, r, ⟨_, Heap.get?_push_size _ rfl, rfl, _, rfl⟩⟩
theorem e_tupF {k : Nat} (h : wA X es σ H fun xs H1 => xs.length ≤ sizeLine ∧ ∀ p H', H1 p = none → Same H1 H' → PlT H' p xs → Q (.ref p) H') : wE X (.Tuple es k pos) σ H Q :=
  ⟨_, pe_tupF pA, wA_mono h fun xs H1 ⟨l, q⟩ => ⟨l, fun p ob hp h1 h2 => q p _ hp (Jb hp) ⟨ob, upd_same, h1, h2⟩⟩⟩
theorem e_orT {a b : Expr} {rest : List Expr} (h : wE X a σ H fun x H1 => ∃ k, TruV X.K x H1 k ∧ if k = true then Q x H1 else wE X (.BoolOp .Or (b :: rest) pos) σ H1 Q) : wE X (.BoolOp .Or (a :: b :: rest) pos) σ H Q := ⟨_, pe_orT pE pE, h⟩
theorem e_andT {a b : Expr} {rest : List Expr} (h : wE X a σ H fun x H1 => ∃ k, TruV X.K x H1 k ∧ if k = true then wE X (.BoolOp .And (b :: rest) pos) σ H1 Q else Q x H1) : wE X (.BoolOp .And (a :: b :: rest) pos) σ H Q := ⟨_, pe_andT pE pE, h⟩
theorem t_tru {e : Expr} {R : Bool → Hp → Prop} (h : wE X e σ H fun x H1 => ∃ k, TruV X.K x H1 k ∧ R k H1) (he : ∀ whole, isTrue e X.env whole = (do let v ← whole; standAt e.pos; holding [v] (truthy v)) := by intro _; rfl) : wT X e σ H R := ⟨_, pt_truth pE he, h⟩
end
inductive AnsA where
  | ok (ts : List (T × Cl)) (ρ : Sls) | er (x : Ex)
abbrev MA := Sls → Option AnsA
def noA : MA := fun ρ => some (.ok [] ρ)
def jb (m : M) (ma : MA) : MA := fun ρ => match m ρ with
  | some (.ok t c ρ1) => match ma ρ1 with
    | some (.ok ts ρ2) => some (.ok ((Jd c t ρ2, c) :: ts) ρ2)
    | some (.er x) => some (.er x)
    | none => none
  | some (.er x) => some (.er x)
  | none => none
inductive VOks (K : PySem.W.Frag) (A : Addr → Prop) (H' : Hp) (A' : Addr → Prop) (ρ' : Sls) (σ : L2.St) : List (T × Cl) → List V → Prop
  | nil : VOks K A H' A' ρ' σ [] []
  | cons {t : T} {c : Cl} {v : V} {ts : List (T × Cl)} {vs : List V} : VOk K A H' A' ρ' σ c t v → VOks K A H' A' ρ' σ ts vs → VOks K A H' A' ρ' σ ((t, c) :: ts) (v :: vs)
def FinA (X : Cx) (W : XK) (ρ : Sls) (σ : L2.St) (H : Hp) (A : Addr → Prop) (r : AnsA) (Q : List V → Hp → Prop) : Prop := match r with
  | .ok ts ρ' => ∀ vs H' A', Aft X.K ρ σ H A ρ' H' A' → VOks X.K A H' A' ρ' σ ts vs → Q vs H'
  | .er x => ∀ C d H', (∀ a o, ¬ Prv ρ σ a → H a = some o → H' a = some o) → XOk X.K H' A x C d → W C d H'
def SA (X : Cx) (W : XK) (es : List Expr) (m : MA) : Prop := ∀ ρ σ H A r Q, Gd X.K ρ σ H A → m ρ = some r → FinA X W ρ σ H A r Q → wA X es σ H Q
section
variable {K : PySem.W.Frag} {ρ ρ1 ρ2 ρ' : Sls} {σ : L2.St} {H H1 H2 H' : Hp} {A A1 A2 A' : Addr → Prop}
theorem VOks.wide {ts : List (T × Cl)} {vs : List V} (h : VOks K A1 H' A' ρ' σ ts vs) (s : ∀ a, A a → A1 a) : VOks K A H' A' ρ' σ ts vs := by
  induction h with
  | nil => exact .nil
  | @cons t c v ts vs h _ ih =>
    refine .cons ?_ ih
    cases c with
    | va => exact h
    | ow => obtain ⟨p, e, n, r⟩ := h; exact ⟨p, e, fun z => n (s _ z), r⟩
    | bo i => exact h
theorem VOks.len {ts : List (T × Cl)} {vs : List V} (h : VOks K A H' A' ρ' σ ts vs) : ts.length = vs.length := by
  induction h with
  | nil => rfl
  | cons _ _ ih => simp [ih]
def jo : List (T × Cl) → Bool
  | [] => true
  | (_, c) :: ts => c.free && jo ts
theorem VOks.fz {ts : List (T × Cl)} {vs : List V} (h : VOks K A H' A' ρ' σ ts vs) (s : ∀ a, A a → A' a) (f : jo ts = true) : Rps K H' A (ts.map (·.1)) vs := by
  induction h with
  | nil => exact .nil
  | cons h _ ih => simp only [jo, Bool.and_eq_true] at f; exact .cons (h.fz s f.1) (ih f.2)
inductive Rrs (K : PySem.W.Frag) (H : Hp) (A : Addr → Prop) : List T → List V → Prop
  | nil : Rrs K H A [] []
  | cons {t : T} {v : V} {ts : List T} {vs : List V} : Rr K H A t v → Rrs K H A ts vs → Rrs K H A (t :: ts) (v :: vs)
theorem VOks.rrs {ts : List (T × Cl)} {vs : List V} (h : VOks K A H' A' ρ' σ ts vs) (g : Gd K ρ' σ H' A') : Rrs K H' A' (ts.map (·.1)) vs := by
  induction h with
  | nil => exact .nil
  | cons h _ ih => exact .cons (h.rr g) ih
end
section
variable {X : Cx} {W : XK} {e a b : Expr} {es : List Expr} {m ma mb : M} {mA : MA} {pos p1 : Pos}
theorem FinA.bind {ρ : Sls} {σ : L2.St} {H : Hp} {A : Addr → Prop} {r : Ans} {Q : VK} {R : List V → Hp → Prop} {k : List (T × Cl) → M} (h : SA X W es mA) (g : Gd X.K ρ σ H A)
    (er : (match mA ρ with | some (.ok ts ρ') => k ts ρ' | some (.er x) => some (.er x) | none => none) = some r) (f : Fin X W ρ σ H A r Q)
    (hk : ∀ ts ρ1 vs H1 A1, k ts ρ1 = some r → Aft X.K ρ σ H A ρ1 H1 A1 → VOks X.K A H1 A1 ρ1 σ ts vs → R vs H1) : wA X es σ H R := by
  cases em : mA ρ with
  | none => rw [em] at er; cases er
  | some u =>
    rw [em] at er
    cases u with
    | ok ts ρ1 => exact h ρ σ H A _ R g em fun vs H1 A1 af vo => hk ts ρ1 vs H1 A1 er af vo
    | er x => cases er; exact h ρ σ H A _ R g em f
theorem jc : SA X W [] noA := by
  intro ρ σ H A r Q g er f
  cases er
  exact a_nil (f [] H A (.refl g) .nil)
theorem ja (he : SE X W e m) (hes : SA X W es mA) (hs : starEach (e :: es) X.env = (false, eval e X.env) :: starEach es X.env := by rfl) : SA X W (e :: es) (jb m mA) := by
  intro ρ σ H A r Q g er f
  refine a_cons ?_ hs
  unfold jb at er
  cases em : m ρ with
  | none => rw [em] at er; cases er
  | some u =>
    rw [em] at er
    cases u with
    | er x => cases er; exact he ρ σ H A _ _ g em f
    | ok t c ρ1 =>
      refine he ρ σ H A _ _ g em fun v H1 A1 af1 vo => ?_
      have g1 := af1.good
      have pr : ∀ i p, At ρ1 σ i p → A p := fun i p h => g.at_ (af1.shp.at' h)
      cases em2 : mA ρ1 with
      | none => simp only [em2] at er; cases er
      | some u2 =>
        simp only [em2] at er
        cases u2 with
        | er x =>
          cases er
          refine hes ρ1 σ H1 A1 _ _ g1 em2 ?_
          have := Fin.later (X := X) (W := W) (r := .er x) (Q := fun _ _ => True) f g af1 (fun _ _ _ e => by cases e)
          exact this
        | ok ts ρ2 =>
          cases er
          refine hes ρ1 σ H1 A1 _ _ g1 em2 fun vs H2 A2 af2 vos => ?_
          exact f (v :: vs) H2 A2 (af1.trans g af2) (.cons (vo.go g1 pr af2) (vos.wide af1.sub))
def Km (mA : MA) (k : List (T × Cl) → M) : M := fun ρ => match mA ρ with | some (.ok ts ρ') => k ts ρ' | some (.er x) => some (.er x) | none => none
def vD (mA : MA) : M := Km mA fun ts ρ => if jo ts = true ∧ ts.length ≤ big then some (.ok (.lst (ts.map (·.1))) .ow ρ) else none
def jj (mA : MA) : M := Km mA fun ts ρ => if jo ts = true ∧ ts.length ≤ big then some (.ok (.tup (ts.map (·.1))) .va ρ) else none
theorem wt (h : SA X W es mA) : SE X W (.List es pos) (vD mA) := by
  intro ρ σ H A r Q g er f
  refine e_lst (FinA.bind h g er f fun ts ρ1 vs H1 A1 ek af vo => ?_)
  split at ek
  · rename_i c
    cases ek
    refine ⟨by have := JO; rw [← vo.len]; omega, fun p hp => ?_⟩
    obtain ⟨A2, af2, vo2⟩ := (af.less g).nw g (nw_lst hp (vo.fz af.sub c.1))
    exact f _ _ A2 af2 vo2
  · cases ek
theorem jg {k : Nat} (h : SA X W es mA) : SE X W (.Tuple es k pos) (jj mA) := by
  intro ρ σ H A r Q g er f
  refine e_tupF (FinA.bind h g er f fun ts ρ1 vs H1 A1 ek af vo => ?_)
  split at ek
  · rename_i c
    cases ek
    refine ⟨by have := JO; rw [← vo.len]; omega, fun p H' hp s pl => ?_⟩
    obtain ⟨A2, af2, vo2⟩ := (af.less g).nw g (nw_tup s pl (vo.fz af.sub c.1))
    exact f _ _ A2 af2 vo2
  · cases ek
abbrev FA := List T → Option (T × Bool)
def KA (X : Cx) (fn : Value) (f : FA) : Prop := ∀ H A ts xs t b Q, (∀ a, A a → LD (H a)) → Rrs X.K H A ts xs → f ts = some (t, b) → (∀ v H', Nw X.K A H t b v H' → Q v H') → cB X fn xs H Q
def km (mA : MA) (f : FA) : M := Km mA fun ts ρ => Jg (f (ts.map (·.1))) ρ
theorem jD {fn : Value} {f : FA} (hw : ∀ {σ : L2.St} {H : Hp} {Q : VK}, (wA X es σ H fun vs H1 => cB X fn vs H1 Q) → wE X e σ H Q) (hf : KA X fn f) (h : SA X W es mA) : SE X W e (km mA f) := by
  intro ρ σ H A r Q g er f0
  refine hw (FinA.bind h g er f0 fun ts ρ1 vs H1 A1 ek af vo => ?_)
  unfold Jg at ek
  cases ef : f (ts.map (·.1)) with
  | none => rw [ef] at ek; cases ek
  | some u =>
    obtain ⟨t, b⟩ := u
    rw [ef] at ek
    cases ek
    refine hf H1 A1 _ vs t b Q af.good.tr (vo.rrs af.good) ef fun v H2 n => ?_
    obtain ⟨A2, af2, vo2⟩ := af.nw g n
    exact f0 v H2 A2 af2 vo2
def Jy : T → Option Bool
  | .non => some false
  | .bl b => some b
  | .int i => some (i != 0)
  | .str l => if l.length ≤ big then some (!l.isEmpty) else none
  | .tup l => some (!l.isEmpty)
  | .tpu l => some (!l.isEmpty)
  | .sq l => some (!l.isEmpty)
  | .lst l => some (!l.isEmpty)
  | _ => none
theorem Rps.isE {K : PySem.W.Frag} {H : Hp} {A : Addr → Prop} {l : List T} {vs : List V} (r : Rps K H A l vs) : l.isEmpty = vs.isEmpty := by cases r <;> rfl
theorem Rpk.isE {K : PySem.W.Frag} {H : Hp} {A : Addr → Prop} {l : List (Key × T)} {vs : List (Key × V)} (r : Rpk K H A l vs) : l.isEmpty = vs.isEmpty := by cases r <;> rfl
theorem truT_ok {K : PySem.W.Frag} {H : Hp} {A : Addr → Prop} {t : T} {x : V} {k : Bool} (h : Jy t = some k) (r : Rr K H A t x) : TruV K x H k := by
  cases t with
  | non => cases h; cases r.non; rfl
  | bl b => cases h; cases r.bl; rfl
  | int i => cases h; cases r.int; rfl
  | str l =>
    simp only [Jy] at h
    split at h
    · rename_i c
      cases h; cases r.str
      refine ⟨by rw [S_len]; have := JO; omega, ?_⟩
      rw [S_len]
      cases l with
      | nil => rfl
      | cons a b =>
        show true = ((((a :: b).length : Nat) : Int) != 0)
        simp only [List.length_cons]
        symm
        rw [bne_iff_ne]
        omega
    · cases h
  | tup l => cases h; obtain ⟨p, vs, rfl, e, q⟩ := r.tup; exact .inr (.inl ⟨vs, e, by rw [q.isE]⟩)
  | tpu l => cases h; obtain ⟨p, vs, rfl, e, q⟩ := r.tpu; exact .inr (.inl ⟨vs, e, by rw [q.isE]⟩)
  | sq l => cases h; obtain ⟨p, vs, rfl, e, q⟩ := r.sq; exact .inl ⟨vs, e, by rw [q.isE]⟩
  | lst l => cases h; obtain ⟨p, vs, rfl, e, q⟩ := r.lst; exact .inl ⟨vs, SqL.of e, by rw [q.isE]⟩
  | _ => cases h
/-- behind a value's truth -/
def WE (m : M) (k : Bool → T → Cl → M) : M := bnd m fun t c ρ => match Jy t with | some b => k b t c ρ | none => none
def orM (ma mb : M) : M := WE ma fun b t c => if b = true then fun ρ => some (.ok t c ρ) else mb
def Wf (ma mb : M) : M := WE ma fun b t c => if b = true then mb else fun ρ => some (.ok t c ρ)
def notM (m : M) : M := WE m fun b _ _ ρ => some (.ok (.bl (!b)) .va ρ)
def Wl (m : M) : M := m
/-- behind something else -/
theorem Fin.go {ρ ρ1 : Sls} {σ : L2.St} {H H1 : Hp} {A A1 : Addr → Prop} {r : Ans} {Q : VK} (f : Fin X W ρ σ H A r Q) (g : Gd X.K ρ σ H A) (af : Aft X.K ρ σ H A ρ1 H1 A1) : Fin X W ρ1 σ H1 A1 r Q :=
  f.later g af fun t c ρ2 e v H2 A2 af2 vo => by
    subst e
    cases c with
    | va => exact f v H2 A2 (af.trans g af2) vo
    | ow => obtain ⟨p, e1, e2, e3⟩ := vo; exact f v H2 A2 (af.trans g af2) ⟨p, e1, fun z => e2 (af.sub _ z), e3⟩
    | bo i => exact f v H2 A2 (af.trans g af2) vo
theorem Kb {op : BoolOp} (h : SE X W a ma) : SE X W (.BoolOp op [a] pos) (Wl ma) := fun ρ σ H A r Q g er f => e_and1 (h ρ σ H A r Q g er f)
theorem se_or {rest : List Expr} (ha : SE X W a ma) (hb : SE X W (.BoolOp .Or (b :: rest) pos) mb) : SE X W (.BoolOp .Or (a :: b :: rest) pos) (orM ma mb) := by
  intro ρ σ H A r Q g er f
  refine e_orT (ha.bind g er f fun t c ρ1 v H1 A1 ek af vo => ?_)
  cases q : Jy t with
  | none => rw [q] at ek; cases ek
  | some k =>
  rw [q] at ek
  have e2 := ek
  refine ⟨k, truT_ok q (vo.rr af.good), ?_⟩
  cases k with
  | true => cases e2; exact iteT (f v H1 A1 af vo)
  | false => exact iteF (hb ρ1 σ H1 A1 r Q af.good e2 (f.go g af))
theorem JP {rest : List Expr} (ha : SE X W a ma) (hb : SE X W (.BoolOp .And (b :: rest) pos) mb) : SE X W (.BoolOp .And (a :: b :: rest) pos) (Wf ma mb) := by
  intro ρ σ H A r Q g er f
  refine e_andT (ha.bind g er f fun t c ρ1 v H1 A1 ek af vo => ?_)
  cases q : Jy t with
  | none => rw [q] at ek; cases ek
  | some k =>
  rw [q] at ek
  have e2 := ek
  refine ⟨k, truT_ok q (vo.rr af.good), ?_⟩
  cases k with
  | false => cases e2; exact iteF (f v H1 A1 af vo)
  | true => exact iteT (hb ρ1 σ H1 A1 r Q af.good e2 (f.go g af))
def FinT (X : Cx) (W : XK) (ρ : Sls) (σ : L2.St) (H : Hp) (A : Addr → Prop) (r : Ans) (R : Bool → Hp → Prop) : Prop := match r with
  | .ok (.bl b) _ ρ' => ∀ H' A', Aft X.K ρ σ H A ρ' H' A' → R b H'
  | .ok _ _ _ => False
  | .er x => ∀ C d H', (∀ a o, ¬ Prv ρ σ a → H a = some o → H' a = some o) → XOk X.K H' A x C d → W C d H'
def ST (X : Cx) (W : XK) (e : Expr) (m : M) : Prop := ∀ ρ σ H A r R, Gd X.K ρ σ H A → m ρ = some r → FinT X W ρ σ H A r R → wT X e σ H R
def Kr (m : M) : M := WE m fun b _ _ ρ => some (.ok (.bl b) .va ρ)
theorem FinT.fin {ρ : Sls} {σ : L2.St} {H : Hp} {A : Addr → Prop} {r : Ans} {R : Bool → Hp → Prop} (f : FinT X W ρ σ H A r R) : Fin X W ρ σ H A r fun v H' => ∃ b, v = .bl b ∧ R b H' := by
  cases r with
  | er x => exact f
  | ok t c ρ' =>
    cases t with
    | bl b =>
      intro v H' A' af vo
      exact ⟨b, (vo.rr af.good).bl, f H' A' af⟩
    | _ => exact f.elim
theorem FinT.go {ρ ρ1 : Sls} {σ : L2.St} {H H1 : Hp} {A A1 : Addr → Prop} {r : Ans} {R : Bool → Hp → Prop} (f : FinT X W ρ σ H A r R) (g : Gd X.K ρ σ H A) (af : Aft X.K ρ σ H A ρ1 H1 A1) : FinT X W ρ1 σ H1 A1 r R := by
  cases r with
  | er x => exact Fin.go (X := X) (W := W) (r := .er x) (Q := fun _ _ => True) f g af
  | ok t c ρ' =>
    cases t with
    | bl b => exact fun H' A' af2 => f H' A' (af.trans g af2)
    | _ => exact f.elim
theorem Jl (h : SE X W e m) (he : ∀ whole, isTrue e X.env whole = (do let v ← whole; standAt e.pos; holding [v] (truthy v)) := by intro _; rfl) : ST X W e (Kr m) := by
  intro ρ σ H A r R g er f
  refine t_tru (h.bind g er f.fin fun t c ρ1 v H1 A1 ek af vo => ?_) he
  cases q : Jy t with
  | none => rw [q] at ek; cases ek
  | some k =>
  rw [q] at ek
  cases ek
  exact ⟨k, truT_ok q (vo.rr af.good), f H1 A1 af⟩
/-- behind a test -/
def blM (m : M) (k : Bool → M) : M := bnd m fun t _ => match t with
  | .bl b => k b
  | _ => fun _ => none
theorem blM_inv {m : M} {k : Bool → M} {ρ : Sls} {r : Ans} (h : blM m k ρ = some r) : (∃ b c ρ1, m ρ = some (.ok (.bl b) c ρ1) ∧ k b ρ1 = some r) ∨ ∃ x, m ρ = some (.er x) ∧ r = .er x := by
  unfold blM bnd at h
  cases em : m ρ with
  | none => rw [em] at h; cases h
  | some u =>
    rw [em] at h
    cases u with
    | er x => cases h; exact .inr ⟨x, rfl, rfl⟩
    | ok t c ρ1 =>
      cases t with
      | bl b => exact .inl ⟨b, c, ρ1, rfl, h⟩
      | _ => cases h
theorem ST.bind {ρ : Sls} {σ : L2.St} {H : Hp} {A : Addr → Prop} {r : Ans} {k : Bool → M} {R : Bool → Hp → Prop} (h : ST X W e m) (g : Gd X.K ρ σ H A) (er : blM m k ρ = some r)
    (fe : ∀ x, r = .er x → ∀ C d H', (∀ a o, ¬ Prv ρ σ a → H a = some o → H' a = some o) → XOk X.K H' A x C d → W C d H')
    (hk : ∀ b ρ1 H1 A1, k b ρ1 = some r → Aft X.K ρ σ H A ρ1 H1 A1 → R b H1) : wT X e σ H R := by
  rcases blM_inv er with ⟨b, c, ρ1, e1, e2⟩ | ⟨x, e1, e2⟩
  · exact h ρ σ H A _ R g e1 fun H1 A1 af => hk b ρ1 H1 A1 e2 af
  · exact h ρ σ H A _ R g e1 (fe x e2)
theorem Fin.err {ρ : Sls} {σ : L2.St} {H : Hp} {A : Addr → Prop} {r : Ans} {Q : VK} (f : Fin X W ρ σ H A r Q) : ∀ x, r = .er x → ∀ C d H', (∀ a o, ¬ Prv ρ σ a → H a = some o → H' a = some o) → XOk X.K H' A x C d → W C d H' := fun x e => by subst e; exact f
theorem FinT.err {ρ : Sls} {σ : L2.St} {H : Hp} {A : Addr → Prop} {r : Ans} {R : Bool → Hp → Prop} (f : FinT X W ρ σ H A r R) : ∀ x, r = .er x → ∀ C d H', (∀ a o, ¬ Prv ρ σ a → H a = some o → H' a = some o) → XOk X.K H' A x C d → W C d H' := fun x e => by subst e; exact f
def blv (b : Bool) : M := fun ρ => some (.ok (.bl b) .va ρ)
def KU (m : M) : M := blM m fun b => blv (!b)
def andT (ma mb : M) : M := blM ma fun b => if b = true then mb else blv false
def orT (ma mb : M) : M := blM ma fun b => if b = true then blv true else mb
theorem JB (h : ST X W a ma) : ST X W (.UnaryOp .Not a pos) (KU ma) := by
  intro ρ σ H A r R g er f
  refine t_not (h.bind g er f.err fun b ρ1 H1 A1 e af => ?_)
  cases e
  exact f H1 A1 af
/-- the tests within an and or an or -/
def SW (X : Cx) (W : XK) (e : Expr) (m : M) : Prop := ∀ ρ σ H A r R, Gd X.K ρ σ H A → m ρ = some r → FinT X W ρ σ H A r R → wW X e σ H R
theorem WD (h : SW X W e m) : ST X W e m := fun ρ σ H A r R g er f => t_w (h ρ σ H A r R g er f)
theorem Kz (h : ST X W a ma) : SW X W (.BoolOp .Or [a] pos) ma := fun ρ σ H A r R g er f => w_or1 (h ρ σ H A r R g er f)
theorem KH {rest : List Expr} (ha : ST X W a ma) (hb : SW X W (.BoolOp .Or (b :: rest) pos) mb) : SW X W (.BoolOp .Or (a :: b :: rest) pos) (orT ma mb) := by
  intro ρ σ H A r R g er f
  refine w_or (ha.bind g er f.err fun b ρ1 H1 A1 e af => ?_)
  cases b with
  | false => exact iteF (hb ρ1 σ H1 A1 r R af.good e (f.go g af))
  | true => cases e; exact iteT (f H1 A1 af)
/-- a comparison as a test -/
theorem Kk {op : CmpOp} {f : F2} (ho : Kw X (compareOp op) f) (ha : SE X W a ma) (hb : SE X W b mb) (hm : behindInMarks op b = false := by first | exact nomark _ (by decide) (by decide) | rfl) : ST X W (.Compare a [op] [b] pos) (op2 ma mb f) := by
  intro ρ σ H A r R g er f0
  have f1 := f0.fin
  refine t_cmp (ha.bind g er f1 fun ta ca ρ1 x H1 A1 ek af1 vx => ?_) hm
  have g1 := af1.good
  refine hb.bind g1 ek (f1.go g af1) fun tb cb ρ2 y H2 A2 ek2 af2 vy => ?_
  have g2 := af2.good
  have vx2 := vx.go g1 (fun i p h => g.at_ (af1.shp.at' h)) af2
  unfold Jg at ek2
  cases ef : f (Jd ca ta ρ2) tb with
  | none => rw [ef] at ek2; cases ek2
  | some u =>
    obtain ⟨t, bb⟩ := u
    rw [ef] at ek2
    cases ek2
    refine ho H2 A2 _ _ x y t bb _ g2.tr (vx2.rr g2) (vy.rr g2) ef fun v H3 n => ?_
    obtain ⟨A3, af3, vo⟩ := (af1.trans g af2).nw g n
    exact f1 v H3 A3 af3 vo
theorem JQ {op : CmpOp} {f : F2} (ho : Kw X (compareOp op) f) (ha : SE X W a ma) (hb : SE X W b mb) (hm : behindInMarks op b = false := by first | exact nomark _ (by decide) (by decide) | rfl) : SE X W (.Compare a [op] [b] pos) (op2 ma mb f) := se_op (fun h => e_cmp h hm) ho ha hb
theorem jE {op : Operator} {f : F2} (ho : Kw X (binaryOp op) f) (ha : SE X W a ma) (hb : SE X W b mb) : SE X W (.BinOp a op b pos) (op2 ma mb f) := se_op (fun h => e_bin h) ho ha hb
/-- x if c else y -/
def ifE (mc ma mb : M) : M := blM mc fun b => if b = true then ma else mb
theorem se_if {c : Expr} {mc : M} (hc : ST X W c mc) (ha : SE X W a ma) (hb : SE X W b mb) : SE X W (.IfExp c a b pos) (ifE mc ma mb) := by
  intro ρ σ H A r Q g er f
  refine e_if (hc.bind g er f.err fun b ρ1 H1 A1 e af => ?_)
  cases b with
  | true => exact iteT (ha ρ1 σ H1 A1 r Q af.good e (f.go g af))
  | false => exact iteF (hb ρ1 σ H1 A1 r Q af.good e (f.go g af))
def atT (t i : T) : Option (T × Bool) := match t, i with
  | .str l, .int i => if l.length ≤ big then (atI l i).map fun c => (.str [c], false) else none
  | t, .int i => match t.row with
    | some (_, l) => (atI l i).map fun x => (x, false)
    | none => none
  | _, _ => none
def IxV (X : Cx) (f : F2) : Prop := ∀ H A ta tb x y t b Q, Rr X.K H A ta x → Rr X.K H A tb y → f ta tb = some (t, b) → (∀ v H', Nw X.K A H t b v H' → Q v H') → ixB X x y H Q
theorem Rps.atI {K : PySem.W.Frag} {H : Hp} {A : Addr → Prop} {l : List T} {vs : List V} (r : Rps K H A l vs) {i : Int} {x : T} (e : atI l i = some x) : ∃ y, atI vs i = some y ∧ Rp K H A x y := by
  unfold L2.atI at e ⊢
  rw [← r.length]
  cases q : ixN l.length i with
  | none => rw [q] at e; cases e
  | some j => rw [q] at e; exact r.get e
theorem ix_ok : IxV X atT := by
  intro H A ta tb x y t b Q rx ry e q
  unfold atT at e
  split at e
  · rename_i l i
    split at e
    · rename_i c
      cases e1 : atI l i with
      | none => rw [e1] at e; cases e
      | some d =>
        rw [e1] at e
        cases e
        cases rx.str; cases ry.int
        exact ix_S (by rw [S_len]; have := JO; omega) (by rw [Ku]; exact e1) (q _ H (vE (.str [d])))
    · cases e
  · rename_i i _
    split at e
    · rename_i k l e0
      cases e1 : atI l i with
      | none => rw [e1] at e; cases e
      | some d =>
        rw [e1] at e
        cases e
        obtain ⟨p, vs, rfl, sq, r⟩ := rx.seq e0
        cases ry.int
        obtain ⟨y, e2, r2⟩ := r.atI e1
        exact ix_P sq.symm e2 (q y H (vE r2))
    · cases e
  · cases e
theorem wx (ha : SE X W a ma) (hb : SE X W b mb) (hs : PlainIx b := by exact fun _ _ => rfl) : SE X W (.Subscript a b pos) (op2 ma mb atT) := by
  intro ρ σ H A r Q g er f0
  refine e_ix (ha.bind g er f0 fun ta ca ρ1 x H1 A1 ek af1 vx => ?_) hs
  have g1 := af1.good
  refine hb.bind g1 ek (f0.go g af1) fun tb cb ρ2 y H2 A2 ek2 af2 vy => ?_
  have g2 := af2.good
  have vx2 := vx.go g1 (fun i p h => g.at_ (af1.shp.at' h)) af2
  unfold Jg at ek2
  cases ef : atT (Jd ca ta ρ2) tb with
  | none => rw [ef] at ek2; cases ek2
  | some u =>
    obtain ⟨t, bb⟩ := u
    rw [ef] at ek2
    cases ek2
    refine ix_ok H2 A2 _ _ x y t bb _ (vx2.rr g2) (vy.rr g2) ef fun v H3 n => ?_
    obtain ⟨A3, af3, vo⟩ := (af1.trans g af2).nw g n
    exact f0 v H3 A3 af3 vo
end
end Tr
end F_Tr4
section F_Tr5
set_option Elab.async false
set_option maxRecDepth 100000
set_option maxHeartbeats 4000000
set_option linter.all false
namespace Tr
open PySem PySem.Spec PyProof.Rows L2 LamX Vf
open SX (S)
/-- from one place of a def to a later one -/
structure Run (K : PySem.W.Frag) (ρ0 : Sls) (σ0 : L2.St) (H0 : Hp) (A0 : Addr → Prop) (ρ : Sls) (σ : L2.St) (H : Hp) (A : Addr → Prop) : Prop where
  good : Gd K ρ σ H A
  sub : ∀ a, A0 a → A a ∨ ∃ i, At ρ0 σ0 i a
  new : ∀ a, A a → A0 a ∨ H0 a = none
  keep : ∀ a o, ¬ Prv ρ0 σ0 a → H0 a = some o → H a = some o
  there : ∀ a o, H0 a = some o → ∃ o', H a = some o'
  own : ∀ i p, At ρ σ i p → (∃ j, At ρ0 σ0 j p) ∨ H0 p = none
  prv : ∀ p, Prv ρ σ p → Prv ρ0 σ0 p ∨ H0 p = none
  c0 : ∀ t, ρ0[0]? = some (.ow t) → (∃ t', ρ[0]? = some (.ow t')) ∧ σ[0]? = σ0[0]?
  len : σ.length = σ0.length
  kds : ∀ (i : Nat) (l : List (Key × T)), ρ[i]? = some (.kd l) → ρ0[i]? = some (.kd l) ∧ σ[i]? = σ0[i]?
/-- what is locked stays -/
def Lok (ρ0 : Sls) (σ0 : L2.St) (ρ : Sls) (σ : L2.St) : Prop := ∀ (i : Nat) (s : Sl), s.fx = true → ρ0[i]? = some s → ρ[i]? = some s ∧ σ[i]? = σ0[i]?
theorem Lok.refl {ρ : Sls} {σ : L2.St} : Lok ρ σ ρ σ := fun i t _ e => ⟨e, rfl⟩
theorem Lok.trans {ρ0 ρ1 ρ2 : Sls} {σ0 σ1 σ2 : L2.St} (a : Lok ρ0 σ0 ρ1 σ1) (b : Lok ρ1 σ1 ρ2 σ2) : Lok ρ0 σ0 ρ2 σ2 := fun i t x e => by
  obtain ⟨e1, e2⟩ := a i t x e
  obtain ⟨e3, e4⟩ := b i t x e1
  exact ⟨e3, e4.trans e2⟩
theorem Shp.lok {ρ ρ' : Sls} {σ : L2.St} (h : Shp ρ ρ') : Lok ρ σ ρ' σ := fun i t x e => by
  obtain ⟨s', e', r⟩ := h.2 i _ e
  refine ⟨?_, rfl⟩
  cases t <;> first | (cases x; done) | rw [e', r]
theorem Lok.set {ρ0 ρ : Sls} {σ0 σ : L2.St} {i : Nat} {s' : Sl} {v : Option V} (l : Lok ρ0 σ0 ρ σ) (nl : ∀ s, s.fx = true → ρ[i]? ≠ some s) : Lok ρ0 σ0 (ρ.set i s') (σ.set i v) := fun j t x e => by
  have c : j ≠ i := fun z => by subst z; exact nl t x (l j t x e).1
  rw [List.getElem?_set_ne (fun z => c z.symm), List.getElem?_set_ne (fun z => c z.symm)]
  exact l j t x e
section
variable {K : PySem.W.Frag} {ρ ρ0 ρ1 ρ2 ρ' : Sls} {σ σ0 σ1 σ2 σ' : L2.St} {H H0 H1 H2 H' : Hp} {A A0 A1 A2 A' : Addr → Prop}
theorem Run.non (r : Run K ρ0 σ0 H0 A0 ρ σ H A) {p : Addr} (h : H p = none) : H0 p = none := by
  cases e : H0 p with
  | none => rfl
  | some o => obtain ⟨o', e'⟩ := r.there p o e; rw [h] at e'; cases e'
theorem Run.refl (g : Gd K ρ σ H A) : Run K ρ σ H A ρ σ H A := ⟨g, fun a h => .inl h, fun a h => .inl h, fun _ _ _ e => e, fun _ o e => ⟨o, e⟩, fun i p h => .inl ⟨i, h⟩, fun p h => .inl h, fun t e => ⟨⟨t, e⟩, rfl⟩, rfl, fun i l e => ⟨e, rfl⟩⟩
theorem Run.trans (g : Gd K ρ0 σ0 H0 A0) (a : Run K ρ0 σ0 H0 A0 ρ1 σ1 H1 A1) (b : Run K ρ1 σ1 H1 A1 ρ2 σ2 H2 A2) : Run K ρ0 σ0 H0 A0 ρ2 σ2 H2 A2 := by
  refine ⟨b.good, fun p h => ?_, fun p h => ?_, fun p o n e => ?_, fun p o e => ?_, fun i p h => ?_, fun p h => ?_, fun t e => ?_, b.len.trans a.len, fun i l e => let ⟨e1, s1⟩ := b.kds i l e; let ⟨e2, s2⟩ := a.kds i l e1; ⟨e2, s1.trans s2⟩⟩
  · rcases a.sub p h with q | q
    · rcases b.sub p q with q | ⟨i, q⟩
      · exact .inl q
      · rcases a.own i p q with q | q
        · exact .inr q
        · obtain ⟨u, e⟩ := (g.tr p h).ne; rw [q] at e; cases e
    · exact .inr q
  · rcases b.new p h with q | q
    · exact a.new p q
    · exact .inr (a.non q)
  · exact b.keep p o (fun z => (a.prv p z).elim n fun z => by rw [z] at e; cases e) (a.keep p o n e)
  · obtain ⟨o', e'⟩ := a.there p o e; exact b.there p o' e'
  · rcases b.own i p h with ⟨j, q⟩ | q
    · exact a.own j p q
    · exact .inr (a.non q)
  · rcases b.prv p h with q | q
    · exact a.prv p q
    · exact .inr (a.non q)
  · obtain ⟨⟨t1, e1⟩, q1⟩ := a.c0 t e
    obtain ⟨e2, q2⟩ := b.c0 t1 e1
    exact ⟨e2, q2.trans q1⟩
theorem Aft.run (a : Aft K ρ σ H A ρ' H' A') (g : Gd K ρ σ H A) : Run K ρ σ H A ρ' σ H' A' :=
  ⟨a.good, fun p h => .inl (a.sub p h), a.new, a.keep, fun p o e => by
    cases q : H' p with
    | none => rw [a.there g q] at e; cases e
    | some o' => exact ⟨o', rfl⟩, fun i p h => .inl ⟨i, a.shp.at' h⟩, fun p h => .inl (a.shp.prv h), fun t e => by
      obtain ⟨s', e', r⟩ := a.shp.2 0 _ e
      obtain ⟨t', rfl⟩ := r
      exact ⟨⟨t', e'⟩, rfl⟩, rfl, fun i l e => ⟨by
        obtain ⟨s, e2, r⟩ := a.shp.back e
        cases s with
        | ow t => obtain ⟨t', z⟩ := r; cases z
        | _ => cases r; try exact e2, rfl⟩⟩
theorem at_set {s' : Sl} {v : V} {i j : Nat} {p : Addr} (h : At (ρ.set i s') (σ.set i (some v)) j p) : (j = i ∧ s'.priv = true ∧ v = .ref p) ∨ (j ≠ i ∧ At ρ σ j p) := by
  obtain ⟨s, e, pr, e2⟩ := h
  by_cases c : j = i
  · subst c
    rw [List.getElem?_set_self'] at e e2
    cases q : ρ[j]? with
    | none => rw [q] at e; cases e
    | some x =>
      cases q2 : σ[j]? with
      | none => rw [q2] at e2; cases e2
      | some y =>
        rw [q] at e; rw [q2] at e2
        simp at e e2
        subst e
        exact .inl ⟨rfl, pr, e2⟩
  · rw [List.getElem?_set_ne (fun z => c z.symm)] at e e2
    exact .inr ⟨c, s, e, pr, e2⟩
theorem Gd.set (g : Gd K ρ σ H A) {i : Nat} {s' : Sl} {v : V} (ok : SlOk K H A s' (some (some v))) (n : s'.priv = true → ∀ j p, v = .ref p → ¬ At ρ σ j p) : Gd K (ρ.set i s') (σ.set i (some v)) H A := by
  refine ⟨g.tr, fun j s e => ?_, fun j k p h1 h2 => ?_, by rw [List.length_set, List.length_set]; exact g.len⟩
  · by_cases c : j = i
    · subst c
      rw [List.getElem?_set_self'] at e ⊢
      cases q : ρ[j]? with
      | none => rw [q] at e; cases e
      | some x =>
        rw [q] at e
        simp at e
        subst e
        have : j < σ.length := by rw [← g.len]; exact (List.getElem?_eq_some_iff.mp q).1
        rw [List.getElem?_eq_getElem this]
        exact ok
    · rw [List.getElem?_set_ne (fun z => c z.symm)] at e ⊢
      exact g.sl j s e
  · rcases at_set h1 with ⟨rfl, p1, e1⟩ | ⟨c1, a1⟩ <;> rcases at_set h2 with ⟨rfl, p2, e2⟩ | ⟨c2, a2⟩
    · rfl
    · exact absurd a2 (n p1 k p e1)
    · exact absurd a1 (n p2 j p e2)
    · exact g.dj j k p a1 a2
theorem Run.set (g : Gd K ρ σ H A) {i : Nat} {s' : Sl} {v : V} (ok : SlOk K H A s' (some (some v))) (n : s'.priv = true → ∀ p, v = .ref p → (∀ j, ¬ At ρ σ j p) ∧ H0 p = none) (z0 : i = 0 → ∀ t, ρ[0]? ≠ some (.ow t)) (r : Run K ρ0 σ0 H0 A0 ρ σ H A) (nk : ∀ l, s' ≠ .kd l := by intro _ h; cases h) : Run K ρ0 σ0 H0 A0 (ρ.set i s') (σ.set i (some v)) H A := by
  refine ⟨g.set ok fun pr j p e => (n pr p e).1 j, r.sub, r.new, r.keep, r.there, fun j p h => ?_, fun p h => ?_, fun t e => ?_, by rw [List.length_set]; exact r.len, fun j l e => ?_⟩
  · rcases at_set h with ⟨rfl, p1, e1⟩ | ⟨c1, a1⟩
    · exact .inr (n p1 p e1).2
    · exact r.own j p a1
  · obtain ⟨j, t, e, e2⟩ := h
    rcases at_set ⟨_, e, rfl, e2⟩ with ⟨rfl, p1, e1⟩ | ⟨c1, a1⟩
    · exact .inr (n p1 p e1).2
    · rw [List.getElem?_set_ne (fun z => c1 z.symm)] at e e2
      exact r.prv p ⟨j, t, e, e2⟩
  · obtain ⟨⟨t', e'⟩, q⟩ := r.c0 t e
    have c : i ≠ 0 := fun z => z0 z t' e'
    rw [List.getElem?_set_ne c, List.getElem?_set_ne c]
    exact ⟨⟨t', e'⟩, q⟩
  · have c : i ≠ j := fun z => by
      subst z
      rw [List.getElem?_set_self'] at e
      cases q : ρ[i]? with
      | none => rw [q] at e; cases e
      | some x => rw [q] at e; simp at e; exact nk l e
    rw [List.getElem?_set_ne c] at e ⊢
    exact r.kds j l e
end
inductive Out where
  | nx (ρ : Sls) | bk (ρ : Sls) | ct (ρ : Sls) | rt (t : T) (b : Bool) (ρ : Sls) | er (x : Ex)
abbrev MS := Sls → Option Out
/-- what is handed back: b: a new one of one's own -/
def RtOk (K : PySem.W.Frag) (H0 : Hp) (H : Hp) (A : Addr → Prop) (t : T) (b : Bool) (v : V) : Prop := match b with
  | false => Rp K H A t v
  | true => ∃ p, v = .ref p ∧ H0 p = none ∧ A p ∧ Ow K H A t p
def FinS (X : Cx) (W : XK) (D : Ends) (ρ : Sls) (σ : L2.St) (H : Hp) (A : Addr → Prop) (r : Out) : Prop := match r with
  | .nx ρ' => ∀ σ' H' A', Run X.K ρ σ H A ρ' σ' H' A' → Lok ρ σ ρ' σ' → D.nx σ' H'
  | .bk ρ' => ∀ σ' H' A', Run X.K ρ σ H A ρ' σ' H' A' → Lok ρ σ ρ' σ' → D.bk σ' H'
  | .ct ρ' => ∀ σ' H' A', Run X.K ρ σ H A ρ' σ' H' A' → Lok ρ σ ρ' σ' → D.ct σ' H'
  | .rt t b ρ' => ∀ v σ' H' A', Run X.K ρ σ H A ρ' σ' H' A' → RtOk X.K H H' A' t b v → D.rt v H'
  | .er x => ∀ C d H' A', (∀ a o, ¬ Prv ρ σ a → H a = some o → H' a = some o) → (∀ a, A a → A' a ∨ ∃ i, At ρ σ i a) → XOk X.K H' A' x C d → W C d H'
def SB (X : Cx) (W : XK) (st : List Stmt) (m : MS) : Prop := ∀ ρ σ H A r D, Gd X.K ρ σ H A → m ρ = some r → FinS X W D ρ σ H A r → wB X st D σ H
def SS (X : Cx) (W : XK) (st : Stmt) (m : MS) : Prop := ∀ ρ σ H A r D, Gd X.K ρ σ H A → m ρ = some r → FinS X W D ρ σ H A r → wS X st D σ H
section
variable {X : Cx} {W : XK} {e a b : Expr} {es : List Expr} {m ma mb mc : M} {mA : MA} {st : Stmt} {rest sa sb : List Stmt} {ms mr : MS} {pos p1 : Pos}
theorem FinS.go {D : Ends} {ρ ρ1 : Sls} {σ σ1 : L2.St} {H H1 : Hp} {A A1 : Addr → Prop} {r : Out} (f : FinS X W D ρ σ H A r) (g : Gd X.K ρ σ H A) (ru : Run X.K ρ σ H A ρ1 σ1 H1 A1) (lo : Lok ρ σ ρ1 σ1) : FinS X W D ρ1 σ1 H1 A1 r := by
  cases r with
  | nx ρ' => exact fun σ' H' A' r2 l2 => f σ' H' A' (ru.trans g r2) (lo.trans l2)
  | bk ρ' => exact fun σ' H' A' r2 l2 => f σ' H' A' (ru.trans g r2) (lo.trans l2)
  | ct ρ' => exact fun σ' H' A' r2 l2 => f σ' H' A' (ru.trans g r2) (lo.trans l2)
  | rt t b ρ' =>
    intro v σ' H' A' r2 ro
    refine f v σ' H' A' (ru.trans g r2) ?_
    cases b with
    | false => exact ro
    | true => obtain ⟨p, e, h, q⟩ := ro; exact ⟨p, e, ru.non h, q⟩
  | er x =>
    intro C d H' A' k s xo
    refine f C d H' A' (fun p o n e => k p o (fun z => (ru.prv p z).elim n fun z => by rw [z] at e; cases e) (ru.keep p o n e)) (fun p h => ?_) xo
    rcases ru.sub p h with q | q
    · rcases s p q with q | ⟨i, q⟩
      · exact .inl q
      · rcases ru.own i p q with q | q
        · exact .inr q
        · obtain ⟨u, e⟩ := (g.tr p h).ne; rw [q] at e; cases e
    · exact .inr q
theorem FinS.err {D : Ends} {ρ : Sls} {σ : L2.St} {H : Hp} {A : Addr → Prop} {x : Ex} (f : FinS X W D ρ σ H A (.er x)) : ∀ C d H', (∀ a o, ¬ Prv ρ σ a → H a = some o → H' a = some o) → XOk X.K H' A x C d → W C d H' :=
  fun C d H' k xo => f C d H' A k (fun _ h => .inl h) xo
/-- an expression first -/
def Wg (m : M) (k : T → Cl → MS) : MS := fun ρ => match m ρ with
  | some (.ok t c ρ') => k t c ρ'
  | some (.er x) => some (.er x)
  | none => none
theorem SE.bindS {ρ : Sls} {σ : L2.St} {H : Hp} {A : Addr → Prop} {r : Out} {D : Ends} {k : T → Cl → MS} (h : SE X W e m) (g : Gd X.K ρ σ H A) (er : Wg m k ρ = some r) (f : FinS X W D ρ σ H A r)
    {R : VK} (hk : ∀ t c ρ1 v H1 A1, k t c ρ1 = some r → Aft X.K ρ σ H A ρ1 H1 A1 → VOk X.K A H1 A1 ρ1 σ c t v → R v H1) : wE X e σ H R := by
  unfold Wg at er
  cases em : m ρ with
  | none => rw [em] at er; cases er
  | some u =>
    rw [em] at er
    cases u with
    | ok t c ρ1 => exact h ρ σ H A _ R g em fun v H1 A1 af vo => hk t c ρ1 v H1 A1 er af vo
    | er x => cases er; exact h ρ σ H A _ R g em f.err
def blS (m : M) (k : Bool → MS) : MS := Wg m fun t _ => match t with
  | .bl b => k b
  | _ => fun _ => none
theorem ST.bindS {ρ : Sls} {σ : L2.St} {H : Hp} {A : Addr → Prop} {r : Out} {D : Ends} {k : Bool → MS} {R : Bool → Hp → Prop} (h : ST X W e m) (g : Gd X.K ρ σ H A) (er : blS m k ρ = some r) (f : FinS X W D ρ σ H A r)
    (hk : ∀ b ρ1 H1 A1, k b ρ1 = some r → Aft X.K ρ σ H A ρ1 H1 A1 → R b H1) : wT X e σ H R := by
  unfold blS Wg at er
  cases em : m ρ with
  | none => rw [em] at er; cases er
  | some u =>
    rw [em] at er
    cases u with
    | er x => cases er; exact h ρ σ H A _ R g em f.err
    | ok t c ρ1 =>
      cases t with
      | bl b => exact h ρ σ H A _ R g em fun H1 A1 af => hk b ρ1 H1 A1 er af
      | _ => cases er
def kq : MS := fun ρ => some (.nx ρ)
def jn (ms mr : MS) : MS := fun ρ => match ms ρ with
  | some (.nx ρ') => mr ρ'
  | r => r
theorem jp : SB X W [] kq := by
  intro ρ σ H A r D g er f
  cases er
  exact s_nil (f σ H A (.refl g) .refl)
theorem jf (h : SS X W st ms) (hr : SB X W rest mr) : SB X W (st :: rest) (jn ms mr) := by
  intro ρ σ H A r D g er f
  refine s_cons ?_
  unfold jn at er
  cases em : ms ρ with
  | none => rw [em] at er; cases er
  | some u =>
    rw [em] at er
    cases u with
    | nx ρ1 => exact h ρ σ H A _ _ g em fun σ1 H1 A1 ru lo => hr ρ1 σ1 H1 A1 r D ru.good er (f.go g ru lo)
    | bk ρ1 => cases er; exact h ρ σ H A _ _ g em f
    | ct ρ1 => cases er; exact h ρ σ H A _ _ g em f
    | rt t b ρ1 => cases er; exact h ρ σ H A _ _ g em f
    | er x => cases er; exact h ρ σ H A _ _ g em f
def ifS (mc : M) (ma mb : MS) : MS := blS mc fun b => if b = true then ma else mb
theorem JR {ma mb : MS} (hc : ST X W e mc) (ha : SB X W sa ma) (hb : SB X W sb mb) : SS X W (.If e sa sb pos) (ifS mc ma mb) := by
  intro ρ σ H A r D g er f
  refine s_if (hc.bindS g er f fun k ρ1 H1 A1 e2 af => ?_)
  cases k with
  | true => exact iteT (ha ρ1 σ H1 A1 r D af.good e2 (f.go g (af.run g) af.shp.lok))
  | false => exact iteF (hb ρ1 σ H1 A1 r D af.good e2 (f.go g (af.run g) af.shp.lok))
def expS (m : M) : MS := Wg m fun _ _ ρ => some (.nx ρ)
def JI : Sl → Sl
  | .ow t => .va t
  | .lk t => .va t
  | s => s
def frz : Sls → Sls
  | [] => []
  | s :: ρ => s :: ρ.map JI
theorem frz_get {ρ : Sls} {i : Nat} {s : Sl} (h : (frz ρ)[i]? = some s) : ∃ s0, ρ[i]? = some s0 ∧ s = if i = 0 then s0 else JI s0 := by
  cases ρ with
  | nil => simp [frz] at h
  | cons x ρ =>
    cases i with
    | zero => simp [frz] at h; exact ⟨x, rfl, by simp [h]⟩
    | succ i =>
      simp [frz] at h
      obtain ⟨s0, e, rfl⟩ := h
      exact ⟨s0, by simpa using e, by simp⟩
theorem frz_len {ρ : Sls} : (frz ρ).length = ρ.length := by cases ρ <;> simp [frz]
/-- what is kept private then -/
def AF (ρ : Sls) (σ : L2.St) (A : Addr → Prop) : Addr → Prop := fun a => A a ∧ ∀ i, i ≠ 0 → ¬ At ρ σ i a
theorem frz_at {ρ : Sls} {σ : L2.St} {i : Nat} {p : Addr} (h : At (frz ρ) σ i p) : i = 0 ∧ At ρ σ i p := by
  obtain ⟨s, e, pr, e2⟩ := h
  obtain ⟨s0, e0, q⟩ := frz_get e
  by_cases c : i = 0
  · rw [if_pos c] at q; subst q; exact ⟨c, s, e0, pr, e2⟩
  · rw [if_neg c] at q; subst q; cases s0 <;> cases pr
theorem Gd.frz {K : PySem.W.Frag} {ρ : Sls} {σ : L2.St} {H : Hp} {A : Addr → Prop} (g : Gd K ρ σ H A) : Run K ρ σ H A (frz ρ) σ H (AF ρ σ A) := by
  have g' : Gd K (Tr.frz ρ) σ H (AF ρ σ A) := by
    refine ⟨fun a h => g.tr a h.1, fun i s e => ?_, fun i j p h1 h2 => g.dj i j p (frz_at h1).2 (frz_at h2).2, by rw [frz_len]; exact g.len⟩
    obtain ⟨s0, e0, q⟩ := frz_get e
    have ok := g.sl i s0 e0
    by_cases c : i = 0
    · rw [if_pos c] at q
      subst q
      have less : ∀ a, AF ρ σ A a → A a := fun a h => h.1
      cases s with
      | no => trivial
      | kd l => exact We (vf less) ok
      | va t => obtain ⟨v, e2, r⟩ := ok; exact ⟨v, e2, r.go (vf less)⟩
      | ow t => obtain ⟨p, e2, h, r⟩ := ok; exact ⟨p, e2, ⟨h, fun j n a => n ((g.dj i j p ⟨_, e0, rfl, e2⟩ a).symm.trans c)⟩, r.go (vf less) fun z => z⟩
      | lk t => obtain ⟨p, e2, h, r⟩ := ok; exact ⟨p, e2, ⟨h, fun j n a => n ((g.dj i j p ⟨_, e0, rfl, e2⟩ a).symm.trans c)⟩, r.go (vf less) fun z => z⟩
    · rw [if_neg c] at q
      subst q
      have less : ∀ a, AF ρ σ A a → A a := fun a h => h.1
      cases s0 with
      | no => trivial
      | kd l => exact We (vf less) ok
      | va t => obtain ⟨v, e2, r⟩ := ok; exact ⟨v, e2, r.go (vf less)⟩
      | ow t => obtain ⟨p, e2, h, r⟩ := ok; exact ⟨.ref p, e2, r.fz (fun z => z.2 i c ⟨_, e0, rfl, e2⟩) less⟩
      | lk t => obtain ⟨p, e2, h, r⟩ := ok; exact ⟨.ref p, e2, r.fz (fun z => z.2 i c ⟨_, e0, rfl, e2⟩) less⟩
  refine ⟨g', fun a h => ?_, fun a h => .inl h.1, fun _ _ _ e => e, fun _ o e => ⟨o, e⟩, fun i p h => .inl ⟨i, (frz_at h).2⟩, fun p h => ?_, fun t e => ⟨⟨t, by cases ρ with | nil => cases e | cons x ρ => simpa [Tr.frz] using e⟩, rfl⟩, rfl, fun i l e => ⟨by
    obtain ⟨s0, e0, q⟩ := frz_get e
    by_cases c : i = 0
    · rw [if_pos c] at q; subst q; exact e0
    · rw [if_neg c] at q; cases s0 <;> cases q; exact e0, rfl⟩⟩
  · by_cases c : ∃ i, At ρ σ i a
    · exact .inr c
    · exact .inl ⟨h, fun i _ z => c ⟨i, z⟩⟩
  · obtain ⟨i, t, e, e2⟩ := h
    obtain ⟨s0, e0, q⟩ := frz_get e
    by_cases c : i = 0
    · rw [if_pos c] at q; subst q; exact .inl ⟨i, t, e0, e2⟩
    · rw [if_neg c] at q; cases s0 <;> cases q
/-- return e -/
def vL (m : M) : MS := fun ρ => Wg m (fun t c ρ' => match c with
  | .va => some (.rt t false ρ')
  | .ow => some (.rt t true ρ')
  | .bo _ => none) (frz ρ)
theorem Aft.non {K : PySem.W.Frag} {ρ ρ' : Sls} {σ : L2.St} {H H' : Hp} {A A' : Addr → Prop} (a : Aft K ρ σ H A ρ' H' A') (g : Gd K ρ σ H A) {p : Addr} (n : ¬ A p) (h : A' p) : H p = none := (a.new p h).resolve_left n
theorem kl (h : SE X W e m) : SS X W (.Return (some e) pos) (vL m) := by
  intro ρ σ H A r D g er f
  have ru := g.frz
  have g1 := ru.good
  refine s_ret ?_
  unfold vL at er
  unfold Wg at er
  cases em : m (frz ρ) with
  | none => rw [em] at er; cases er
  | some u =>
    rw [em] at er
    cases u with
    | er x =>
      cases er
      refine h _ σ H _ _ D.rt g1 em fun C d H' k xo => f C d H' _ (fun p o n e => k p o (fun z => (ru.prv p z).elim n fun z => by rw [z] at e; cases e) e) ru.sub xo
    | ok t c ρ1 =>
      refine h _ σ H _ _ D.rt g1 em fun v H1 A1 af vo => ?_
      cases c with
      | va => cases er; exact f v σ H1 A1 (ru.trans g (af.run g1)) vo
      | ow =>
        cases er
        obtain ⟨p, e1, n, a1, ow⟩ := vo
        exact f v σ H1 A1 (ru.trans g (af.run g1)) ⟨p, e1, af.non g1 n a1, a1, ow⟩
      | bo i => cases er
/-- what may be stored -/
def GOk (K : PySem.W.Frag) (ρ : Sls) (σ : L2.St) (H0 : Hp) (H : Hp) (A : Addr → Prop) (c : Cl) (t : T) (v : V) : Prop := match c with
  | .va => Rp K H A t v
  | .ow => ∃ p, v = .ref p ∧ A p ∧ Ow K H A t p ∧ (∀ j, ¬ At ρ σ j p) ∧ H0 p = none
  | .bo _ => False
abbrev MG := T → Cl → Sls → Option Sls
/-- storing; U: the slots that may be stored to -/
def SG (X : Cx) (U : Option (List Nat)) (tg : Expr) (g : MG) : Prop := ∀ ρ0 σ0 H0 A0 ρ σ H A t c v ρ' (R : L2.St → Hp → Prop), Gd X.K ρ0 σ0 H0 A0 → Run X.K ρ0 σ0 H0 A0 ρ σ H A → GOk X.K ρ σ H0 H A c t v → g t c ρ = some ρ' →
  (∀ σ' H' A', Run X.K ρ0 σ0 H0 A0 ρ' σ' H' A' → Gon (Prv ρ σ) A A' H H' → (∀ vs, U = some vs → ∀ i, i ∉ vs → σ'[i]? = σ[i]? ∧ ρ'[i]? = ρ[i]?) → (Lok ρ0 σ0 ρ σ → Lok ρ0 σ0 ρ' σ') → R σ' H') → wG X tg v σ H R
/-- own: the name keeps what is one's own; else it is given away -/
def jB (own : Bool) (i : Nat) : MG := fun t c ρ => match ρ[i]? with
  | none => none
  | some (.lk _) => none
  | some (.kd _) => none
  | some s => if i = 0 ∧ s.priv = true then none else match c with
    | .va => some (ρ.set i (.va t))
    | .ow => if own = true then some (ρ.set i (.ow t)) else none
    | .bo _ => none
theorem setG_inv {own : Bool} {i : Nat} {t : T} {c : Cl} {ρ ρ' : Sls} (e : jB own i t c ρ = some ρ') : (∀ s, s.fx = true → ρ[i]? ≠ some s) ∧ (i = 0 → ∀ t, ρ[0]? ≠ some (.ow t)) ∧ ((c = .va ∧ ρ' = ρ.set i (.va t)) ∨ (c = .ow ∧ own = true ∧ ρ' = ρ.set i (.ow t))) := by
  unfold jB at e
  split at e
  · cases e
  · cases e
  · cases e
  · rename_i s nl nk es
    split at e
    · cases e
    · rename_i h0
      refine ⟨fun t x z => by rw [es] at z; cases z; (cases s <;> first | (cases x; done) | exact (nl _ rfl).elim | exact (nk _ rfl).elim), fun z t w => ?_, ?_⟩
      · subst z; rw [es] at w; cases w; exact h0 ⟨rfl, rfl⟩
      · split at e
        · cases e; exact .inl ⟨rfl, rfl⟩
        · split at e
          · cases e; exact .inr ⟨rfl, by assumption, rfl⟩
          · cases e
        · cases e
theorem kh (own : Bool) {i : Nat} {x : Str} (hN : X.N.Nodup) (hi : X.N[i]? = some x) (hx : Loc X.env.scope x) (hf : X.fn x = true ∨ X.env.scope.names.lookup x = some .local := by first | exact .inl rfl | exact .inr rfl | assumption) : SG X (some [i]) (.Name x pos) (jB own i) := by
  intro ρ0 σ0 H0 A0 ρ σ H A t c v ρ' R g0 ru ok e q
  have gn : Gon (Prv ρ σ) A A H H := ⟨fun _ _ _ e => e, fun p h => ⟨ru.good.prv h, ru.good.tr _ (ru.good.prv h)⟩, fun _ h => .inl h⟩
  refine g_name hN hi hx ?_ hf
  have oth : ∀ (s : Sl) vs, some [i] = some vs → ∀ j, j ∉ vs → (σ.set i (some v))[j]? = σ[j]? ∧ (ρ.set i s)[j]? = ρ[j]? := fun s vs e j h => by cases e; exact ⟨List.getElem?_set_ne fun z => h (by simp [z]), List.getElem?_set_ne fun z => h (by simp [z])⟩
  obtain ⟨nl, z0, ⟨rfl, rfl⟩ | ⟨rfl, rfl, rfl⟩⟩ := setG_inv e
  · exact q _ _ _ (ru.set ru.good (s' := .va t) ⟨v, rfl, ok⟩ (fun z => by cases z) z0) gn (oth _) fun l => l.set nl
  · obtain ⟨p, e1, a, ow, n, h0⟩ := ok
    exact q _ _ _ (ru.set ru.good (s' := .ow t) ⟨p, by rw [e1], a, ow⟩ (fun _ p' z => by rw [e1] at z; cases z; exact ⟨n, h0⟩) z0) gn (oth _) fun l => l.set nl
end
end Tr
end F_Tr5
section F_Tr6
set_option Elab.async false
set_option maxRecDepth 100000
set_option maxHeartbeats 4000000
set_option linter.all false
namespace Tr
open PySem PySem.Spec PyProof.Rows L2 LamX Vf
open SX (S)
section
variable {K : PySem.W.Frag} {ρ ρ0 ρ1 ρ2 ρ' : Sls} {σ σ0 σ1 σ2 σ' : L2.St} {H H0 H1 H2 H' : Hp} {A A0 A1 A2 A' : Addr → Prop}
theorem gon_wr {p : Addr} {o : HO} (a : A p) (l : LD (H p)) : Gon (fun q => q = p) A A H (upd H p o) := ⟨fun q u n e => by rw [upd_ne n]; exact e, fun q z => by rw [z]; exact ⟨a, l⟩, fun q z => .inl z⟩
/-- what slot i holds is changed -/
theorem Gd.wr (g : Gd K ρ σ H A) {i : Nat} {t t' : T} {p : Addr} {o : HO} (e : ρ[i]? = some (.ow t)) (e2 : σ[i]? = some (some (.ref p))) (lo : LD (some o)) (w : Gon (fun q => q = p) A A H (upd H p o) → Ow K (upd H p o) A t' p) : Gd K (ρ.set i (.ow t')) σ (upd H p o) A := by
  have ap := g.at_ ⟨_, e, rfl, e2⟩
  have k : Gon (fun q => q = p) A A H (upd H p o) := gon_wr ap (g.tr p ap)
  have ats : ∀ j q, At (ρ.set i (.ow t')) σ j q → At ρ σ j q := fun j q ⟨s, e3, pr, e4⟩ => by
    by_cases c : j = i
    · subst c; exact ⟨_, e, rfl, e4⟩
    · rw [List.getElem?_set_ne (fun z => c z.symm)] at e3; exact ⟨s, e3, pr, e4⟩
  refine ⟨fun a h => ?_, fun j s e3 => ?_, fun j k q h1 h2 => g.dj j k q (ats j q h1) (ats k q h2), by rw [List.length_set]; exact g.len⟩
  · by_cases c : a = p
    · rw [c, upd_same]; exact lo
    · rw [upd_ne c]; exact g.tr a h
  · by_cases c : j = i
    · subst c
      rw [List.getElem?_set_self'] at e3
      rw [e] at e3
      simp at e3
      subst e3
      exact ⟨p, e2, ap, w k⟩
    · rw [List.getElem?_set_ne (fun z => c z.symm)] at e3
      have q := g.sl j s e3
      have ne : ∀ q, At ρ σ j q → q ≠ p := fun q h z => by subst z; exact c (g.dj j i q h ⟨_, e, rfl, e2⟩)
      cases s with
      | no => trivial
      | kd u => exact We k q
      | va u => obtain ⟨v, e4, r⟩ := q; exact ⟨v, e4, r.go k⟩
      | ow u => obtain ⟨q, e4, h, r⟩ := q; exact ⟨q, e4, h, r.go k (ne q ⟨_, e3, rfl, e4⟩)⟩
      | lk u => obtain ⟨q, e4, h, r⟩ := q; exact ⟨q, e4, h, r.go k (ne q ⟨_, e3, rfl, e4⟩)⟩
theorem Gd.wr_run (g : Gd K ρ σ H A) {i : Nat} {t t' : T} {p : Addr} {o : HO} (e : ρ[i]? = some (.ow t)) (e2 : σ[i]? = some (some (.ref p))) (lo : LD (some o)) (w : Gon (fun q => q = p) A A H (upd H p o) → Ow K (upd H p o) A t' p) : Run K ρ σ H A (ρ.set i (.ow t')) σ (upd H p o) A := by
  have ap := g.at_ ⟨_, e, rfl, e2⟩
  have ats : ∀ j q, At (ρ.set i (.ow t')) σ j q → At ρ σ j q := fun j q ⟨s, e3, pr, e4⟩ => by
    by_cases c : j = i
    · subst c; exact ⟨_, e, rfl, e4⟩
    · rw [List.getElem?_set_ne (fun z => c z.symm)] at e3; exact ⟨s, e3, pr, e4⟩
  refine ⟨g.wr e e2 lo w, fun a h => .inl h, fun a h => .inl h, fun a u n h => ?_, fun a u h => ?_, fun j q h => .inl ⟨j, ats j q h⟩, fun q ⟨j, u, e3, e4⟩ => .inl ?_, fun u h => ⟨?_, rfl⟩, rfl, fun j l h => ⟨by
    have c : j ≠ i := fun z => by subst z; rw [List.getElem?_set_self (List.getElem?_eq_some_iff.mp e).1] at h; cases h
    rw [List.getElem?_set_ne (fun z => c z.symm)] at h; exact h, rfl⟩⟩
  · rw [upd_ne (fun z => n ⟨i, t, e, by rw [z]; exact e2⟩)]; exact h
  · by_cases c : a = p
    · rw [c, upd_same]; exact ⟨_, rfl⟩
    · rw [upd_ne c]; exact ⟨u, h⟩
  · by_cases c : j = i
    · subst c; exact ⟨j, t, e, e4⟩
    · rw [List.getElem?_set_ne (fun z => c z.symm)] at e3; exact ⟨j, u, e3, e4⟩
  · by_cases c : i = 0
    · subst c
      exact ⟨t', by rw [List.getElem?_set_self (List.getElem?_eq_some_iff.mp e).1]⟩
    · exact ⟨u, by rw [List.getElem?_set_ne c]; exact h⟩
theorem lok_wr {i : Nat} {t : T} {s : Sl} (e : ρ[i]? = some (.ow t)) : Lok ρ σ (ρ.set i s) σ := fun j u x h => by
  have c : j ≠ i := fun z => by subst z; rw [e] at h; cases h; cases x
  rw [List.getElem?_set_ne (fun z => c z.symm)]
  exact ⟨h, rfl⟩
end
def hasT (l : List (Key × T)) (k : Key) : Bool := l.any fun p => decide (p.1 = k)
def WA (l : List (Key × T)) (k : Key) (t : T) : List (Key × T) := if hasT l k = true then l.map (fun p => if p.1 = k then (p.1, t) else p) else l ++ [(k, t)]
def Wb (l : List (Key × T)) (k : Key) : Option T := match l with
  | [] => none
  | (j, t) :: l => if j = k then some t else Wb l k
def Jh : T → Option Key
  | .int i => some (.inl i)
  | .str l => some (.inr (S l))
  | _ => none
section
variable {K : PySem.W.Frag} {H : Hp} {A : Addr → Prop}
theorem Rpk.put {l : List (Key × T)} {vs : List (Key × V)} (r : Rpk K H A l vs) {k : Key} {t : T} {v : V} (h : Rp K H A t v) : Rpk K H A (WA l k t) (putK vs k v) := by
  have any : hasT l k = vs.any fun kv => decide (kv.1 = k) := by
    unfold hasT
    induction l generalizing vs with
    | nil => cases r; rfl
    | cons x l ih => cases r with | cons a b => simp [List.any_cons, ih b]
  have mp : Rpk K H A (l.map fun p => if p.1 = k then (p.1, t) else p) (vs.map fun kv => if kv.1 = k then (kv.1, v) else kv) := by
    clear any
    induction l generalizing vs with
    | nil => cases r; exact .nil
    | cons x l ih =>
      cases r with
      | @cons k' t' v' ts' vs' a b =>
        by_cases c : k' = k
        · simp only [List.map_cons, c, if_true]; exact .cons h (ih b)
        · simp only [List.map_cons, c, if_false]; exact .cons a (ih b)
  have ap : Rpk K H A (l ++ [(k, t)]) (vs ++ [(k, v)]) := by
    clear any mp
    induction l generalizing vs with
    | nil => cases r; exact .cons h .nil
    | cons x l ih => cases r with | cons a b => exact .cons a (ih b)
  unfold WA putK
  by_cases c : hasT l k = true
  · rw [if_pos c, if_pos (any ▸ c)]; exact mp
  · rw [if_neg c, if_neg (any ▸ c)]; exact ap
theorem Rpk.getK {l : List (Key × T)} {vs : List (Key × V)} (r : Rpk K H A l vs) (k : Key) : match Wb l k with
    | some t => ∃ v, valV vs k = some v ∧ Rp K H A t v
    | none => valV vs k = none := by
  induction l generalizing vs with
  | nil => cases r; rfl
  | cons x l ih =>
    cases r with
    | @cons k' t' v' ts' vs' a b =>
      unfold Wb
      by_cases c : k' = k
      · rw [if_pos c]; exact ⟨v', valV_pos c, a⟩
      · rw [if_neg c, valV_neg c]; exact ih b
theorem keyT_v {t : T} {k : Key} {v : V} (e : Jh t = some k) (r : Rr K H A t v) : v = kV k := by
  cases t <;> cases e
  · exact r.int
  · exact r.str
end
section
variable {X : Cx} {W : XK} {e a b tg it : Expr} {es : List Expr} {m ma mb mc mi : M} {mA : MA} {st : Stmt} {rest body : List Stmt} {ms mr : MS} {pos p1 p2 : Pos} {U : Option (List Nat)} {g : MG}
/-- what an expression gives, as it is stored: own: one's own stays so -/
def stO (own : Bool) : Cl → Option Cl
  | .va => some .va
  | .ow => some (if own = true then .ow else .va)
  | .bo _ => none
theorem stO_ok {ρ ρ1 : Sls} {σ : L2.St} {H H1 : Hp} {A A1 : Addr → Prop} {own : Bool} {c c' : Cl} {t : T} {v : V} (g : Gd X.K ρ σ H A) (e : stO own c = some c') (af : Aft X.K ρ σ H A ρ1 H1 A1) (vo : VOk X.K A H1 A1 ρ1 σ c t v) :
    ∃ A2, Run X.K ρ σ H A ρ1 σ H1 A2 ∧ GOk X.K ρ1 σ H H1 A2 c' t v := by
  cases c with
  | va => cases e; exact ⟨A1, af.run g, vo⟩
  | bo i => cases e
  | ow =>
    obtain ⟨p, e1, n, a1, ow⟩ := vo
    cases own with
    | true => cases e; exact ⟨A1, af.run g, p, e1, a1, ow, fun j h => n (g.at_ (af.shp.at' h)), af.non g n a1⟩
    | false => cases e; exact ⟨A, (af.less g).run g, by rw [e1]; exact ow.fz n af.sub⟩
def wp (own : Bool) (m : M) (g : MG) : MS := Wg m fun t c ρ => match stO own c with
  | some c' => match g t c' ρ with
    | some ρ' => some (.nx ρ')
    | none => none
  | none => none
theorem asg_inv {own : Bool} {g : MG} {t : T} {c : Cl} {ρ : Sls} {r : Out} (h : (match stO own c with
  | some c' => match g t c' ρ with
    | some ρ' => some (Out.nx ρ')
    | none => none
  | none => none) = some r) : ∃ c' ρ', stO own c = some c' ∧ g t c' ρ = some ρ' ∧ r = .nx ρ' := by
  cases q : stO own c with
  | none => rw [q] at h; cases h
  | some c' =>
    rw [q] at h
    cases q2 : g t c' ρ with
    | none => simp only [q2] at h; cases h
    | some ρ' => simp only [q2] at h; cases h; exact ⟨c', ρ', rfl, q2, rfl⟩
theorem ss_asg (own : Bool) (h : SE X W e m) (hg : SG X U tg g) (hs : swapsWithSole [tg] e pos.line X.env = pure false := by rfl) (hw : swappedStores [tg] e X.env = pure none := by rfl)
    (h1 : (assignEach [tg] X.env).map (·.2) = [assign tg X.env] := by rfl) : SS X W (.Assign [tg] e pos) (wp own m g) := by
  intro ρ σ H A r D g0 er f
  refine s_asg (h.bindS g0 er f fun t c ρ1 v H1 A1 e2 af vo => ?_) hs hw h1
  obtain ⟨c', ρ', q1, q2, rfl⟩ := asg_inv e2
  obtain ⟨A2, ru, ok⟩ := stO_ok g0 q1 af vo
  exact hg ρ σ H A ρ1 σ H1 A2 t c' v ρ' _ g0 ru ok q2 fun σ' H' A' r2 _ _ l => f σ' H' A' r2 (l af.shp.lok)
theorem set_fin {own : Bool} {i : Nat} {c : Cl} {t : T} {ρ ρ1 : Sls} {σ : L2.St} {H H1 : Hp} {A A1 : Addr → Prop} {r : Out} {D : Ends} {v : V} (g0 : Gd X.K ρ σ H A) (f : FinS X W D ρ σ H A r) (af : Aft X.K ρ σ H A ρ1 H1 A1) (vo : VOk X.K A H1 A1 ρ1 σ c t v)
    (e2 : (match stO own c with
      | some c' => match jB own i t c' ρ1 with
        | some ρ' => some (Out.nx ρ')
        | none => none
      | none => none) = some r) : D.nx (σ.set i (some v)) H1 := by
  obtain ⟨c', ρ', q1, q2, rfl⟩ := asg_inv e2
  obtain ⟨A2, ru, ok⟩ := stO_ok g0 q1 af vo
  obtain ⟨nl, z0, ⟨rfl, rfl⟩ | ⟨rfl, rfl, rfl⟩⟩ := setG_inv q2
  · exact f _ _ _ (ru.set ru.good (s' := .va t) ⟨v, rfl, ok⟩ (fun z => by cases z) z0) (af.shp.lok.set nl)
  · obtain ⟨p, e1, a, ow, n, h0⟩ := ok
    exact f _ _ _ (ru.set ru.good (s' := .ow t) ⟨p, by rw [e1], a, ow⟩ (fun _ p' z => by rw [e1] at z; cases z; exact ⟨n, h0⟩) z0) (af.shp.lok.set nl)
theorem wo (own : Bool) {i : Nat} {x : Str} (h : SE X W e m) (hN : X.N.Nodup) (hi : X.N[i]? = some x) (hx : Loc X.env.scope x)
    (hs : swapsWith e (some (.Name x p1)) pos.line X.env = pure false := by rfl) (hf : X.fn x = true ∨ X.env.scope.names.lookup x = some .local := by first | exact .inl rfl | exact .inr rfl | assumption) : SS X W (.Assign [.Name x p1] e pos) (wp own m (jB own i)) := by
  intro ρ σ H A r D g0 er f
  exact s_set (h.bindS g0 er f fun t c ρ1 v H1 A1 e2 af vo => set_fin g0 f af vo e2) hN hi hx hs hf
abbrev MGs := List T → Sls → Option Sls
def SGs (X : Cx) (U : Option (List Nat)) (tgs : List Expr) (g : MGs) : Prop := ∀ ρ0 σ0 H0 A0 ρ σ H A ts vs ρ' (R : L2.St → Hp → Prop), Gd X.K ρ0 σ0 H0 A0 → Run X.K ρ0 σ0 H0 A0 ρ σ H A → Rps X.K H A ts vs → g ts ρ = some ρ' →
  (∀ σ' H' A', Run X.K ρ0 σ0 H0 A0 ρ' σ' H' A' → Gon (Prv ρ σ) A A' H H' → (∀ vs, U = some vs → ∀ i, i ∉ vs → σ'[i]? = σ[i]? ∧ ρ'[i]? = ρ[i]?) → (Lok ρ0 σ0 ρ σ → Lok ρ0 σ0 ρ' σ') → R σ' H') → wGs X tgs vs σ H R
def KI : MGs := fun ts ρ => match ts with
  | [] => some ρ
  | _ => none
def vd (g : MG) (gs : MGs) : MGs := fun ts ρ => match ts with
  | t :: ts => match g t .va ρ with
    | some ρ' => gs ts ρ'
    | none => none
  | [] => none
theorem gon_refl {K : PySem.W.Frag} {ρ : Sls} {σ : L2.St} {H : Hp} {A : Addr → Prop} (g : Gd K ρ σ H A) : Gon (Prv ρ σ) A A H H := ⟨fun _ _ _ e => e, fun p h => ⟨g.prv h, g.tr _ (g.prv h)⟩, fun _ h => .inl h⟩
theorem JU : SGs X (some []) [] KI := by
  intro ρ0 σ0 H0 A0 ρ σ H A ts vs ρ' R g0 ru rs e q
  cases rs with
  | nil => cases e; exact g_nil (q σ H A ru (gon_refl ru.good) (fun _ _ _ _ => ⟨rfl, rfl⟩) id)
  | cons _ _ => cases e
/-- the writable ones of a later place -/
theorem Gon.trans' {P P' A A1 A2 : Addr → Prop} {H H1 H2 : Hp} (a : Gon P A A1 H H1) (b : Gon P' A1 A2 H1 H2) (p : ∀ q, P' q → P q ∨ H q = none) (t : ∀ q o, H q = some o → ∃ o', H1 q = some o') : Gon P A A2 H H2 :=
  ⟨fun q o n e => b.keep q o (fun z => (p q z).elim n fun z => by rw [z] at e; cases e) (a.keep q o n e), a.priv, fun q h => (b.new q h).elim (a.new q) fun z => .inr (by
    cases e : H q with
    | none => rfl
    | some o => obtain ⟨o', e'⟩ := t q o e; rw [z] at e'; cases e')⟩
def catU : Option (List Nat) → Option (List Nat) → Option (List Nat)
  | some a, some b => some (a ++ b)
  | _, _ => none
theorem wv {U' : Option (List Nat)} {gs : MGs} (hg : SG X U a g) (hs : SGs X U' es gs) (hst : (assignEach (a :: es) X.env).map (·.2) = assign a X.env :: (assignEach es X.env).map (·.2) := by rfl) : SGs X (catU U U') (a :: es) (vd g gs) := by
  intro ρ0 σ0 H0 A0 ρ σ H A ts vs ρ' R g0 ru rs e q
  cases rs with
  | nil => cases e
  | @cons t v ts vs r rs =>
    unfold vd at e
    cases e1 : g t .va ρ with
    | none => simp only [e1] at e; cases e
    | some ρ1 =>
      simp only [e1] at e
      refine g_cons ?_ hst
      -- twice: once from the start, once from here, to know what is kept
      refine hg ρ σ H A ρ σ H A t .va v ρ1 _ ru.good (.refl ru.good) r e1 fun σ1 H1 A1 ru1 gn1 o1 l1 => ?_
      refine hs ρ0 σ0 H0 A0 ρ1 σ1 H1 A1 ts vs ρ' R g0 (ru.trans g0 ru1) (rs.go gn1) e fun σ2 H2 A2 ru2 gn2 o2 l2 => ?_
      refine q σ2 H2 A2 ru2 (gn1.trans' gn2 ru1.prv ru1.there) (fun vs e i h => by
        cases U with
        | none => cases e
        | some us => cases U' with
          | none => cases e
          | some us' =>
            cases e
            have h1 := o1 us rfl i fun z => h (List.mem_append_left _ z)
            have h2 := o2 us' rfl i fun z => h (List.mem_append_right _ z)
            exact ⟨h2.1.trans h1.1, h2.2.trans h1.2⟩) fun l => l2 (l.trans (l1 .refl))
def KM (gs : MGs) : MG := fun t c ρ => match t with
  | .tup l => gs l ρ
  | .tpu l => gs l ρ
  | _ => none
theorem Ks {gs : MGs} {k n : Nat} (hs : SGs X U es gs) (hl : ∀ ts ρ ρ', gs ts ρ = some ρ' → ts.length = n) (hc : X.calm = true := by rfl)
    (hn : (assignEach es X.env).length = n := by rfl) (hst : (assignEach es X.env).findIdx? (·.1) = none := by rfl) : SG X U (.Tuple es k pos) (KM gs) := by
  intro ρ0 σ0 H0 A0 ρ σ H A t c v ρ' R g0 ru ok e q
  have ok : t.ld = false → Rp X.K H A t v := fun n => by
    cases c with
    | va => exact ok
    | ow => obtain ⟨p, _, _, ow, _⟩ := ok; cases t <;> first | exact ow.elim | cases n
    | bo i => exact ok.elim
  cases t with
  | tup l =>
    cases ok rfl with
    | tup a r => exact g_tup ⟨_, _, rfl, a.sq, by rw [← r.length]; exact hl _ _ _ e, hs _ _ _ _ _ _ _ _ _ _ _ _ g0 ru r e q⟩ hc hn hst
  | tpu l =>
    cases ok rfl with
    | tpu a r => exact g_tup ⟨_, _, rfl, a, by rw [← r.length]; exact hl _ _ _ e, hs _ _ _ _ _ _ _ _ _ _ _ _ g0 ru r e q⟩ hc hn hst
  | _ => cases e
theorem JV : ∀ ts ρ ρ', KI ts ρ = some ρ' → ts.length = 0 := fun ts ρ ρ' e => by cases ts <;> first | rfl | cases e
theorem ww {n : Nat} {g : MG} {gs : MGs} (h : ∀ ts ρ ρ', gs ts ρ = some ρ' → ts.length = n) : ∀ ts ρ ρ', vd g gs ts ρ = some ρ' → ts.length = n + 1 := fun ts ρ ρ' e => by
  cases ts with
  | nil => cases e
  | cons t ts =>
    unfold vd at e
    cases e1 : g t .va ρ with
    | none => simp only [e1] at e; cases e
    | some ρ1 => simp only [e1] at e; simp [h _ _ _ e]
def appS (k : Nat) (m : M) : MS := fun ρ => match ρ[k]? with
  | some (.ow (.lst _)) => Wg m (fun t c ρ => if c.free = true then match ρ[k]? with
    | some (.ow (.lst l)) => if l.length ≤ big then some (.nx (ρ.set k (.ow (.lst (l ++ [t]))))) else none
    | _ => none
    else none) ρ
  | _ => none
theorem ss_append {k : Nat} {x : Str} (hN : X.N[k]? = some x) (hv : Vis X.env.scope x) (h : SE X W e m) (hd : (x == ("__debug__" : Str)) = false := by decide) (hcd : (x == ("__classdict__" : Str)) = false := by decide)
    {po : Pos} (hsw : swapsWith (.Call (.Attribute (.Name x p1) "append" p2) [e] [] pos) none po.line X.env = pure false := by rfl)
    (hbase : attributeBase (.Name x p1) "append" X.env (eval (.Name x p1) X.env) = eval (.Name x p1) X.env := by rfl)
    (hfew : ((backTo pos (starEach [e] X.env)).all (fun x => !x.1) && (backToKw pos (keywordEach [] X.env)).all (fun x => x.1.isSome)
      && decide ([e].length + ([] : List Keyword).length + (if ([] : List Keyword).isEmpty then 0 else 1) < 30)) = true := by rfl)
    (hline : (p2.endLine == pos.line) = true := by rfl) (hs : starEach [e] X.env = (false, eval e X.env) :: starEach [] X.env := by rfl) (hplain : (backTo pos (starEach [] X.env)).any (·.1) = false := by rfl) :
    SS X W (.Expr (.Call (.Attribute (.Name x p1) "append" p2) [e] [] pos) po) (appS k m) := by
  intro ρ σ H A r D g er f
  refine s_expr ?_ hsw
  refine e_append ?_ hbase hfew hline hs hplain
  unfold appS at er
  split at er
  · rename_i l0 es
    obtain ⟨p, e2, ap, vs0, e3, r3⟩ := g.sl k _ es
    refine e_var k hN hv e2 ⟨.inl ⟨rfl, vs0, SqL.of e3⟩, ?_⟩ hd hcd
    refine a_cons (h.bindS g er f fun t c ρ1 v H1 A1 ek af vo => ?_) hs
    refine a_nil ?_
    split at ek
    · rename_i cf
      split at ek
      · rename_i l es1
        split at ek
        · rename_i hl
          cases ek
          have af' := af.less g
          obtain ⟨q, e4, aq, vs, e5, r5⟩ := af'.good.sl k _ es1
          rw [e2] at e4
          cases e4
          refine m_append e5 (by have := JO; rw [← r5.length]; omega) ?_
          have vr := vo.fz af.sub cf
          refine f σ _ A ((af'.run g).trans g (af'.good.wr_run es1 e2 trivial fun k => ⟨_, upd_same, (r5.append (.cons vr .nil)).go k⟩)) (af'.shp.lok.trans (lok_wr es1))
        · cases ek
      · cases ek
    · cases ek
  · cases er
end
end Tr
end F_Tr6
section F_Tr7
set_option Elab.async false
set_option maxRecDepth 100000
set_option maxHeartbeats 4000000
set_option linter.all false
namespace Tr
open PySem PySem.Spec PyProof.Rows L2 LamX Vf
open SX (S)
section
variable {X : Cx} {W : XK} {e a b tg it : Expr} {es : List Expr} {m ma mb mc mi : M} {mA : MA} {st : Stmt} {rest body : List Stmt} {ms mr : MS} {pos p1 p2 : Pos} {U : Option (List Nat)} {g : MG}
/-- what an index may be (it changes nothing) -/
def JK (m : M) (ρ : Sls) : Option T := match m ρ with
  | some (.ok t .va _) => some t
  | _ => none
def JG (l : T) (i t : T) : Option T := match l with
  | .lst l => match i with
    | .int k => match ixN l.length k with
      | some j => some (.lst (l.set j t))
      | none => none
    | _ => none
  | .dct l => match Jh i with
    | some k => if l.length ≤ big then some (.dct (WA l k t)) else none
    | none => none
  | _ => none
/-- x[i] = .. -/
def WF (k : Nat) (m : M) : MG := fun t c ρ => match c with
  | .va => match ρ[k]? with
    | some (.ow l) => match m ρ with
      | some (.ok i _ ρ1) => match ρ1[k]? with
        | some (.ow l) => match JG l i t with
          | some l' => some (ρ1.set k (.ow l'))
          | none => none
        | _ => none
      | _ => none
    | _ => none
  | _ => none
theorem sg_sub {k : Nat} {x : Str} (hu : X.A.units + 1 < cLine) (hN : X.N[k]? = some x) (hv : Vis X.env.scope x) (h : SE X E0 e m) (hd : (x == ("__debug__" : Str)) = false := by decide) (hcd : (x == ("__classdict__" : Str)) = false := by decide)
    (ha : ∀ v, assign (.Subscript (.Name x p1) e pos) X.env v = (do
      let ov ← holding [v] (eval (.Name x p1) X.env)
      let iv ← holding [v, ov] (eval e X.env)
      standAt pos
      holding [v, ov, iv] (setItem ov iv v)
      release [v, ov, iv] []) := by intro _; rfl) : SG X none (.Subscript (.Name x p1) e pos) (WF k m) := by
  intro ρ0 σ0 H0 A0 ρ σ H A t c v ρ' R g0 ru ok er q
  have g := ru.good
  unfold WF at er
  cases c with
  | va =>
    simp only at er
    split at er
    · rename_i l0 es
      obtain ⟨p, e2, ap, ow0⟩ := g.sl k _ es
      refine g_sub (e_var k hN hv e2 ?_ hd hcd) ha
      cases em : m ρ with
      | none => rw [em] at er; cases er
      | some u =>
        rw [em] at er
        cases u with
        | er x => cases er
        | ok i ci ρ1 =>
          simp only at er
          split at er
          · rename_i l es1
            split at er
            · rename_i l' ep
              cases er
              refine h ρ σ H A _ _ g em fun iv H1 A1 af vo => ?_
              have ri : Rr X.K H1 A1 i iv := vo.rr af.good
              have af' := af.less g
              have rv : Rp X.K H1 A t v := Rp.go (af'.gon g) ok
              obtain ⟨p', e4, ap', ow⟩ := af'.good.sl k _ es1
              rw [e2] at e4
              cases e4
              have fin : ∀ o, LD (some o) → (Gon (fun q => q = p) A A H1 (upd H1 p o) → Ow X.K (upd H1 p o) A l' p) → R σ (upd H1 p o) := fun o lo w => by
                have r2 := (af'.run g).trans g (af'.good.wr_run es1 e2 lo w)
                exact q σ _ A (ru.trans g0 r2) ⟨r2.keep, fun q h => ⟨g.prv h, g.tr _ (g.prv h)⟩, fun q h => .inl h⟩ (fun _ z => by cases z) fun l => (l.trans af'.shp.lok).trans (lok_wr es1)
              unfold JG at ep
              split at ep
              · rename_i ll
                split at ep
                · rename_i kk
                  split at ep
                  · rename_i j ej
                    cases ep
                    obtain ⟨vs, e5, r5⟩ := ow
                    cases ri.int
                    exact set_L e5 (by rw [← r5.length]; exact ej) (fin _ trivial fun k => ⟨_, upd_same, (r5.set rv j).go k⟩)
                  · cases ep
                · cases ep
              · rename_i ll
                split at ep
                · rename_i kk ek
                  split at ep
                  · rename_i hl
                    cases ep
                    obtain ⟨vs, e5, r5⟩ := ow
                    have := keyT_v ek ri
                    subst this
                    exact set_D hu (DPut.k e5 (by have := JO; rw [← r5.length]; omega)) (fin _ trivial fun k => ⟨_, upd_same, (r5.put rv).go k⟩)
                  · cases ep
                · cases ep
              · cases ep
            · cases er
          · cases er
    · cases er
  | ow => cases er
  | bo i => cases er
/-- l is walked, as long as nothing but what P holds of changes -/
def Src (K : PySem.W.Frag) (J : It) (l : List T) (H1 : Hp) (A1 P : Addr → Prop) : Prop := ∀ H A, Gon P A1 A H1 H → J.stop l.length H ∧ ∀ i t, l[i]? = some t → J.go i H ∧ ∀ x H', J.yld i H x H' → Same H H' ∧ Rp K H' A t x
/-- what may be written while one walks: what slots may write, what is private elsewhere -/
def Wr (ρ : Sls) (σ : L2.St) (A : Addr → Prop) (p : Addr) : Prop := Prv ρ σ p ∨ (A p ∧ ∀ j, ¬ At ρ σ j p)
theorem Gon.wr {K : PySem.W.Frag} {ρ : Sls} {σ : L2.St} {H1 H' : Hp} {A A1 A' : Addr → Prop} (g : Gd K ρ σ H1 A1) (s : ∀ a, A a → A1 a) (k : Gon (Prv ρ σ) A1 A' H1 H') : Gon (Wr ρ σ A) A1 A' H1 H' :=
  ⟨fun a o n e => k.keep a o (fun z => n (.inl z)) e, fun p h => h.elim (fun z => ⟨g.prv z, g.tr _ (g.prv z)⟩) fun z => ⟨s p z.1, g.tr _ (s p z.1)⟩, k.new⟩
inductive AnsI where
  | ok (l : List T) (ρ : Sls) | er (x : Ex)
abbrev MI := Sls → Option AnsI
def SI (X : Cx) (W : XK) (tg it : Expr) (m : MI) : Prop := ∀ ρ σ H A r (R : It → Hp → Prop), Gd X.K ρ σ H A → m ρ = some r → (match r with
  | .ok l ρ' => ∀ J H' A', Aft X.K ρ σ H A ρ' H' A' → Src X.K J l H' A' (Wr ρ' σ A) → R J H'
  | .er x => ∀ C d H', (∀ a o, ¬ Prv ρ σ a → H a = some o → H' a = some o) → XOk X.K H' A x C d → W C d H') → wI X tg it σ H R
def Wv (g : MG) (body : MS) : List T → MS
  | [], ρ => some (.nx ρ)
  | x :: xs, ρ => match g x .va ρ with
    | none => none
    | some ρ1 => match body ρ1 with
      | some (.nx ρ2) => Wv g body xs ρ2
      | some (.ct ρ2) => Wv g body xs ρ2
      | some (.bk ρ2) => some (.nx ρ2)
      | some (.rt t b ρ2) => some (.rt t b ρ2)
      | some (.er x) => some (.er x)
      | none => none
def KZ (mi : MI) (g : MG) (body : MS) : MS := fun ρ => match mi ρ with
  | some (.ok l ρ1) => Wv g body l ρ1
  | some (.er x) => some (.er x)
  | none => none
theorem Run.gon {K : PySem.W.Frag} {ρ ρ' : Sls} {σ σ' : L2.St} {H H' : Hp} {A A' : Addr → Prop} (r : Run K ρ σ H A ρ' σ' H' A') (g : Gd K ρ σ H A) : Gon (Prv ρ σ) A A' H H' := ⟨r.keep, fun q h => ⟨g.prv h, g.tr _ (g.prv h)⟩, r.new⟩
/-- a walk's new things -/
theorem Run.same {K : PySem.W.Frag} {ρ0 ρ : Sls} {σ0 σ : L2.St} {H0 H H' : Hp} {A0 A : Addr → Prop} (r : Run K ρ0 σ0 H0 A0 ρ σ H A) (s : Same H H') : Run K ρ0 σ0 H0 A0 ρ σ H' A := by
  have g := r.good
  refine ⟨g.go (Jv s) (fun i p h => ⟨fun z => z, g.at_ h⟩) (fun a h => ?_), r.sub, r.new, fun a o n e => s _ _ (r.keep a o n e), fun a o e => ?_, r.own, r.prv, r.c0, r.len, r.kds⟩
  · obtain ⟨u, e⟩ := (g.tr a h).ne
    rw [s a u e, ← e]; exact g.tr a h
  · obtain ⟨o', e'⟩ := r.there a o e; exact ⟨o', s _ _ e'⟩
theorem KN {mi : MI} {mb : MS} (hp : PassesOwn (model X.prog X.w) X.A X.env X.xe) (hi : SI X W tg it mi) (hg : SG X U tg g) (hb : SB X W body mb) (hc : X.calm = true := by rfl) (hs : ∀ x, foldedSetIterable it X.env x = pure x := by intro _; rfl) : SS X W (.For tg it body [] pos) (KZ mi g mb) := by
  intro ρ σ H A r D g0 er f
  refine s_for hp ?_ hc hs
  unfold KZ at er
  cases em : mi ρ with
  | none => rw [em] at er; cases er
  | some u =>
    rw [em] at er
    cases u with
    | er x => cases er; exact hi ρ σ H A _ _ g0 em f.err
    | ok l ρ1 =>
      simp only at er
      refine hi ρ σ H A _ _ g0 em fun J H1 A1 af src => ?_
      have g1 := af.good
      have f1 := f.go g0 (af.run g0) af.shp.lok
      refine ⟨fun i n σ' H' => n = l.length - i ∧ i ≤ l.length ∧ ∃ ρ' A', Wv g mb (l.drop i) ρ' = some r ∧ Run X.K ρ1 σ H1 A1 ρ' σ' H' A' ∧ Lok ρ1 σ ρ' σ', ⟨_, rfl, Nat.zero_le _, ρ1, A1, by simpa using er, .refl g1, .refl⟩, ?_⟩
      rintro i n σ' H' ⟨rfl, hil, ρ', A', e2, ru, lo⟩
      obtain ⟨stop, go⟩ := src H' A' ((ru.gon g1).wr g1 af.sub)
      rcases Nat.lt_or_ge i l.length with lt | ge
      · have dr : l.drop i = l[i] :: l.drop (i + 1) := List.drop_eq_getElem_cons lt
        rw [dr] at e2
        obtain ⟨go, yld⟩ := go i l[i] (List.getElem?_eq_getElem lt)
        refine .inr ⟨go, fun σ2 H2 => ∃ ρ2 A2, Wv g mb (l.drop (i + 1)) ρ2 = some r ∧ Run X.K ρ1 σ H1 A1 ρ2 σ2 H2 A2 ∧ Lok ρ1 σ ρ2 σ2, fun σ2 H2 ⟨ρ2, A2, e3, ru3, lo3⟩ => ⟨l.length - (i + 1), by omega, rfl, lt, ρ2, A2, e3, ru3, lo3⟩, ?_⟩
        intro x H'' y
        obtain ⟨sm, rx⟩ := yld x H'' y
        have ru' := ru.same sm
        unfold Wv at e2
        cases e3 : g l[i] .va ρ' with
        | none => rw [e3] at e2; cases e2
        | some ρ2 =>
          rw [e3] at e2
          simp only at e2
          refine hg ρ1 σ H1 A1 ρ' σ' H'' A' l[i] .va x ρ2 _ g1 ru' rx e3 fun σ2 H2 A2 ru2 _ _ lo2 => ?_
          have lo2 := lo2 lo
          have f2 := f1.go g1 ru2 lo2
          cases eb : mb ρ2 with
          | none => rw [eb] at e2; cases e2
          | some rb =>
            rw [eb] at e2
            cases rb with
            | nx ρ3 => exact hb ρ2 σ2 H2 A2 _ _ ru2.good eb fun σ3 H3 A3 ru3 lo3 => ⟨ρ3, A3, e2, ru2.trans g1 ru3, lo2.trans lo3⟩
            | ct ρ3 => exact hb ρ2 σ2 H2 A2 _ _ ru2.good eb fun σ3 H3 A3 ru3 lo3 => ⟨ρ3, A3, e2, ru2.trans g1 ru3, lo2.trans lo3⟩
            | bk ρ3 => cases e2; exact hb ρ2 σ2 H2 A2 _ _ ru2.good eb fun σ3 H3 A3 ru3 lo3 => f2 σ3 H3 A3 ru3 lo3
            | rt t b ρ3 => cases e2; exact hb ρ2 σ2 H2 A2 _ _ ru2.good eb f2
            | er x => cases e2; exact hb ρ2 σ2 H2 A2 _ _ ru2.good eb f2
      · obtain rfl : i = l.length := by omega
        rw [List.drop_length] at e2
        cases e2
        exact .inl ⟨stop, f1 σ' H' A' ru lo⟩
def Kf (mc : M) (body : MS) : Nat → MS
  | 0, _ => none
  | n + 1, ρ => match mc ρ with
    | some (.ok (.bl true) _ ρ1) => match body ρ1 with
      | some (.nx ρ2) => Kf mc body n ρ2
      | some (.ct ρ2) => Kf mc body n ρ2
      | some (.bk ρ2) => some (.nx ρ2)
      | some (.rt t b ρ2) => some (.rt t b ρ2)
      | some (.er x) => some (.er x)
      | none => none
    | some (.ok (.bl false) _ ρ1) => some (.nx ρ1)
    | some (.er x) => some (.er x)
    | _ => none
theorem ss_while {mb : MS} (n : Nat) (hp : PassesOwn (model X.prog X.w) X.A X.env X.xe) (hc : ST X W e mc) (hb : SB X W body mb) : SS X W (.While e body [] pos) (Kf mc mb n) := by
  intro ρ σ H A r D g0 er f
  refine s_while hp ⟨fun n σ' H' => ∃ ρ' A', Kf mc mb n ρ' = some r ∧ Run X.K ρ σ H A ρ' σ' H' A' ∧ Lok ρ σ ρ' σ', ⟨n, ρ, A, er, .refl g0, .refl⟩, ?_⟩
  rintro n σ' H' ⟨ρ', A', e2, ru, lo⟩
  have f1 := f.go g0 ru lo
  cases n with
  | zero => cases e2
  | succ n =>
    unfold Kf at e2
    cases em : mc ρ' with
    | none => rw [em] at e2; cases e2
    | some u =>
      rw [em] at e2
      cases u with
      | er x => cases e2; exact hc ρ' σ' H' A' _ _ ru.good em f1.err
      | ok t c ρ1 =>
        cases t with
        | bl b =>
          cases b with
          | false =>
            cases e2
            exact hc ρ' σ' H' A' _ _ ru.good em fun H1 A1 af => iteF (f1 σ' H1 A1 (af.run ru.good) af.shp.lok)
          | true =>
            refine hc ρ' σ' H' A' _ _ ru.good em fun H1 A1 af => iteT ?_
            simp only at e2
            have ru1 := ru.trans g0 (af.run ru.good)
            have lo1 := lo.trans (af.shp.lok (σ := σ'))
            have f2 := f.go g0 ru1 lo1
            refine ⟨fun σ2 H2 => ∃ ρ2 A2, Kf mc mb n ρ2 = some r ∧ Run X.K ρ σ H A ρ2 σ2 H2 A2 ∧ Lok ρ σ ρ2 σ2, fun σ2 H2 ⟨ρ2, A2, e3, r3, l3⟩ => ⟨n, Nat.lt_succ_self n, ρ2, A2, e3, r3, l3⟩, ?_⟩
            cases eb : mb ρ1 with
            | none => rw [eb] at e2; cases e2
            | some rb =>
              rw [eb] at e2
              cases rb with
              | nx ρ3 => exact hb ρ1 σ' H1 A1 _ _ ru1.good eb fun σ3 H3 A3 ru3 lo3 => ⟨ρ3, A3, e2, ru1.trans g0 ru3, lo1.trans lo3⟩
              | ct ρ3 => exact hb ρ1 σ' H1 A1 _ _ ru1.good eb fun σ3 H3 A3 ru3 lo3 => ⟨ρ3, A3, e2, ru1.trans g0 ru3, lo1.trans lo3⟩
              | bk ρ3 => cases e2; exact hb ρ1 σ' H1 A1 _ _ ru1.good eb fun σ3 H3 A3 ru3 lo3 => f2 σ3 H3 A3 ru3 lo3
              | rt t b ρ3 => cases e2; exact hb ρ1 σ' H1 A1 _ _ ru1.good eb f2
              | er x => cases e2; exact hb ρ1 σ' H1 A1 _ _ ru1.good eb f2
        | _ => cases e2
end
end Tr
end F_Tr7
section F_Tr8
set_option Elab.async false
set_option maxRecDepth 100000
set_option maxHeartbeats 4000000
set_option linter.all false
namespace Tr
open PySem PySem.Spec PyProof.Rows L2 LamX Vf
open SX (S)
section
variable {X : Cx} {W : XK} {e a b tg it elt : Expr} {es ifs : List Expr} {m ma mb mc me : M} {mA : MA} {pos p1 p2 : Pos} {U : Option (List Nat)} {g : MG}
/-- a row, a text: its items; a private one must be locked -/
def itT (t : T) : Option (List T) := match t with
  | .str l => some (l.map fun c => .str [c])
  | t => match t.row with
    | some (_, l) => some l
    | none => none
def JT (m : M) : MI := fun ρ => match m ρ with
  | some (.ok t c ρ') => match c with
    | .bo i => match ρ'[i]? with
      | some (.lk _) => (itT t).map fun l => .ok l ρ'
      | _ => none
    | _ => (itT t).map fun l => .ok l ρ'
  | some (.er x) => some (.er x)
  | none => none
theorem src_list {K : PySem.W.Frag} {H1 : Hp} {A1 P : Addr → Prop} {p : Addr} {vs : List V} {l : List T} (s : SqL K H1 p vs) (n : H1 p = some (.lst vs) → ¬ P p) (r : Rps K H1 A1 l vs) : Src K (Itl K p) l H1 A1 P := by
  intro H A g
  have s' : SqL K H p vs := by
    rcases s with s | s
    · refine .inl (g.rd s fun z => ?_)
      rcases s with s | ⟨ob, s⟩
      · exact n s z
      · rcases (g.priv p z).2.lst with ⟨xs, e2⟩ | ⟨xs, e2⟩ <;> (rw [e2] at s; cases s)
    · exact .inr s
  have r' := r.go g
  refine ⟨⟨vs, s', by rw [r.length]; exact Nat.le_refl _⟩, fun i t e => ?_⟩
  obtain ⟨y, e2, ry⟩ := r'.get e
  exact ⟨⟨vs, y, s', e2⟩, fun x H' ⟨e3, q⟩ => by subst e3; have := q vs s'; rw [e2] at this; cases this; exact ⟨fun _ _ e => e, ry⟩⟩
theorem src_tup {K : PySem.W.Frag} {H1 : Hp} {A1 P : Addr → Prop} {p : Addr} {vs : List V} {l : List T} (s : SqT K H1 p vs) (r : Rps K H1 A1 l vs) : Src K (Itt K p) l H1 A1 P := by
  intro H A g
  have s' := g.sqT s
  have r' := r.go g
  refine ⟨⟨vs, s', by rw [r.length]; exact Nat.le_refl _⟩, fun i t e => ?_⟩
  obtain ⟨y, e2, ry⟩ := r'.get e
  exact ⟨⟨vs, y, s', e2⟩, fun x H' ⟨e3, q⟩ => by subst e3; have := q vs s'; rw [e2] at this; cases this; exact ⟨fun _ _ e => e, ry⟩⟩
theorem src_sq {K : PySem.W.Frag} {H1 : Hp} {A1 P : Addr → Prop} {p : Addr} {vs : List V} {l : List T} (s : SqF K H1 p vs) (r : Rps K H1 A1 l vs) : Src K (Itl K p) l H1 A1 P := by
  intro H A g
  have s' := (g.sqF s).sq
  have r' := r.go g
  refine ⟨⟨vs, s', by rw [r.length]; exact Nat.le_refl _⟩, fun i t e => ?_⟩
  obtain ⟨y, e2, ry⟩ := r'.get e
  exact ⟨⟨vs, y, s', e2⟩, fun x H' ⟨e3, q⟩ => by subst e3; have := q vs s'; rw [e2] at this; cases this; exact ⟨fun _ _ e => e, ry⟩⟩
theorem src_str {K : PySem.W.Frag} {H1 : Hp} {A1 P : Addr → Prop} {l : List Nat} : Src K (Its (S l)) (l.map fun c => .str [c]) H1 A1 P := by
  intro H A g
  have sz : (S l).cps.size = l.length := by simp [S]
  refine ⟨by show (S l).cps.size ≤ _; rw [sz, List.length_map]; exact Nat.le_refl _, fun i t e => ?_⟩
  rw [List.getElem?_map] at e
  cases q : l[i]? with
  | none => rw [q] at e; cases e
  | some c =>
    rw [q] at e
    cases e
    have lt := (List.getElem?_eq_some_iff.mp q).1
    refine ⟨by show i < (S l).cps.size; rw [sz]; exact lt, fun x H' ⟨e3, d, e4, e5⟩ => ?_⟩
    subst e3 e5
    have : (S l).cps[i]? = some c := by simp [S, q]
    rw [this] at e4
    cases e4
    exact ⟨fun _ _ e => e, .str [c]⟩
theorem Jm (h : SE X W it m) : SI X W tg it (JT m) := by
  intro ρ σ H A r R g er f
  unfold JT at er
  cases em : m ρ with
  | none => rw [em] at er; cases er
  | some u =>
    rw [em] at er
    cases u with
    | er x =>
      cases er
      exact i_list (h ρ σ H A _ _ g em f)
    | ok t c ρ1 =>
      simp only at er
      have er : (itT t).map (fun l => AnsI.ok l ρ1) = some r ∧ ∀ i, c = .bo i → ∃ u, ρ1[i]? = some (.lk u) := by
        cases c with
        | va => exact ⟨er, fun i z => by cases z⟩
        | ow => exact ⟨er, fun i z => by cases z⟩
        | bo i =>
          simp only at er
          cases es : ρ1[i]? with
          | none => rw [es] at er; cases er
          | some s =>
            rw [es] at er
            cases s with
            | lk u => exact ⟨er, fun j z => by cases z; exact ⟨u, es⟩⟩
            | _ => cases er
      obtain ⟨er, lk⟩ := er
      cases el : itT t with
      | none => rw [el] at er; cases er
      | some l =>
        rw [el] at er
        cases er
        cases t with
        | str z =>
          cases el
          refine i_str (h ρ σ H A _ _ g em fun v H1 A1 af vo => ⟨S z, (vo.rr af.good).str, f _ H1 A1 af src_str⟩)
        | tup z =>
          cases el
          refine i_tup (h ρ σ H A _ _ g em fun v H1 A1 af vo => ?_)
          obtain ⟨p, vs, e1, s, r⟩ := (vo.rr af.good).tup
          exact ⟨p, e1, ⟨vs, s⟩, f _ H1 A1 af (src_tup s r)⟩
        | tpu z =>
          cases el
          refine i_tup (h ρ σ H A _ _ g em fun v H1 A1 af vo => ?_)
          obtain ⟨p, vs, e1, s, r⟩ := (vo.rr af.good).tpu
          exact ⟨p, e1, ⟨vs, s⟩, f _ H1 A1 af (src_tup s r)⟩
        | sq z =>
          cases el
          refine i_list (h ρ σ H A _ _ g em fun v H1 A1 af vo => ?_)
          have q := (vo.rr af.good).rp rfl
          cases q with
          | sq s r => exact ⟨_, rfl, ⟨_, s.sq⟩, f _ H1 A1 af (src_sq s r)⟩
        | lst z =>
          cases el
          refine i_list (h ρ σ H A _ _ g em fun v H1 A1 af vo => ?_)
          obtain ⟨p, vs, e1, s, r⟩ := (vo.rr af.good).lst
          refine ⟨p, e1, ⟨vs, SqL.of s⟩, f _ H1 A1 af (src_list (SqL.of s) (fun _ pz => ?_) r)⟩
          subst e1
          cases c with
          | va =>
            have vo : Rp X.K H1 A1 (.lst l) (.ref p) := vo
            cases vo with
            | lst a b c => exact b (pz.elim af.good.prv fun z => af.sub _ z.1)
          | ow =>
            obtain ⟨q, e1, n, _⟩ := vo
            cases e1
            rcases pz with pz | pz
            · obtain ⟨i, pz⟩ := pz.at
              exact n (g.at_ (af.shp.at' pz))
            · exact n pz.1
          | bo i =>
            obtain ⟨q, s, e1, e2, e3, e4⟩ := vo
            cases e1
            obtain ⟨u, e5⟩ := lk i rfl
            rcases pz with ⟨j, w, e6, e7⟩ | pz
            · have := af.good.dj i j p ⟨_, e5, rfl, e2⟩ ⟨_, e6, rfl, e7⟩
              subst this
              rw [e5] at e6; cases e6
            · exact pz.2 i ⟨_, e5, rfl, e2⟩
        | _ => cases el
/-- range -/
def rgs (lo : Int) (n : Nat) : List T := (List.range n).map fun i => .int (lo + (i : Nat))
theorem rgs_len (lo : Int) (n : Nat) : (rgs lo n).length = n := by simp [rgs]
theorem src_rng {K : PySem.W.Frag} {H1 : Hp} {A1 P : Addr → Prop} {lo : Int} {n : Nat} : Src K (Itr lo n) (rgs lo n) H1 A1 P := by
  intro H A g
  refine ⟨by show n ≤ _; rw [rgs_len]; exact Nat.le_refl _, fun i t e => ?_⟩
  unfold rgs at e
  rw [List.getElem?_map] at e
  cases q : (List.range n)[i]? with
  | none => rw [q] at e; cases e
  | some j =>
    rw [q] at e
    cases e
    have lt := (List.getElem?_eq_some_iff.mp q).1
    rw [List.length_range] at lt
    have : (List.range n)[i]? = some i := List.getElem?_range lt
    rw [this] at q
    cases q
    refine ⟨lt, fun x H' ⟨e3, e4⟩ => ?_⟩
    subst e3 e4
    exact ⟨fun _ _ e => e, .int _⟩
def Wm (mA : MA) : MI := fun ρ => match mA ρ with
  | some (.ok [(.int j, _)] ρ') => if -(2 ^ 62) ≤ j ∧ j < 2 ^ 62 then some (.ok (rgs 0 j.toNat) ρ') else none
  | some (.ok _ _) => none
  | some (.er x) => some (.er x)
  | none => none
theorem si_range1 (hm : X.mg "range" = none) (h : SA X W [a] mA) (hg : Gl X "range" := by rfl) (hs : starEach [a] X.env = [(false, eval a X.env)] := by rfl) : SI X W tg (.Call (.Name "range" p1) [a] [] pos) (Wm mA) := by
  intro ρ σ H A r R g er f
  refine i_range1 hm ?_ hg hs
  unfold Wm at er
  cases em : mA ρ with
  | none => rw [em] at er; cases er
  | some u =>
    rw [em] at er
    cases u with
    | er x => cases er; exact h ρ σ H A _ _ g em f
    | ok ts ρ1 =>
      refine h ρ σ H A _ _ g em fun vs H1 A1 af vo => ?_
      split at er
      · rename_i j c ρ2 e1
        cases e1
        split at er
        · rename_i cc
          cases er
          cases vo with
          | cons v1 v2 =>
            cases v2
            cases (v1.rr af.good).int
            exact ⟨j, rfl, cc.1, cc.2, f _ H1 A1 af src_rng⟩
        · cases er
      · cases er
      · rename_i e1; cases e1
      · rename_i e1; cases e1
def rngI2 (mA : MA) : MI := fun ρ => match mA ρ with
  | some (.ok [(.int i, _), (.int j, _)] ρ') => if (-(2 ^ 62) ≤ i ∧ i < 2 ^ 62 ∧ -(2 ^ 62) ≤ j ∧ j < 2 ^ 62) then some (.ok (rgs i (j - i).toNat) ρ') else none
  | some (.ok _ _) => none
  | some (.er x) => some (.er x)
  | none => none
theorem si_range2 (hm : X.mg "range" = none) (h : SA X W [a, b] mA) (hg : Gl X "range" := by rfl) (hs : starEach [a, b] X.env = [(false, eval a X.env), (false, eval b X.env)] := by rfl) (hs2 : starEach [b] X.env = [(false, eval b X.env)] := by rfl) : SI X W tg (.Call (.Name "range" p1) [a, b] [] pos) (rngI2 mA) := by
  intro ρ σ H A r R g er f
  refine ⟨_, pi_range2 hg hm pA hs hs2, ?_⟩
  unfold rngI2 at er
  cases em : mA ρ with
  | none => rw [em] at er; cases er
  | some u =>
    rw [em] at er
    cases u with
    | er x => cases er; exact h ρ σ H A _ _ g em f
    | ok ts ρ1 =>
      refine h ρ σ H A _ _ g em fun vs H1 A1 af vo => ?_
      split at er
      · rename_i i c j c2 ρ2 e1
        cases e1
        split at er
        · rename_i cc
          cases er
          cases vo with
          | cons v1 v2 =>
            cases v2 with
            | cons v2 v3 =>
              cases v3
              cases (v1.rr af.good).int
              cases (v2.rr af.good).int
              exact ⟨i, j, rfl, cc, f _ H1 A1 af src_rng⟩
        · cases er
      · cases er
      · rename_i e1; cases e1
      · rename_i e1; cases e1
def BG (X : Cx) (scope : Scope) (U : Option (List Nat)) (tg : Expr) (g : MG) : Prop := ∀ (s : Shared) (H0 : Hp) (C : Addr) (cl : List (Str × Addr)) (fp : List Addr), SG (X.blk s H0 scope (compEnvC scope cl C X.env) fp) U tg g
def BE (X : Cx) (scope : Scope) (e : Expr) (m : M) : Prop := ∀ (s : Shared) (H0 : Hp) (C : Addr) (cl : List (Str × Addr)) (fp : List Addr), SE (X.blk s H0 scope (compEnvC scope cl C X.env) fp) E0 e m
def BT (X : Cx) (scope : Scope) (ifs : List Expr) (m : M) : Prop := ∀ (s : Shared) (H0 : Hp) (C : Addr) (cl : List (Str × Addr)) (fp : List Addr), match ifs with
  | [] => m = fun ρ => some (.ok (.bl true) .va ρ)
  | [c] => ST (X.blk s H0 scope (compEnvC scope cl C X.env) fp) E0 c m
  | _ => False
def jk (ρ : Sls) : List Nat → Sls
  | [] => ρ
  | v :: vs => (jk ρ vs).set v .no
theorem wH {ρ : Sls} {vs : List Nat} : (jk ρ vs).length = ρ.length := by
  induction vs with
  | nil => rfl
  | cons v vs ih => unfold jk; rw [List.length_set, ih]
theorem wu {ρ : Sls} {vs : List Nat} {i : Nat} (h : i ∉ vs) : (jk ρ vs)[i]? = ρ[i]? := by
  induction vs with
  | nil => rfl
  | cons v vs ih =>
    unfold jk
    rw [List.getElem?_set_ne (fun z => h (by simp [z])), ih fun z => h (List.mem_cons_of_mem _ z)]
theorem Kg {ρ : Sls} {vs : List Nat} {i : Nat} {s : Sl} (h : i ∈ vs) (e : (jk ρ vs)[i]? = some s) : s = .no := by
  induction vs with
  | nil => cases h
  | cons v vs ih =>
    unfold jk at e
    by_cases c : v = i
    · subst c
      rw [List.getElem?_set_self'] at e
      cases q : (jk ρ vs)[v]? with
      | none => rw [q] at e; cases e
      | some x => rw [q] at e; simp at e; exact e.symm
    · rw [List.getElem?_set_ne c] at e
      exact ih (by cases h with | head => exact absurd rfl c | tail _ h => exact h) e
theorem vG {σ : L2.St} {vs : List Nat} {i : Nat} (h : i ∉ vs) : (wipe σ vs)[i]? = σ[i]? := by
  induction vs with
  | nil => rfl
  | cons v vs ih =>
    unfold wipe
    rw [List.getElem?_set_ne (fun z => h (by simp [z])), ih fun z => h (List.mem_cons_of_mem _ z)]
theorem wipe_in {σ : L2.St} {vs : List Nat} {i : Nat} (h : i ∈ vs) (l : i < σ.length) : (wipe σ vs)[i]? = some none := by
  induction vs with
  | nil => cases h
  | cons v vs ih =>
    unfold wipe
    by_cases c : v = i
    · subst c
      rw [List.getElem?_set_self (by rw [wipe_length]; exact l)]
    · rw [List.getElem?_set_ne c]
      exact ih (by cases h with | head => exact absurd rfl c | tail _ h => exact h)
theorem Kl {σ σ' : L2.St} {vs : List Nat} (l : σ'.length = σ.length) (h : ∀ i, i ∉ vs → σ'[i]? = σ[i]?) : wipe σ' vs = wipe σ vs := by
  apply List.ext_getElem?
  intro i
  by_cases c : i ∈ vs
  · by_cases lt : i < σ.length
    · rw [wipe_in c lt, wipe_in c (l ▸ lt)]
    · rw [List.getElem?_eq_none (by rw [wipe_length, l]; omega), List.getElem?_eq_none (by rw [wipe_length]; omega)]
  · rw [vG c, vG c, h i c]
/-- the slots vs as they were outside -/
def backR (ρ ρ' : Sls) : List Nat → Sls
  | [] => ρ'
  | v :: vs => match ρ[v]? with
    | some s => (backR ρ ρ' vs).set v s
    | none => backR ρ ρ' vs
theorem Jt {ρ ρ' : Sls} {vs : List Nat} : (backR ρ ρ' vs).length = ρ'.length := by
  induction vs with
  | nil => rfl
  | cons v vs ih => unfold backR; split <;> simp [ih]
theorem JS {ρ ρ' : Sls} {vs : List Nat} {i : Nat} (h : i ∉ vs) : (backR ρ ρ' vs)[i]? = ρ'[i]? := by
  induction vs with
  | nil => rfl
  | cons v vs ih =>
    have n : v ≠ i := fun z => h (by simp [z])
    have ih := ih fun z => h (List.mem_cons_of_mem _ z)
    unfold backR
    split
    · rw [List.getElem?_set_ne n, ih]
    · exact ih
theorem backR_in {ρ ρ' : Sls} {vs : List Nat} {i : Nat} (h : i ∈ vs) (l : ρ'.length = ρ.length) : (backR ρ ρ' vs)[i]? = ρ[i]? := by
  induction vs with
  | nil => cases h
  | cons v vs ih =>
    unfold backR
    by_cases c : v = i
    · subst c
      split
      · rename_i s e
        rw [e, List.getElem?_set_self]
        rw [Jt, l]
        exact (List.getElem?_eq_some_iff.mp e).1
      · rename_i e
        rw [e]
        apply List.getElem?_eq_none
        rw [Jt, l]
        exact List.getElem?_eq_none_iff.mp e
    · have ih := ih (by cases h with | head => exact absurd rfl c | tail _ h => exact h)
      split
      · rw [List.getElem?_set_ne c]; exact ih
      · exact ih
def Wc (g : MG) (mt me : M) (vs : List Nat) : List T → List T → Sls → Option (List T × Sls)
  | [], acc, ρ => some (acc, ρ)
  | x :: xs, acc, ρ => match g x .va (jk ρ vs) with
    | none => none
    | some ρ1 => match mt ρ1 with
      | some (.ok (.bl true) _ ρ2) => match me ρ2 with
        | some (.ok t c ρ3) => if c.free = true ∧ acc.length ≤ big then Wc g mt me vs xs (acc ++ [t]) ρ3 else none
        | _ => none
      | some (.ok (.bl false) _ ρ2) => Wc g mt me vs xs acc ρ2
      | _ => none
def lcM (mi : MI) (g : MG) (mt me : M) (vs : List Nat) : M := fun ρ => match mi ρ with
  | some (.ok l ρ1) => match Wc g mt me vs l [] ρ1 with
    | some (acc, ρ2) => some (.ok (.lst acc) .ow (backR ρ1 ρ2 vs))
    | none => none
  | some (.er x) => some (.er x)
  | none => none
end
end Tr
end F_Tr8
section F_Tr9
set_option Elab.async false
set_option maxRecDepth 100000
set_option maxHeartbeats 4000000
set_option linter.all false
namespace Tr
open PySem PySem.Spec PyProof.Rows L2 LamX Vf
open SX (S)
section
variable {K : PySem.W.Frag} {ρ ρ1 ρ2 ρ' : Sls} {σ σ' : L2.St} {H H1 H' : Hp} {A A1 A' : Addr → Prop} {vs : List Nat}
theorem Kc {i : Nat} {p : Addr} (h : At (jk ρ vs) (wipe σ vs) i p) : i ∉ vs ∧ At ρ σ i p := by
  obtain ⟨s, e, pr, e2⟩ := h
  have n : i ∉ vs := fun z => by rw [Kg z e] at pr; cases pr
  rw [wu n] at e
  rw [vG n] at e2
  exact ⟨n, s, e, pr, e2⟩
theorem Gd.wipe (g : Gd K ρ σ' H A) (o : ∀ i, i ∉ vs → σ'[i]? = σ[i]?) (l : σ'.length = σ.length) : Gd K (jk ρ vs) (L2.wipe σ vs) H A := by
  have eq : L2.wipe σ' vs = L2.wipe σ vs := Kl l o
  rw [← eq]
  refine ⟨g.tr, fun i s e => ?_, fun i j p h1 h2 => g.dj i j p (Kc h1).2 (Kc h2).2, by rw [wH, wipe_length]; exact g.len⟩
  by_cases c : i ∈ vs
  · rw [Kg c e]; trivial
  · rw [wu c] at e
    rw [vG c]
    exact g.sl i s e
theorem shp_wipe (h : Shp ρ ρ') : Shp (jk ρ vs) (jk ρ' vs) := by
  refine ⟨by rw [wH, wH]; exact h.1, fun i s e => ?_⟩
  by_cases c : i ∈ vs
  · have := Kg c e
    subst this
    have lt : i < (jk ρ' vs).length := by rw [wH, ← h.1, ← wH (vs := vs)]; exact (List.getElem?_eq_some_iff.mp e).1
    exact ⟨_, List.getElem?_eq_getElem lt, Kg c (List.getElem?_eq_getElem lt)⟩
  · rw [wu c] at e ⊢
    exact h.2 i s e
/-- one turn of a block: from its wiped start to its wiped end -/
theorem Run.wiped (g : Gd K (jk ρ vs) (wipe σ vs) H A) (r : Run K (jk ρ vs) (wipe σ vs) H A ρ' σ' H' A') (o : ∀ i, i ∉ vs → σ'[i]? = (wipe σ vs)[i]?) (s : ∀ i s, i ∉ vs → (jk ρ vs)[i]? = some s → ∃ s', ρ'[i]? = some s' ∧ match s with | .ow _ => ∃ t, s' = .ow t | s => s' = s)
    (l : ρ'.length = ρ.length) : Aft K (jk ρ vs) (wipe σ vs) H A (jk ρ' vs) H' A' := by
  have gd : Gd K (jk ρ' vs) (L2.wipe σ vs) H' A' := by
    have := r.good.wipe (σ := L2.wipe σ vs) (vs := vs) o (by rw [r.len])
    rw [Kl (σ' := L2.wipe σ vs) (σ := σ) (by rw [wipe_length]) (fun i h => vG h)] at this
    exact this
  have sh : Shp (jk ρ vs) (jk ρ' vs) := by
    refine ⟨by rw [wH, wH, l], fun i s0 e => ?_⟩
    by_cases c : i ∈ vs
    · have := Kg c e
      subst this
      have lt : i < (jk ρ' vs).length := by rw [wH, l, ← wH (vs := vs)]; exact (List.getElem?_eq_some_iff.mp e).1
      exact ⟨_, List.getElem?_eq_getElem lt, Kg c (List.getElem?_eq_getElem lt)⟩
    · obtain ⟨s', e', q⟩ := s i s0 c e
      exact ⟨s', by rw [wu c]; exact e', q⟩
  refine ⟨fun a h => ?_, r.new, sh, r.keep, gd⟩
  rcases r.sub a h with q | ⟨i, q⟩
  · exact q
  · exact gd.at_ (sh.at_ q)
/-- a list of one's own that no slot holds is written -/
theorem Aft.upd {ρ0 : Sls} {σ0 : L2.St} {H0 : Hp} {A0 : Addr → Prop} {D : Addr} {o : HO} (a : Aft K ρ0 σ0 H0 A0 ρ' H' A') (g0 : Gd K ρ0 σ0 H0 A0) (nD : H0 D = none) (aD : A' D) (ld : LD (some o)) : Aft K ρ0 σ0 H0 A0 ρ' (L2.upd H' D o) A' := by
  have k : Gon (fun q => q = D) A' A' H' (L2.upd H' D o) := gon_wr aD (a.good.tr D aD)
  refine ⟨a.sub, a.new, a.shp, fun p u n e => ?_, a.good.go k (fun i p h => ⟨fun z => ?_, a.good.at_ h⟩) fun p h => ?_⟩
  · rw [upd_ne (fun z => by rw [z, nD] at e; cases e)]; exact a.keep p u n e
  · subst z
    obtain ⟨u, e⟩ := (g0.tr _ (g0.at_ (a.shp.at' h))).ne
    rw [nD] at e; cases e
  · by_cases c : p = D
    · rw [c, upd_same]; exact ld
    · rw [upd_ne c]; exact a.good.tr p h
end
section
variable {X : Cx} {W : XK} {e a b tg it elt : Expr} {es ifs : List Expr} {m ma mb mc me mt : M} {mi : MI} {mA : MA} {pos p1 p2 : Pos} {U : List Nat} {g : MG} {scope : Scope} {vs : List Nat}
theorem tlc_ok (hi : SI X W tg it mi) (hg : BG X scope (some U) tg g) (ht : BT X scope ifs mt) (he : BE X scope elt me) (hU : ∀ i ∈ U, i ∈ vs) {ρ : Sls} {σ : L2.St} {H : Hp} {A : Addr → Prop} {r : Ans} {Q : VK} (g0 : Gd X.K ρ σ H A)
    (er : lcM mi g mt me vs ρ = some r) (f : Fin X W ρ σ H A r Q) : tLc (wI X tg it) (bG X scope tg) (bT X scope ifs) (bE X scope elt) vs σ H Q := by
  unfold tLc
  unfold lcM at er
  cases em : mi ρ with
  | none => rw [em] at er; cases er
  | some u =>
  rw [em] at er
  cases u with
  | er x => cases er; exact hi ρ σ H A _ _ g0 em f
  | ok l ρ1 =>
  simp only at er
  refine hi ρ σ H A _ _ g0 em fun J H1 A1 af src => ?_
  intro D hD
  cases ec : Wc g mt me vs l [] ρ1 with
  | none => rw [ec] at er; cases er
  | some fin =>
  obtain ⟨accF, ρF⟩ := fin
  rw [ec] at er
  cases er
  have g1 := af.good
  have gw : Gd X.K (jk ρ1 vs) (wipe σ vs) H1 A1 := g1.wipe (fun _ _ => rfl) rfl
  have prvw : ∀ p, Prv (jk ρ1 vs) (wipe σ vs) p → Prv ρ1 σ p := fun p ⟨i, t, e1, e2⟩ => by
    have := (Kc (i := i) (p := p) ⟨_, e1, rfl, e2⟩).1
    rw [wu this] at e1
    rw [vG this] at e2
    exact ⟨i, t, e1, e2⟩
  -- what holds between two turns
  let Pv : Nat → Hp → Prop := fun i H' => ∃ ρi Ai acc xs, Wc g mt me vs (l.drop i) acc ρi = some (accF, ρF) ∧ ρi.length = ρ1.length ∧ Aft X.K (jk ρ1 vs) (wipe σ vs) H1 A1 (jk ρi vs) H' Ai ∧ Ai D ∧ H' D = some (.lst xs) ∧ Rps X.K H' Ai acc xs
  refine ⟨fun i n H' => n = l.length - i ∧ i ≤ l.length ∧ Pv i H', ⟨_, rfl, Nat.zero_le _, ρ1, Pl A1 D, [], [], by simpa using ec, rfl, ?_, .inr rfl, upd_same, .nil⟩, ?_⟩
  · refine ⟨fun a h => .inl h, fun a h => h.imp id fun z => by rw [z]; exact hD, .refl, fun a o n e => Jb hD a o e, gw.go (gon_newP hD) (fun i p h => ⟨fun z => z, .inl (gw.at_ h)⟩) fun p h => ?_⟩
    rcases h with h | rfl
    · obtain ⟨u, e⟩ := (gw.tr p h).ne
      rw [Jb hD p u e, ← e]
      exact gw.tr p h
    · rw [upd_same]; trivial
  · rintro i n H' ⟨rfl, hil, ρi, Ai, acc, xs, e2, len, aw, aD, eD, rs⟩
    have gi := aw.good
    have gon1 : Gon (Prv ρ1 σ) A1 Ai H1 H' := ⟨fun a o n e => aw.keep a o (fun z => n (prvw a z)) e, fun p h => ⟨g1.prv h, g1.tr _ (g1.prv h)⟩, aw.new⟩
    obtain ⟨stop, go⟩ := src H' Ai (gon1.wr g1 af.sub)
    rcases Nat.lt_or_ge i l.length with lt | ge
    · have dr : l.drop i = l[i] :: l.drop (i + 1) := List.drop_eq_getElem_cons lt
      rw [dr] at e2
      obtain ⟨go, yld⟩ := go i l[i] (List.getElem?_eq_getElem lt)
      refine .inr ⟨go, Pv (i + 1), fun H2 p2 => ⟨_, by omega, rfl, lt, p2⟩, ?_⟩
      intro x H'' y
      obtain ⟨sm, rx⟩ := yld x H'' y
      -- the walk's new things
      have aw2 : Aft X.K (jk ρ1 vs) (wipe σ vs) H1 A1 (jk ρi vs) H'' Ai := ⟨aw.sub, aw.new, aw.shp, fun a o n e => sm _ _ (aw.keep a o n e), gi.go (Jv sm) (fun i p h => ⟨fun z => z, gi.at_ h⟩) fun a h => by
        obtain ⟨u, e⟩ := (gi.tr a h).ne
        rw [sm a u e, ← e]; exact gi.tr a h⟩
      have rs2 := rs.go (Jv (A := Ai) sm)
      have eD2 := sm _ _ eD
      have g2 := aw2.good
      unfold Wc at e2
      cases e3 : g l[i] .va (jk ρi vs) with
      | none => rw [e3] at e2; cases e2
      | some ρ2 =>
      rw [e3] at e2
      simp only at e2
      -- D is no slot's
      have nD : ∀ j, ¬ At (jk ρi vs) (wipe σ vs) j D := fun j z => by
        obtain ⟨u, e⟩ := (gw.tr D (gw.at_ (aw.shp.at' z))).ne
        rw [hD] at e; cases e
      have nP : ¬ Prv (jk ρi vs) (wipe σ vs) D := fun z => let ⟨j, z⟩ := z.at; nD j z
      intro s0 H0 C cl fp
      refine hg s0 H0 C cl fp (jk ρi vs) (wipe σ vs) H'' Ai (jk ρi vs) (wipe σ vs) H'' Ai l[i] .va x ρ2 _ g2 (.refl g2) rx e3 fun σ2 H2 A2 ru2 _ oth _ => ?_
      have oth := oth U rfl
      refine ⟨?_, ?_⟩
      · have := Kl (σ := wipe σ vs) (σ' := σ2) (vs := vs) ru2.len fun i h => (oth i fun z => h (hU i z)).1
        rw [this, Kl (σ' := wipe σ vs) (σ := σ) (by rw [wipe_length]) fun i h => vG h]
      -- a later place of the turn, wiped
      have wiped : ∀ ρ3 H3 A3, Run X.K (jk ρi vs) (wipe σ vs) H'' Ai ρ3 σ2 H3 A3 → Shp ρ2 ρ3 → ρ3.length = ρ1.length ∧ Aft X.K (jk ρ1 vs) (wipe σ vs) H1 A1 (jk ρ3 vs) H3 A3 ∧ H3 D = some (.lst xs) ∧ Rps X.K H3 A3 acc xs ∧ A3 D := by
        intro ρ3 H3 A3 r3 sh
        have l3 : ρ3.length = ρi.length := by rw [r3.good.len, r3.len, wipe_length, ← wipe_length σ vs, ← g2.len, wH]
        have w3 := Run.wiped (ρ := ρi) (ρ' := ρ3) g2 r3 (fun i h => (oth i fun z => h (hU i z)).1) (fun i s h e => by
          have q := (oth i fun z => h (hU i z)).2
          rw [e] at q
          exact sh.2 i s q) l3
        exact ⟨l3.trans len, aw2.trans gw w3, r3.keep D _ nP eD2, rs2.go (r3.gon g2), w3.sub D aD⟩
      intro s0 H0 C cl fp
      -- the element
      have elem : ∀ ρ3 H3 A3, Run X.K (jk ρi vs) (wipe σ vs) H'' Ai ρ3 σ2 H3 A3 → Shp ρ2 ρ3 → (match me ρ3 with
          | some (.ok t c ρ3) => if c.free = true ∧ acc.length ≤ big then Wc g mt me vs (l.drop (i + 1)) (acc ++ [t]) ρ3 else none
          | _ => none) = some (accF, ρF) → bE X scope elt σ2 H3 fun y H4 => ∃ acc, H4 D = some (.lst acc) ∧ acc.length < sizeLine ∧ Pv (i + 1) (upd H4 D (.lst (acc ++ [y]))) := by
        intro ρ3 H3 A3 r3 sh e4 s0 H0 C cl fp
        cases e5 : me ρ3 with
        | none => rw [e5] at e4; cases e4
        | some u =>
        rw [e5] at e4
        cases u with
        | er x => cases e4
        | ok t c ρ4 =>
        simp only at e4
        split at e4
        · rename_i cc
          refine he s0 H0 C cl fp ρ3 σ2 H3 A3 _ _ r3.good e5 fun v H4 A4 af4 vo => ?_
          have r4 : Run X.K (jk ρi vs) (wipe σ vs) H'' Ai ρ4 σ2 H4 A3 := r3.trans g2 ((af4.less r3.good).run r3.good)
          obtain ⟨l4, w4, eD4, rs4, aD4⟩ := wiped ρ4 H4 A3 r4 (sh.trans af4.shp)
          have rv : Rp X.K H4 A3 t v := vo.fz af4.sub cc.1
          refine ⟨xs, eD4, by have := JO; rw [← rs4.length]; omega, ρ4, A3, acc ++ [t], xs ++ [v], e4, l4, w4.upd gw hD aD4 trivial, aD4, upd_same, ?_⟩
          exact (rs4.append (.cons rv .nil)).go (gon_wr aD4 (by rw [eD4]; trivial))
        · cases e4
      cases ifs with
      | nil =>
        have em : mt = fun ρ => some (.ok (.bl true) .va ρ) := ht s0 H0 C cl fp
        subst em
        simp only at e2
        exact ts_nil (iteT (elem ρ2 H2 A2 ru2 .refl e2))
      | cons c cs =>
        cases cs with
        | cons d ds => exact (ht s0 H0 C cl fp).elim
        | nil =>
          have ht : ST _ E0 c mt := ht s0 H0 C cl fp
          cases e4 : mt ρ2 with
          | none => rw [e4] at e2; cases e2
          | some u =>
          rw [e4] at e2
          cases u with
          | er x => cases e2
          | ok t cc ρ3 =>
          cases t with
          | bl b =>
            refine ts_one (ht ρ2 σ2 H2 A2 _ _ ru2.good e4 fun H3 A3 af3 => ?_)
            have r3 := ru2.trans g2 (af3.run ru2.good)
            cases b with
            | true => exact iteT (elem ρ3 H3 A3 r3 af3.shp e2)
            | false =>
              refine iteF ?_
              obtain ⟨l4, w4, eD4, rs4, aD4⟩ := wiped ρ3 H3 A3 r3 af3.shp
              exact ⟨ρ3, A3, acc, xs, e2, l4, w4, aD4, eD4, rs4⟩
          | _ => cases e2
    · obtain rfl : i = l.length := by omega
      rw [List.drop_length] at e2
      cases e2
      refine .inl ⟨stop, ?_⟩
      have lb : ρF.length = ρ1.length := len
      -- the slots as outside
      have sh : Shp ρ1 (backR ρ1 ρF vs) := by
        refine ⟨by rw [Jt, lb], fun j s e => ?_⟩
        by_cases c : j ∈ vs
        · exact ⟨s, by rw [backR_in c lb]; exact e, by cases s <;> first | rfl | exact ⟨_, rfl⟩⟩
        · obtain ⟨s', e', q⟩ := aw.shp.2 j s (by rw [wu c]; exact e)
          rw [wu c] at e'
          exact ⟨s', by rw [JS c]; exact e', q⟩
      have gb : Gd X.K (backR ρ1 ρF vs) σ H' Ai := by
        refine ⟨gi.tr, fun j s e => ?_, fun j k p h1 h2 => g1.dj j k p (sh.at' h1) (sh.at' h2), by rw [Jt, lb]; exact g1.len⟩
        by_cases c : j ∈ vs
        · rw [backR_in c lb] at e
          have q := g1.sl j s e
          have gn : Gon (Prv (jk ρ1 vs) (wipe σ vs)) A1 Ai H1 H' := aw.gon gw
          have off : ∀ p, At ρ1 σ j p → ¬ Prv (jk ρ1 vs) (wipe σ vs) p := fun p h z => by
            obtain ⟨k, z⟩ := z.at
            have := Kc z
            exact this.1 (by rw [← g1.dj j k p h this.2]; exact c)
          cases s with
          | no => trivial
          | kd l => exact We gn q
          | va t => obtain ⟨v, e2, r⟩ := q; exact ⟨v, e2, r.go gn⟩
          | ow t => obtain ⟨p, e2, h, r⟩ := q; exact ⟨p, e2, aw.sub p h, r.go gn (off p ⟨_, e, rfl, e2⟩)⟩
          | lk t => obtain ⟨p, e2, h, r⟩ := q; exact ⟨p, e2, aw.sub p h, r.go gn (off p ⟨_, e, rfl, e2⟩)⟩
        · rw [JS c] at e
          have := gi.sl j s (by rw [wu c]; exact e)
          rw [vG c] at this
          exact this
      have a2 : Aft X.K ρ1 σ H1 A1 (backR ρ1 ρF vs) H' Ai := ⟨aw.sub, aw.new, sh, fun a o n e => aw.keep a o (fun z => n (prvw a z)) e, gb⟩
      refine f (.ref D) H' Ai (af.trans g0 a2) ⟨D, rfl, fun z => ?_, aD, xs, eD, rs⟩
      obtain ⟨u, e⟩ := (g1.tr D (af.sub D z)).ne
      rw [hD] at e; cases e
theorem Kv {own : List (Str × Nat)} (hN : X.N.Nodup) (ok : BlkOk X.N X.env.scope scope own) (hi : SI X W tg it mi) (hg : BG X scope (some U) tg g) (ht : BT X scope ifs mt) (he : BE X scope elt me) (hU : ∀ i ∈ U, i ∈ own.map (·.2) := by decide)
    (hc : X.calm = true := by rfl) (hs : ∀ x, foldedSetIterable it X.env x = pure x := by intro _; rfl) : SE X W (.ListComp elt [⟨tg, it, ifs, 0⟩] scope pos) (lcM mi g mt me (own.map (·.2))) :=
  fun ρ σ H A r Q g0 er f => e_lc hN ok (tlc_ok hi hg ht he hU g0 er f) hc hs
end
end Tr
end F_Tr9
section F_Tr10
set_option Elab.async false
set_option maxRecDepth 100000
set_option maxHeartbeats 4000000
set_option linter.all false
namespace Tr
open PySem PySem.Spec PyProof.Rows L2 LamX Vf
open SX (S)
inductive OutF where
  | ok (t : T) (b : Bool) | er (x : Ex)
abbrev MF := List T → Option OutF
/-- a def that computes m -/
def spM (K : PySem.W.Frag) (m : MF) : Sp := fun vs H Q E => ∃ A ts r, (∀ a, A a → LD (H a)) ∧ Rps K H A ts vs ∧ m ts = some r ∧ match r with
  | .ok t b => ∀ v H', Nw K A H t b v H' → Q v H'
  | .er x => ∀ C d H', Same H H' → XOk K H' A x C d → E C d H'
/-- .. that changes what its first argument holds -/
abbrev MC := T → List T → Option ((T × Bool) × T)
def spC (K : PySem.W.Frag) (m : MC) : Sp := fun vs H Q _ => ∃ A tc ts p vs' t b tc', vs = .ref p :: vs' ∧ (∀ a, A a → LD (H a)) ∧ A p ∧ Ow K H A tc p ∧ Rps K H A ts vs' ∧ m tc ts = some ((t, b), tc') ∧ match b with
  | false => ∀ v H', (∀ a o, a ≠ p → H a = some o → H' a = some o) → Ow K H' A tc' p → Rp K H' A t v → Q v H'
  | true => ∀ q H', (∀ a o, a ≠ p → H a = some o → H' a = some o) → H q = none → Ow K H' (Pl A q) tc' p → Ow K H' (Pl A q) t q → Q (.ref q) H'
section
variable {X : Cx} {W : XK} {e a b tg it elt : Expr} {es ifs : List Expr} {m ma mb mc me mt : M} {mi : MI} {mA : MA} {pos p1 p2 : Pos} {U : List Nat} {g : MG} {scope : Scope} {vs : List Nat}
def jK (mA : MA) (mf : MF) : M := Km mA fun ts ρ => if jo ts = true then match mf (ts.map (·.1)) with
    | some (.ok t b) => some (.ok t (Jr b) ρ)
    | some (.er x) => some (.er x)
    | none => none
  else none
theorem call_fin {mf : MF} {ts : List (T × Cl)} {ρ ρ1 : Sls} {σ : L2.St} {H H1 : Hp} {A A1 : Addr → Prop} {r : Ans} {Q : VK} {us : List V} (g : Gd X.K ρ σ H A) (f : Fin X W ρ σ H A r Q) (af : Aft X.K ρ σ H A ρ1 H1 A1) (vo : VOks X.K A H1 A1 ρ1 σ ts us)
    (ek : (if jo ts = true then match mf (ts.map (·.1)) with
    | some (.ok t b) => some (Ans.ok t (Jr b) ρ1)
    | some (.er x) => some (.er x)
    | none => none
  else none) = some r) : spM X.K mf us H1 Q W := by
  split at ek
  · rename_i c
    cases em : mf (ts.map (·.1)) with
    | none => rw [em] at ek; cases ek
    | some o =>
      rw [em] at ek
      have af' := af.less g
      refine ⟨A, ts.map (·.1), o, af'.good.tr, vo.fz af.sub c, em, ?_⟩
      cases o with
      | ok t b =>
        cases ek
        intro v H2 n
        obtain ⟨A2, af2, vo2⟩ := af'.nw g n
        exact f v H2 A2 af2 vo2
      | er x =>
        cases ek
        intro C d H2 s xo
        exact f C d H2 (fun p o n e => s _ _ (af'.keep p o n e)) xo
  · cases ek
theorem jq {x : Str} {k : Nat} {mf : MF} (F : Df X.prog X.w X.K X.mg X.base x k (spM X.K mf)) (hr : Room k X.A) (tk : Takes X fun c d _ H => W c d H) (h : SA X W (e :: es) mA)
    (hg : Gl X x := by rfl) (hdb : (x == ("__debug__" : Str)) = false := by decide) (he : starEach (e :: es) X.env = (false, eval e X.env) :: starEach es X.env := by rfl) (hpl : (backTo pos (starEach es X.env)).any (·.1) = false := by rfl) :
    SE X W (.Call (.Name x p1) (e :: es) [] pos) (jK mA mf) := by
  intro ρ σ H A r Q g er f
  refine e_call F hr (passes_call tk fun c d σ H h => h) (FinA.bind h g er f fun ts ρ1 us H1 A1 ek af vo => call_fin g f af vo ek) hg hdb he hpl
/-- f(x, ..), x a name that holds one's own, which f changes -/
def Jx (i : Nat) (mA : MA) (mf : MC) : M := fun ρ => match ρ[i]? with
  | some (.ow _) => Km mA (fun ts ρ => if jo ts = true then match ρ[i]? with
    | some (.ow tc) => match mf tc (ts.map (·.1)) with
      | some ((t, b), tc') => some (.ok t (Jr b) (ρ.set i (.ow tc')))
      | none => none
    | _ => none
    else none) ρ
  | _ => none
theorem shp_set {ρ : Sls} {i : Nat} {t t' : T} (e : ρ[i]? = some (.ow t)) : Shp ρ (ρ.set i (.ow t')) := by
  refine ⟨by rw [List.length_set], fun j s h => ?_⟩
  by_cases c : j = i
  · subst c
    rw [e] at h; cases h
    exact ⟨_, List.getElem?_set_self (List.getElem?_eq_some_iff.mp e).1, _, rfl⟩
  · exact ⟨s, by rw [List.getElem?_set_ne (fun z => c z.symm)]; exact h, by cases s <;> first | rfl | exact ⟨_, rfl⟩⟩
/-- what slot i holds is changed by a callee -/
theorem Gd.chg {K : PySem.W.Frag} {ρ : Sls} {σ : L2.St} {H H' : Hp} {A A' : Addr → Prop} (g : Gd K ρ σ H A) {i : Nat} {t t' : T} {p : Addr} (e : ρ[i]? = some (.ow t)) (e2 : σ[i]? = some (some (.ref p))) (k : ∀ a o, a ≠ p → H a = some o → H' a = some o)
    (sub : ∀ a, A a → A' a) (new : ∀ a, A' a → A a ∨ H a = none) (ld : ∀ a, A' a → LD (H' a)) (ow : Ow K H' A' t' p) : Aft K ρ σ H A (ρ.set i (.ow t')) H' A' := by
  have ap := g.at_ ⟨_, e, rfl, e2⟩
  have gn : Gon (fun q => q = p) A A' H H' := ⟨fun q u n h => k q u n h, fun q z => by rw [z]; exact ⟨ap, g.tr p ap⟩, new⟩
  have sh := shp_set (t' := t') e
  refine ⟨sub, new, sh, fun a o n h => k a o (fun z => n ⟨i, t, e, by rw [z]; exact e2⟩) h, ld, fun j s h => ?_, fun j l q h1 h2 => g.dj j l q (sh.at' h1) (sh.at' h2), by rw [List.length_set]; exact g.len⟩
  by_cases c : j = i
  · subst c
    rw [List.getElem?_set_self (List.getElem?_eq_some_iff.mp e).1] at h
    cases h
    exact ⟨p, e2, sub p ap, ow⟩
  · rw [List.getElem?_set_ne (fun z => c z.symm)] at h
    have q := g.sl j s h
    have ne : ∀ q, At ρ σ j q → q ≠ p := fun q h z => by subst z; exact c (g.dj j i q h ⟨_, e, rfl, e2⟩)
    cases s with
    | no => trivial
    | kd l => exact We gn q
    | va u => obtain ⟨v, e4, r⟩ := q; exact ⟨v, e4, r.go gn⟩
    | ow u => obtain ⟨q, e4, h', r⟩ := q; exact ⟨q, e4, sub q h', r.go gn (ne q ⟨_, h, rfl, e4⟩)⟩
    | lk u => obtain ⟨q, e4, h', r⟩ := q; exact ⟨q, e4, sub q h', r.go gn (ne q ⟨_, h, rfl, e4⟩)⟩
theorem callC_fin {i : Nat} {mf : MC} {ts : List (T × Cl)} {ρ ρ1 : Sls} {σ : L2.St} {H H1 : Hp} {A A1 : Addr → Prop} {r : Ans} {Q : VK} {us : List V} {p : Addr} (g : Gd X.K ρ σ H A) (f : Fin X W ρ σ H A r Q) (af : Aft X.K ρ σ H A ρ1 H1 A1) (vo : VOks X.K A H1 A1 ρ1 σ ts us)
    (e2 : σ[i]? = some (some (.ref p)))
    (ek : (if jo ts = true then match ρ1[i]? with
    | some (.ow tc) => match mf tc (ts.map (·.1)) with
      | some ((t, b), tc') => some (Ans.ok t (Jr b) (ρ1.set i (.ow tc')))
      | none => none
    | _ => none
    else none) = some r) : spC X.K mf (.ref p :: us) H1 Q W := by
  split at ek
  · rename_i c
    split at ek
    · rename_i tc es
      have af' := af.less g
      have g1 := af'.good
      obtain ⟨p', e3, ap, ow⟩ := g1.sl i _ es
      rw [e2] at e3; cases e3
      have vr := vo.fz af.sub c
      cases em : mf tc (ts.map (·.1)) with
      | none => rw [em] at ek; cases ek
      | some o =>
        obtain ⟨⟨t, b⟩, tc'⟩ := o
        rw [em] at ek
        refine ⟨A, tc, ts.map (·.1), p, us, t, b, tc', rfl, g1.tr, ap, ow, vr, em, ?_⟩
        cases b with
        | false =>
          cases ek
          intro v H2 k ow2 rv
          have ld : ∀ a, A a → LD (H2 a) := fun a h => by
            by_cases c : a = p
            · subst c; exact ow2.ld
            · obtain ⟨u, e⟩ := (g1.tr a h).ne
              rw [k a u c e, ← e]; exact g1.tr a h
          have af2 := g1.chg es e2 k (fun _ h => h) (fun _ h => .inl h) ld ow2
          exact f v H2 A (af'.trans g af2) rv
        | true =>
          cases ek
          intro q H2 k hq ow2 owq
          have nq : ¬ A q := fun z => by obtain ⟨u, e⟩ := (g1.tr q z).ne; rw [hq] at e; cases e
          have ld : ∀ a, Pl A q a → LD (H2 a) := fun a h => by
            rcases h with h | rfl
            · by_cases c : a = p
              · subst c; exact ow2.ld
              · obtain ⟨u, e⟩ := (g1.tr a h).ne
                rw [k a u c e, ← e]; exact g1.tr a h
            · exact owq.ld
          have af2 := g1.chg es e2 k (fun _ h => .inl h) (fun a h => h.imp id fun z => by rw [z]; exact hq) ld ow2
          exact f (.ref q) H2 _ (af'.trans g af2) ⟨q, rfl, nq, .inr rfl, owq⟩
    · cases ek
  · cases ek
theorem JY {x y : Str} {k i : Nat} {mf : MC} (F : Df X.prog X.w X.K X.mg X.base x k (spC X.K mf)) (hr : Room k X.A) (tk : Takes X fun c d _ H => W c d H) (hN : X.N[i]? = some y) (hv : Vis X.env.scope y) (h : SA X W es mA)
    (hg : Gl X x := by rfl) (hdb : (x == ("__debug__" : Str)) = false := by decide) (hd : (y == ("__debug__" : Str)) = false := by decide) (hcd : (y == ("__classdict__" : Str)) = false := by decide)
    (he : starEach (.Name y p2 :: es) X.env = (false, eval (.Name y p2) X.env) :: starEach es X.env := by rfl) (hpl : (backTo pos (starEach es X.env)).any (·.1) = false := by rfl) :
    SE X W (.Call (.Name x p1) (.Name y p2 :: es) [] pos) (Jx i mA mf) := by
  intro ρ σ H A r Q g er f
  unfold Jx at er
  split at er
  · rename_i t0 es0
    obtain ⟨p, e2, _⟩ := g.sl i _ es0
    refine e_call F hr (passes_call tk fun c d σ H h => h) (a_cons (e_var i hN hv e2 ?_ hd hcd) he) hg hdb he hpl
    exact FinA.bind h g er f fun ts ρ1 us H1 A1 ek af vo => callC_fin g f af vo e2 ek
  · cases er
theorem ss_setLc (own1 : Bool) {i : Nat} {y : Str} {py : Pos} {own : List (Str × Nat)} {spos : Pos} (hN : X.N.Nodup) (hy : X.N[i]? = some y) (hyl : X.env.scope.names.lookup y = some .local)
    (hsw : swapsWith (.ListComp elt [⟨tg, it, ifs, 0⟩] scope pos) (some (.Name y py)) spos.line X.env = pure true) (ok : BlkOk X.N X.env.scope scope own)
    (hi : SI X W tg it mi) (hg : BG X scope (some U) tg g) (ht : BT X scope ifs mt) (he : BE X scope elt me) (hU : ∀ i ∈ U, i ∈ own.map (·.2) := by decide)
    (hc : X.calm = true := by rfl) (hs : ∀ x, foldedSetIterable it X.env x = pure x := by intro _; rfl) :
    SS X W (.Assign [.Name y py] (.ListComp elt [⟨tg, it, ifs, 0⟩] scope pos) spos) (wp own1 (lcM mi g mt me (own.map (·.2))) (jB own1 i)) := by
  intro ρ σ H A r D g0 er f
  refine s_setLc hN hy hyl hsw ok ?_ hc hs
  unfold wp Wg at er
  cases em : lcM mi g mt me (own.map (·.2)) ρ with
  | none => rw [em] at er; cases er
  | some u =>
    rw [em] at er
    cases u with
    | ok t c ρ1 => exact tlc_ok hi hg ht he hU g0 em fun v H1 A1 af vo => set_fin g0 f af vo er
    | er x => cases er; exact tlc_ok hi hg ht he hU g0 em f.err
def raise1 (C : Addr) (fld : Str) (m : M) : MS := Wg m fun t c _ => if c.free = true then some (.er ⟨C, [(fld, t)]⟩) else none
end
def runF (n : Nat) (mb : MS) : MF := fun ts => match mb (ts.map .va ++ List.replicate (n - ts.length) .no) with
  | some (.rt t b _) => some (.ok t b)
  | some (.nx _) => some (.ok .non false)
  | some (.er x) => some (.er x)
  | _ => none
def vH (k n : Nat) (mb : MS) : MF := fun ts => if ts.length = k then runF n mb ts else none
def wL : Sls → Option T
  | .ow t :: _ => some t
  | _ => none
def Ju : Option Out → Option ((T × Bool) × T)
  | some (.rt t b ρ) => (wL ρ).map fun tc => ((t, b), tc)
  | some (.nx ρ) => (wL ρ).map fun tc => ((.non, false), tc)
  | _ => none
def KY (k n : Nat) (mb : MS) : MC := fun tc ts => if ts.length + 1 = k then Ju (mb (.ow tc :: (ts.map .va ++ List.replicate (n - (ts.length + 1)) .no))) else none
section
variable {K : PySem.W.Frag} {H : Hp} {A : Addr → Prop}
theorem start_get {ts : List T} {vs : List V} {n i : Nat} {s : Sl} (r : Rps K H A ts vs) (e : (ts.map Sl.va ++ List.replicate n Sl.no)[i]? = some s) : (∃ t v, s = .va t ∧ (vs.map some)[i]? = some (some v) ∧ Rp K H A t v) ∨ s = .no := by
  by_cases c : i < ts.length
  · rw [List.getElem?_append_left (by rw [List.length_map]; exact c), List.getElem?_map] at e
    cases q : ts[i]? with
    | none => rw [q] at e; cases e
    | some t =>
      rw [q] at e
      cases e
      obtain ⟨v, e2, rv⟩ := r.get q
      exact .inl ⟨t, v, rfl, by rw [List.getElem?_map, e2]; rfl, rv⟩
  · rw [List.getElem?_append_right (by rw [List.length_map]; omega)] at e
    have := List.mem_replicate.mp (List.mem_of_getElem? e)
    exact .inr this.2
theorem gd_start {N : List Str} {ts : List T} {vs : List V} (hA : ∀ a, A a → LD (H a)) (r : Rps K H A ts vs) (hl : vs.length ≤ N.length) : Gd K (ts.map .va ++ List.replicate (N.length - ts.length) .no) (L2.start N vs) H A := by
  have len := r.length
  have no : ∀ i p, ¬ At (ts.map .va ++ List.replicate (N.length - ts.length) .no) (L2.start N vs) i p := fun i p ⟨s, e, pr, _⟩ => by
    rcases start_get r e with ⟨t, v, rfl, _⟩ | rfl <;> cases pr
  refine ⟨hA, fun i s e => ?_, fun i j p h => (no i p h).elim, by unfold L2.start; simp; omega⟩
  rcases start_get r e with ⟨t, v, rfl, e2, rv⟩ | rfl
  · refine ⟨v, ?_, rv⟩
    unfold L2.start
    rw [List.getElem?_append_left (List.getElem?_eq_some_iff.mp e2).1]
    exact e2
  · trivial
theorem no_prv {N : List Str} {ts : List T} {vs : List V} (r : Rps K H A ts vs) {i : Nat} {p : Addr} : ¬ At (ts.map .va ++ List.replicate (N.length - ts.length) .no) (L2.start N vs) i p := fun ⟨s, e, pr, _⟩ => by
  rcases start_get r e with ⟨t, v, rfl, _⟩ | rfl <;> cases pr
end
section
variable {P : Program} {w : World} {K : PySem.W.Frag} {mg : Str → Option Value} {base : Heap}
theorem body_ok {X : Cx} {E : XK} {N : List Str} {st : List Stmt} {mb : MS} {n : Nat} {vs : List V} {H : Hp} {Q : VK} (hK : X.K = K) (hb : SB X E st mb) (hn : vs.length ≤ N.length) (h : spM K (vH n N.length mb) vs H Q E) : wB X st { nx := fun _ H' => Q .non H', rt := Q } (L2.start N vs) H := by
  subst hK
  obtain ⟨A, ts, r, hA, rs, em, q⟩ := h
  unfold vH at em
  split at em
  · unfold runF at em
    have g := gd_start (N := N) hA rs hn
    have np : ∀ p, ¬ Prv (ts.map .va ++ List.replicate (N.length - ts.length) .no) (L2.start N vs) p := fun p z => let ⟨i, z⟩ := z.at; no_prv rs z
    have sub : ∀ {A' : Addr → Prop}, (∀ a, A a → A' a ∨ ∃ i, At (ts.map .va ++ List.replicate (N.length - ts.length) .no) (L2.start N vs) i a) → ∀ a, A a → A' a := fun s a h => (s a h).elim id fun ⟨i, z⟩ => (no_prv rs z).elim
    cases eb : mb (ts.map .va ++ List.replicate (N.length - ts.length) .no) with
    | none => rw [eb] at em; cases em
    | some o =>
      rw [eb] at em
      cases o with
      | nx ρ => cases em; exact hb _ _ _ _ _ _ g eb fun σ' H' A' ru _ => q _ H' ⟨fun a o e => ru.keep a o (np a) e, .non⟩
      | rt t b ρ =>
        cases em
        refine hb _ _ _ _ _ _ g eb fun v σ' H' A' ru ro => q v H' ⟨fun a o e => ru.keep a o (np a) e, ?_⟩
        cases b with
        | false => exact Rp.go (vf (sub ru.sub)) ro
        | true =>
          obtain ⟨p, e1, h0, ap, ow⟩ := ro
          exact ⟨p, e1, h0, ow.go (vf fun a h => h.elim (sub ru.sub a) fun z => by rw [z]; exact ap) fun z => z⟩
      | er x =>
        cases em
        refine hb _ _ _ _ _ _ g eb fun C d H' A' k s xo => q C d H' (fun a o e => k a o (np a) e) ?_
        obtain ⟨e1, e2⟩ := xo
        refine ⟨e1, ?_⟩
        cases hx : x.fs with
        | nil => rw [hx] at e2; exact e2
        | cons y ys => rw [hx] at e2; obtain ⟨dd, vs, h1, h2, h3⟩ := e2; exact ⟨dd, vs, h1, h2, h3.go (vf (sub s))⟩
      | _ => cases em
  · cases em
theorem spM_len {K : PySem.W.Frag} {k n : Nat} {mb : MS} {vs : List V} {H : Hp} {Q : VK} {E : XK} (h : spM K (vH k n mb) vs H Q E) : vs.length = k := by
  obtain ⟨A, ts, r, hA, rs, em, q⟩ := h
  unfold vH at em
  split at em
  · rw [← rs.length]; assumption
  · cases em
theorem len_of {N ps : List Str} {sc : Scope} (S : FnScope N ps sc) : ps.length ≤ N.length := by have := congrArg List.length S.pre; rw [List.length_take] at this; omega
theorem slot0_get {ρ : Sls} {t : T} (h : wL ρ = some t) : ρ[0]? = some (.ow t) := by
  cases ρ with
  | nil => cases h
  | cons s ρ => cases s <;> first | cases h; rfl | cases h
theorem bodyC_ok {X : Cx} {E : XK} {N : List Str} {st : List Stmt} {mb : MS} {n : Nat} {vs : List V} {H : Hp} {Q : VK} (hK : X.K = K) (hb : SB X E st mb) (hn : vs.length ≤ N.length) (h : spC K (KY n N.length mb) vs H Q E) : wB X st { nx := fun _ H' => Q .non H', rt := Q } (L2.start N vs) H := by
  subst hK
  obtain ⟨A, tc, ts, p, vs', tr, br, tc', rfl, hA, ap, ow, rs, em, q⟩ := h
  unfold KY at em
  split at em
  · have hn' : vs'.length + 1 ≤ N.length := hn
    have len := rs.length
    have eσ : L2.start N (.ref p :: vs') = some (.ref p) :: (vs'.map some ++ List.replicate (N.length - (vs'.length + 1)) none) := rfl
    rw [eσ]
    have g0 : Gd X.K (.ow tc :: (ts.map .va ++ List.replicate (N.length - (ts.length + 1)) .no)) (some (.ref p) :: (vs'.map some ++ List.replicate (N.length - (vs'.length + 1)) none)) H A := by
      have no : ∀ i q, ¬ At (ts.map .va ++ List.replicate (N.length - (ts.length + 1)) .no) (vs'.map some ++ List.replicate (N.length - (vs'.length + 1)) none) i q := fun i q ⟨s, e, pr, _⟩ => by
        rcases start_get rs e with ⟨t, v, rfl, _⟩ | rfl <;> cases pr
      have ats : ∀ i q, At (.ow tc :: (ts.map .va ++ List.replicate (N.length - (ts.length + 1)) .no)) (some (.ref p) :: (vs'.map some ++ List.replicate (N.length - (vs'.length + 1)) none)) i q → i = 0 := fun i q ⟨s, e, pr, e2⟩ => by
        cases i with
        | zero => rfl
        | succ i => exact (no i q ⟨s, by simpa using e, pr, by simpa using e2⟩).elim
      refine ⟨hA, fun i s e => ?_, fun i j q h1 h2 => (ats i q h1).trans (ats j q h2).symm, by simp; omega⟩
      cases i with
      | zero => simp at e; subst e; exact ⟨p, rfl, ap, ow⟩
      | succ i =>
        rcases start_get rs (by simpa using e) with ⟨t, v, rfl, e2, rv⟩ | rfl
        · refine ⟨v, ?_, rv⟩
          rw [List.getElem?_cons_succ, List.getElem?_append_left (List.getElem?_eq_some_iff.mp e2).1]
          exact e2
        · trivial
    have at0 : ∀ i q, At (.ow tc :: (ts.map .va ++ List.replicate (N.length - (ts.length + 1)) .no)) (some (.ref p) :: (vs'.map some ++ List.replicate (N.length - (vs'.length + 1)) none)) i q → q = p := fun i q ⟨s, e, pr, e2⟩ => by
      cases i with
      | zero => simp at e2; exact e2.symm
      | succ i =>
        rcases start_get rs (show (ts.map Sl.va ++ List.replicate (N.length - (ts.length + 1)) Sl.no)[i]? = some s by simpa using e) with ⟨t, v, rfl, _⟩ | rfl <;> cases pr
    -- at the end
    have fin : ∀ ρ' σ' H' A', Run X.K (.ow tc :: (ts.map .va ++ List.replicate (N.length - (ts.length + 1)) .no)) (some (.ref p) :: (vs'.map some ++ List.replicate (N.length - (vs'.length + 1)) none)) H A ρ' σ' H' A' → ∀ tc', wL ρ' = some tc' →
        (∀ a o, a ≠ p → H a = some o → H' a = some o) ∧ (∀ a, A a → A' a) ∧ Ow X.K H' A' tc' p := by
      intro ρ' σ' H' A' ru tc' e0
      obtain ⟨_, e2⟩ := ru.c0 tc rfl
      have e2 : σ'[0]? = some (some (.ref p)) := e2
      obtain ⟨p', e3, ap', ow'⟩ := ru.good.sl 0 _ (slot0_get e0)
      rw [e2] at e3; cases e3
      refine ⟨fun a o n e => ru.keep a o (fun z => ?_) e, fun a h => ?_, ow'⟩
      · obtain ⟨i, z⟩ := z.at
        exact n (at0 i a z)
      · rcases ru.sub a h with h | ⟨i, z⟩
        · exact h
        · rw [at0 i a z]; exact ap'
    cases eb : mb (.ow tc :: (ts.map .va ++ List.replicate (N.length - (ts.length + 1)) .no)) with
    | none => rw [eb] at em; cases em
    | some o =>
      rw [eb] at em
      cases o with
      | nx ρ =>
        simp only [Ju] at em
        cases e0 : wL ρ with
        | none => rw [e0] at em; cases em
        | some tc1 =>
          rw [e0] at em
          cases em
          refine hb _ _ _ _ _ _ g0 eb fun σ' H' A' ru _ => ?_
          obtain ⟨k, sub, ow2⟩ := fin _ _ _ _ ru _ e0
          exact q .non H' k (ow2.go (vf sub) fun z => z) .non
      | rt t b ρ =>
        simp only [Ju] at em
        cases e0 : wL ρ with
        | none => rw [e0] at em; cases em
        | some tc1 =>
          rw [e0] at em
          cases em
          refine hb _ _ _ _ _ _ g0 eb fun v σ' H' A' ru ro => ?_
          obtain ⟨k, sub, ow2⟩ := fin _ _ _ _ ru _ e0
          cases br with
          | false => exact q v H' k (ow2.go (vf sub) fun z => z) (Rp.go (vf sub) ro)
          | true =>
            obtain ⟨p1, e1, h0, ap1, ow1⟩ := ro
            subst e1
            have sub' : ∀ a, Pl A p1 a → A' a := fun a h => h.elim (sub a) fun z => by rw [z]; exact ap1
            exact q p1 H' k h0 (ow2.go (vf sub') fun z => z) (ow1.go (vf sub') fun z => z)
      | er x => cases em
      | _ => cases em
  · cases em
/-- THE RULE for a def -/
theorem vF {x qual : Str} {st : Stmt} {f : Addr} {fd : FuncData} {N ps : List Str} {k : Nat} {mb : MS} (F : Fun K x qual st f fd) (S : FnScope N ps (defScope st))
    (hbody : ∀ (cdv : Value) (A : Around) (outer : List Env) (s : Shared) (H : Hp) (E : XK), Room k (A.deeper (envOfC qual (defScope st) s.heap.objs.size f cdv)) → SB (cxOf (L2.CX P w) P w K mg base N qual (defScope st) f cdv A outer s H E) E (defBody st) mb) :
    FnOk P w K mg base (L2.CX P w) (k + 1) f fd ps (spM K (vH ps.length N.length mb)) :=
  okX F S (fun vs H Q E h => spM_len h) fun cdv A outer s H vs Q E hr h => body_ok rfl (hbody cdv A outer s H E hr) (by rw [spM_len h]; exact len_of S) h
theorem ok_defG {x qual : Str} {st : Stmt} {f : Addr} {fd : FuncData} {N ps : List Str} {k : Nat} {mb : MS} (F : Fun K x qual st f fd) (S : FnScope N ps (defScope st))
    (hbody : ∀ (cdv : Value) (A : Around) (outer : List Env) (s : Shared) (H : Hp) (E : XK), Room k (A.deeper (envOfC qual (defScope st) s.heap.objs.size f cdv)) → A.guards = some [] → SB (cxOf (L2.CX P w) P w K mg base N qual (defScope st) f cdv A outer s H E) E (defBody st) mb) :
    FnG P w K mg base (L2.CX P w) (k + 1) f fd ps (spM K (vH ps.length N.length mb)) :=
  okG F S (fun vs H Q E h => spM_len h) fun cdv A outer s H vs Q E hr hg h => body_ok rfl (hbody cdv A outer s H E hr hg) (by rw [spM_len h]; exact len_of S) h
theorem spC_len {k n : Nat} {mb : MS} {vs : List V} {H : Hp} {Q : VK} {E : XK} (h : spC K (KY k n mb) vs H Q E) : vs.length = k := by
  obtain ⟨A, tc, ts, p, vs', tr, br, tc', rfl, hA, ap, ow, rs, em, q⟩ := h
  unfold KY at em
  split at em
  · rw [List.length_cons, ← rs.length]; assumption
  · cases em
theorem ok_defC {x qual : Str} {st : Stmt} {f : Addr} {fd : FuncData} {N ps : List Str} {k : Nat} {mb : MS} (F : Fun K x qual st f fd) (S : FnScope N ps (defScope st))
    (hbody : ∀ (cdv : Value) (A : Around) (outer : List Env) (s : Shared) (H : Hp) (E : XK), Room k (A.deeper (envOfC qual (defScope st) s.heap.objs.size f cdv)) → SB (cxOf (L2.CX P w) P w K mg base N qual (defScope st) f cdv A outer s H E) E (defBody st) mb) :
    FnOk P w K mg base (L2.CX P w) (k + 1) f fd ps (spC K (KY ps.length N.length mb)) :=
  okX F S (fun vs H Q E h => spC_len h) fun cdv A outer s H vs Q E hr h => bodyC_ok rfl (hbody cdv A outer s H E hr) (by rw [spC_len h]; exact len_of S) h
theorem ok_defCG {x qual : Str} {st : Stmt} {f : Addr} {fd : FuncData} {N ps : List Str} {k : Nat} {mb : MS} (F : Fun K x qual st f fd) (S : FnScope N ps (defScope st))
    (hbody : ∀ (cdv : Value) (A : Around) (outer : List Env) (s : Shared) (H : Hp) (E : XK), Room k (A.deeper (envOfC qual (defScope st) s.heap.objs.size f cdv)) → A.guards = some [] → SB (cxOf (L2.CX P w) P w K mg base N qual (defScope st) f cdv A outer s H E) E (defBody st) mb) :
    FnG P w K mg base (L2.CX P w) (k + 1) f fd ps (spC K (KY ps.length N.length mb)) :=
  okG F S (fun vs H Q E h => spC_len h) fun cdv A outer s H vs Q E hr hg h => bodyC_ok rfl (hbody cdv A outer s H E hr hg) (by rw [spC_len h]; exact len_of S) h
end
end Tr
end F_Tr10
section F_Tr11
set_option Elab.async false
set_option maxRecDepth 100000
set_option maxHeartbeats 4000000
set_option linter.all false
namespace Tr
open PySem PySem.Spec PyProof.Rows L2 LamX Vf
open SX (S)
def insU (c : Nat) : List Nat → List Nat
  | [] => [c]
  | d :: l => if c < d then c :: d :: l else if c = d then d :: l else d :: insU c l
/-- what is there, ascending, once each -/
def asc (l : List Nat) : List Nat := l.foldr insU []
/-- letters -/
def lets : List T → Option (List Nat)
  | [] => some []
  | .str [c] :: ts => (lets ts).map (c :: ·)
  | _ => none
def lsT (l : List Nat) : List T := l.map fun c => .str [c]
section
variable {X : Cx}
/-- a type's name -/
def tyT : T → Option String
  | .non => some "NoneType"
  | .bl _ => some "bool"
  | .int _ => some "int"
  | .str _ => some "str"
  | .tup _ => some "tuple"
  | .tpu _ => some "tuple"
  | .sq _ => some "list"
  | .lst _ => some "list"
  | _ => none
theorem tyT_ok {K : PySem.W.Frag} {H : Hp} {A : Addr → Prop} {t : T} {v : V} {n : String} (e : tyT t = some n) (r : Rr K H A t v) : TyB K H v n := by
  cases t with
  | non => cases e; cases r.non; exact .non
  | bl b => cases e; cases r.bl; exact .bl b
  | int i => cases e; cases r.int; exact .int i
  | str l => cases e; cases r.str; exact .str _
  | tup l => cases e; obtain ⟨p, vs, rfl, s, _⟩ := r.tup; exact .tup s
  | tpu l => cases e; obtain ⟨p, vs, rfl, s, _⟩ := r.tpu; exact .tup s
  | sq l => cases e; obtain ⟨p, vs, rfl, s, _⟩ := r.sq; exact .lst s
  | lst l => cases e; obtain ⟨p, vs, rfl, s, _⟩ := r.lst; exact .lst (SqL.of s)
  | _ => cases e
def Kq : FA
  | [.str l] => if l.length ≤ big then some (.int l.length, false) else none
  | [t] => match t.row with
    | some (_, l) => some (.int l.length, false)
    | none => none
  | _ => none
theorem Kh : KA X (.builtin "len") Kq := by
  intro H A ts xs t b Q hA r e q
  unfold Kq at e
  split at e
  · split at e
    · rename_i l c
      cases e
      cases r with
      | cons r1 r2 =>
        cases r2
        cases r1.str
        refine c_lenS (by rw [S_len]; have := JO; omega) ?_
        rw [S_len]
        exact q _ H (vE (.int _))
    · cases e
  · rename_i t0 _
    split at e
    · rename_i k l e0
      cases e
      cases r with
      | cons r1 r2 =>
        cases r2
        obtain ⟨p, vs, rfl, sq, rs⟩ := r1.seq e0
        refine c_lenP sq.symm ?_
        rw [← rs.length]
        exact q _ H (vE (.int _))
    · cases e
  · cases e
def Jf : FA
  | [.tup l] => some (.tup l, false)
  | [.lst l] => some (.tup l, false)
  | [.sq l] => some (.tup l, false)
  | _ => none
theorem cv_tuple : KA X (.type "tuple") Jf := by
  intro H A ts xs t b Q hA r e q
  unfold Jf at e
  split at e
  · cases e
    cases r with
    | cons r1 r2 =>
      cases r2
      have rp := r1.rp rfl
      obtain ⟨p, vs, rfl, s, rs⟩ := r1.tup
      exact c_tupleT s (q _ H (vE rp))
  · cases e
    cases r with
    | cons r1 r2 =>
      cases r2
      obtain ⟨p, vs, rfl, s, rs⟩ := r1.lst
      exact c_tupFz (SqL.of s) fun p2 H' hp sm pl => q _ H' (nw_tup sm pl rs)
  · cases e
    cases r with
    | cons r1 r2 =>
      cases r2
      obtain ⟨p, vs, rfl, s, rs⟩ := r1.sq
      exact c_tupFz s fun p2 H' hp sm pl => q _ H' (nw_tup sm pl rs)
  · cases e
def KB : FA
  | [t] => match t.row with
    | some (_, l) => some (.lst l, true)
    | none => none
  | _ => none
def bls : List T → Option (List Bool)
  | [] => some []
  | .bl b :: ts => (bls ts).map (b :: ·)
  | _ => none
theorem bls_ok {K : PySem.W.Frag} {H : Hp} {A : Addr → Prop} {ts : List T} {bs : List Bool} {vs : List V} (h : bls ts = some bs) (r : Rps K H A ts vs) : vs = bs.map V.bl := by
  induction ts generalizing bs vs with
  | nil => cases h; cases r; rfl
  | cons t ts ih =>
    unfold bls at h
    split at h
    · rename_i h'; cases h'
    · rename_i c ts' e1
      cases e1
      cases q : bls ts with
      | none => rw [q] at h; cases h
      | some l' =>
        rw [q] at h
        cases h
        cases r with
        | cons a b => rw [a.bl', ih q b]; rfl
    · cases h
def KJ : FA
  | [.lst l] => (bls l).map fun bs => (.bl (bs.all id), false)
  | _ => none
def Wq : FA
  | [.lst l] => (bls l).map fun bs => (.bl (bs.any id), false)
  | _ => none
theorem KF (hc : X.calm = true) : KA X (.builtin "all") KJ := by
  intro H A ts xs t b Q hA r e q
  unfold KJ at e
  split at e
  · rename_i l
    cases eb : bls l with
    | none => rw [eb] at e; cases e
    | some bs =>
      rw [eb] at e
      cases e
      cases r with
      | cons r1 r2 =>
        cases r2
        obtain ⟨p, vs, rfl, s, rs⟩ := r1.lst
        have := bls_ok eb rs
        subst this
        exact c_all hc (SqL.of s) (q _ H (vE (.bl _)))
  · cases e
theorem cv_any (hc : X.calm = true) : KA X (.builtin "any") Wq := by
  intro H A ts xs t b Q hA r e q
  unfold Wq at e
  split at e
  · rename_i l
    cases eb : bls l with
    | none => rw [eb] at e; cases e
    | some bs =>
      rw [eb] at e
      cases e
      cases r with
      | cons r1 r2 =>
        cases r2
        obtain ⟨p, vs, rfl, s, rs⟩ := r1.lst
        have := bls_ok eb rs
        subst this
        exact c_any hc (SqL.of s) (q _ H (vE (.bl _)))
  · cases e
def Js : FA
  | [.int i] => some (.int i, false)
  | [.bl k] => some (.int (if k then 1 else 0), false)
  | [.str l] => if l.length ≤ 640 then (intText? (S l)).map fun n => (.int n, false) else none
  | _ => none
theorem cv_int : KA X (.type "int") Js := by
  intro H A ts xs t b Q hA r e q
  unfold Js at e
  split at e
  · cases e
    cases r with | cons r1 r2 => cases r2; cases r1.int; exact c_int (q _ H (vE (.int _)))
  · cases e
    cases r with | cons r1 r2 => cases r2; cases r1.bl; exact c_intB (q _ H (vE (.int _)))
  · rename_i l
    split at e
    · rename_i c
      cases ei : intText? (S l) with
      | none => rw [ei] at e; cases e
      | some n =>
        rw [ei] at e
        cases e
        cases r with | cons r1 r2 => cases r2; cases r1.str; exact c_intStr ei c (q _ H (vE (.int _)))
    · cases e
  · cases e
def JC : FA
  | [.int i] => some (.int (if i < 0 then -i else i), false)
  | _ => none
theorem cv_abs : KA X (.builtin "abs") JC := by
  intro H A ts xs t b Q hA r e q
  unfold JC at e
  split at e
  · cases e
    cases r with | cons r1 r2 => cases r2; cases r1.int; exact c_abs (q _ H (vE (.int _)))
  · cases e
def jF : FA
  | [.int i, .int j] => if 0 < j ∧ j < 1073741824 then some (.tpu [.int (i / j), .int (i % j)], false) else none
  | _ => none
theorem cv_divmod : KA X (.builtin "divmod") jF := by
  intro H A ts xs t b Q hA r e q
  unfold jF at e
  split at e
  · split at e
    · rename_i i j c
      cases e
      cases r with
      | cons r1 r2 =>
        cases r2 with
        | cons r2 r3 =>
          cases r3; cases r1.int; cases r2.int
          exact c_divmod c fun p hp => q _ _ (nw_tpu hp (.cons (.int _) (.cons (.int _) .nil)))
    · cases e
  · cases e
def Jz : List T → Option (List Int)
  | [] => some []
  | .int i :: ts => (Jz ts).map (i :: ·)
  | _ => none
theorem nums_ok {K : PySem.W.Frag} {H : Hp} {A : Addr → Prop} {ts : List T} {ns : List Int} {vs : List V} (h : Jz ts = some ns) (r : Rps K H A ts vs) : vs = ns.map V.int := by
  induction ts generalizing ns vs with
  | nil => cases h; cases r; rfl
  | cons t ts ih =>
    unfold Jz at h
    split at h
    · rename_i h'; cases h'
    · rename_i c ts' e1
      cases e1
      cases q : Jz ts with
      | none => rw [q] at h; cases h
      | some l' =>
        rw [q] at h
        cases h
        cases r with
        | cons a b => rw [a.int', ih q b]; rfl
    · cases h
def Ww (le : Int → Int → Bool) : List Int → Option Int
  | [] => none
  | x :: l => match Ww le l with
    | none => some x
    | some y => some (if le x y = true then x else y)
theorem best_min {l : List Int} {m : Int} (hm : m ∈ l) (h : ∀ y, y ∈ l → m ≤ y) : Ww (fun a b => decide (a ≤ b)) l = some m := by
  have key : ∀ l : List Int, l ≠ [] → ∃ k, Ww (fun a b => decide (a ≤ b)) l = some k ∧ k ∈ l ∧ ∀ y, y ∈ l → k ≤ y := by
    intro l hl
    induction l with
    | nil => exact absurd rfl hl
    | cons x l ih =>
      by_cases c : l = []
      · subst c; exact ⟨x, rfl, List.mem_cons_self, fun y hy => by simp at hy; omega⟩
      · obtain ⟨k, e, k1, k2⟩ := ih c
        refine ⟨if decide (x ≤ k) = true then x else k, by simp only [Ww, e], ?_, fun y hy => ?_⟩
        · split
          · exact List.mem_cons_self
          · exact List.mem_cons_of_mem _ k1
        · have d' : k ≤ y ∨ y = x := by
            rcases List.mem_cons.mp hy with z | z
            · exact .inr z
            · exact .inl (k2 y z)
          by_cases dd : x ≤ k
          · simp only [dd, decide_true, if_true]; omega
          · simp only [dd, decide_false]; simp; omega
  obtain ⟨k, e, k1, k2⟩ := key l (fun z => by rw [z] at hm; cases hm)
  rw [e]
  have := k2 m hm
  have := h k k1
  congr 1; omega
theorem best_max {l : List Int} {m : Int} (hm : m ∈ l) (h : ∀ y, y ∈ l → y ≤ m) : Ww (fun a b => decide (b ≤ a)) l = some m := by
  have key : ∀ l : List Int, l ≠ [] → ∃ k, Ww (fun a b => decide (b ≤ a)) l = some k ∧ k ∈ l ∧ ∀ y, y ∈ l → y ≤ k := by
    intro l hl
    induction l with
    | nil => exact absurd rfl hl
    | cons x l ih =>
      by_cases c : l = []
      · subst c; exact ⟨x, rfl, List.mem_cons_self, fun y hy => by simp at hy; omega⟩
      · obtain ⟨k, e, k1, k2⟩ := ih c
        refine ⟨if decide (k ≤ x) = true then x else k, by simp only [Ww, e], ?_, fun y hy => ?_⟩
        · split
          · exact List.mem_cons_self
          · exact List.mem_cons_of_mem _ k1
        · have d' : y ≤ k ∨ y = x := by
            rcases List.mem_cons.mp hy with z | z
            · exact .inr z
            · exact .inl (k2 y z)
          by_cases dd : k ≤ x
          · simp only [dd, decide_true, if_true]; omega
          · simp only [dd, decide_false]; simp; omega
  obtain ⟨k, e, k1, k2⟩ := key l (fun z => by rw [z] at hm; cases hm)
  rw [e]
  have := k2 m hm
  have := h k k1
  congr 1; omega
def KS : FA
  | [.int i, .int j] => some (.int (if j > i then j else i), false)
  | [.lst l] => match Jz l with
    | some ns => (Ww (fun a b => decide (b ≤ a)) ns).map fun m => (.int m, false)
    | none => none
  | _ => none
def KW : FA
  | [.int i, .int j] => some (.int (if j < i then j else i), false)
  | [.lst l] => match Jz l with
    | some ns => (Ww (fun a b => decide (a ≤ b)) ns).map fun m => (.int m, false)
    | none => none
  | _ => none
theorem best_pos {le : Int → Int → Bool} {l : List Int} {m : Int} (h : Ww le l = some m) : 0 < l.length := by
  cases l with
  | nil => cases h
  | cons _ _ => simp
theorem cv_max (hc : X.calm = true) : KA X (.builtin "max") KS := by
  intro H A ts xs t b Q hA r e q
  unfold KS at e
  split at e
  · cases e
    cases r with | cons r1 r2 => cases r2 with | cons r2 r3 => cases r3; cases r1.int; cases r2.int; exact c_max2 hc (q _ H (vE (.int _)))
  · split at e
    · rename_i l ns en
      cases eb : Ww (fun a b => decide (b ≤ a)) ns with
      | none => rw [eb] at e; cases e
      | some m =>
        rw [eb] at e
        cases e
        cases r with
        | cons r1 r2 =>
          cases r2
          obtain ⟨p, vs, rfl, s, rs⟩ := r1.lst
          have := nums_ok en rs
          subst this
          refine ⟨_, cr_max hc, p, ns, rfl, SqL.of s, best_pos eb, fun k h1 h2 => ?_⟩
          have := best_max h1 h2
          rw [eb] at this; cases this
          exact q _ H (vE (.int _))
    · cases e
  · cases e
theorem cv_min (hc : X.calm = true) : KA X (.builtin "min") KW := by
  intro H A ts xs t b Q hA r e q
  unfold KW at e
  split at e
  · cases e
    cases r with | cons r1 r2 => cases r2 with | cons r2 r3 => cases r3; cases r1.int; cases r2.int; exact c_min2 hc (q _ H (vE (.int _)))
  · split at e
    · rename_i l ns en
      cases eb : Ww (fun a b => decide (a ≤ b)) ns with
      | none => rw [eb] at e; cases e
      | some m =>
        rw [eb] at e
        cases e
        cases r with
        | cons r1 r2 =>
          cases r2
          obtain ⟨p, vs, rfl, s, rs⟩ := r1.lst
          have := nums_ok en rs
          subst this
          refine ⟨_, cr_min hc, p, ns, rfl, SqL.of s, best_pos eb, fun k h1 h2 => ?_⟩
          have := best_min h1 h2
          rw [eb] at this; cases this
          exact q _ H (vE (.int _))
    · cases e
  · cases e
def Wx : FA
  | [.lst l] => (Jz l).map fun ns => (.int ns.sum, false)
  | _ => none
def JD : FA
  | [.int a, .int b] => some (.int ((Int.gcd a b : Nat) : Int), false)
  | _ => none
theorem cv_gcd : KA X (.builtin "math.gcd") JD := by
  intro H A ts xs t b Q hA r e q
  unfold JD at e
  split at e
  · cases e
    cases r with | cons r1 r2 => cases r2 with | cons r2 r3 => cases r3; cases r1.int; cases r2.int; exact c_gcd (q _ H (vE (.int _)))
  · cases e
/-- type of what is a dict too -/
def tyD : T → Option String
  | .dct _ => some "dict"
  | t => tyT t
theorem cr_typeD : CallR X (.type "type") (fun xs H Q => ∃ p kvs, xs = [.ref p] ∧ Rd H p (.dK kvs) ∧ Q (.ty "dict") H) := by
  intro pins s σ H xs us Q I r h
  obtain ⟨p, kvs, rfl, hk, q⟩ := h
  rw [Vals.ref1 r]
  obtain ⟨_, za, va, ka, da⟩ := dk_rd I.hok hk
  obtain ⟨o, es, ep, ho, ex, _⟩ := da
  exact call_type_of (Tx := "dict") (x := .ref p) ⟨o, ho, ex.1⟩ (by decide) ⟨.ty "dict", H, I, rfl, q⟩
def wV : FA
  | [t] => (tyD t).map fun n => (.ty n, false)
  | _ => none
theorem cv_type : KA X (.type "type") wV := by
  intro H A ts xs t b Q hA r e q
  unfold wV at e
  split at e
  · rename_i t0
    cases en : tyD t0 with
    | none => rw [en] at e; cases e
    | some n =>
      rw [en] at e
      cases e
      cases r with
      | cons r1 r2 =>
        cases r2
        unfold tyD at en
        split at en
        · cases en
          obtain ⟨p, vs, rfl, rd, rk⟩ := r1.dct
          exact ⟨_, cr_typeD, p, vs, rfl, rd, q _ H (vE (.ty _))⟩
        · exact c_type (tyT_ok en r1) (q _ H (vE (.ty _)))
  · cases e
/-- isinstance(x, T), T a built-in class -/
def Wn : FA
  | [t, .ty n] => match tyT t with
    | some m => (kitB m n).map fun r => (.bl r, false)
    | none => none
  | _ => none
end
end Tr
end F_Tr11
section F_Tr12
set_option Elab.async false
set_option maxRecDepth 100000
set_option maxHeartbeats 4000000
set_option linter.all false
namespace Tr
open PySem PySem.Spec PyProof.Rows L2 LamX Vf
open SX (S)
section
variable {X : Cx} {W : XK} {e a b c o tg it elt : Expr} {es ifs : List Expr} {m ma mb mc mo : M} {mi : MI} {mA : MA} {pos p1 p2 : Pos}
def KO (ma mb mc : M) (f f' : F2) : M := bnd ma fun ta ca => bnd mb fun tb cb => fun ρ => match cb with
  | .va => match f (Jd ca ta ρ) tb with
    | some (.bl true, false) => bnd mc (fun tc _ => fun ρ => Jg (f' tb tc) ρ) ρ
    | some (.bl false, false) => some (.ok (.bl false) .va ρ)
    | _ => none
  | _ => none
theorem chain_fin {op op' : CmpOp} {f f' : F2} (ho : Kw X (compareOp op) f) (ho' : Kw X (compareOp op') f') (ha : SE X W a ma) (hb : SE X W b mb) (hc : SE X W c mc) {ρ : Sls} {σ : L2.St} {H : Hp} {A : Addr → Prop} {r : Ans} {Q : VK} (g : Gd X.K ρ σ H A)
    (er : KO ma mb mc f f' ρ = some r) (f0 : Fin X W ρ σ H A r Q) : wE X a σ H fun x H1 => wE X b σ H1 fun y H2 => oB X (compareOp op) x y H2 fun z H3 => ∃ k, z = .bl k ∧ if k = true then wE X c σ H3 fun v H4 => oB X (compareOp op') y v H4 Q else Q (.bl false) H3 := by
  refine ha.bind g er f0 fun ta ca ρ1 x H1 A1 ek af1 vx => ?_
  have g1 := af1.good
  refine hb.bind g1 ek (f0.go g af1) fun tb cb ρ2 y H2 A2 ek2 af2 vy => ?_
  have g2 := af2.good
  have vx2 := vx.go g1 (fun i p h => g.at_ (af1.shp.at' h)) af2
  have af12 := af1.trans g af2
  cases cb with
  | ow => cases ek2
  | bo i => cases ek2
  | va =>
    have ry : Rp X.K H2 A2 tb y := vy
    simp only at ek2
    cases ef : f (Jd ca ta ρ2) tb with
    | none => rw [ef] at ek2; cases ek2
    | some u =>
      obtain ⟨t, bb⟩ := u
      rw [ef] at ek2
      refine ho H2 A2 _ _ x y t bb _ g2.tr (vx2.rr g2) (.inl ry) ef fun v H3 n => ?_
      cases t with
      | bl k =>
        cases bb with
        | true => cases k <;> cases ek2
        | false =>
          obtain ⟨s, rv⟩ := n
          have rv : Rp X.K H3 A2 (.bl k) v := rv
          refine ⟨k, rv.bl', ?_⟩
          obtain ⟨A3, af3, _⟩ := af12.nw g (t := .bl k) (b := false) (v := v) ⟨s, rv⟩
          have af3' : Aft X.K ρ σ H A ρ2 H3 A2 := by
            refine ⟨af12.sub, af12.new, af12.shp, fun p o n e => s _ _ (af12.keep p o n e), g2.go (Jv s) (fun i p h => ⟨fun z => z, g2.at_ h⟩) fun p h => ?_⟩
            obtain ⟨u, e⟩ := (g2.tr p h).ne
            rw [s p u e, ← e]; exact g2.tr p h
          have g3 := af3'.good
          cases k with
          | false => cases ek2; exact iteF (f0 _ H3 A2 af3' (.bl false))
          | true =>
            refine iteT (hc.bind g3 ek2 (f0.go g af3') fun tc cc ρ4 w H4 A4 ek4 af4 vw => ?_)
            have ry4 : Rp X.K H4 A4 tb y := (ry.go (Jv s)).go (af4.gon g3)
            unfold Jg at ek4
            cases ef2 : f' tb tc with
            | none => rw [ef2] at ek4; cases ek4
            | some u2 =>
              obtain ⟨t2, b2⟩ := u2
              rw [ef2] at ek4
              cases ek4
              refine ho' H4 A4 _ _ y w t2 b2 _ af4.good.tr (.inl ry4) (vw.rr af4.good) ef2 fun v5 H5 n5 => ?_
              obtain ⟨A5, af5, vo5⟩ := (af3'.trans g af4).nw g n5
              exact f0 v5 H5 A5 af5 vo5
      | _ => cases ek2
theorem se_chain {op op' : CmpOp} {f f' : F2} (ho : Kw X (compareOp op) f) (ho' : Kw X (compareOp op') f') (ha : SE X W a ma) (hb : SE X W b mb) (hc : SE X W c mc) (hm : lastMarks [op, op'] [b, c] = false := by rfl) : SE X W (.Compare a [op, op'] [b, c] pos) (KO ma mb mc f f') :=
  fun ρ σ H A r Q g er f0 => e_chain (chain_fin ho ho' ha hb hc g er f0) hm
theorem st_chain {op op' : CmpOp} {f f' : F2} (ho : Kw X (compareOp op) f) (ho' : Kw X (compareOp op') f') (ha : SE X W a ma) (hb : SE X W b mb) (hc : SE X W c mc) (hm : lastMarks [op, op'] [b, c] = false := by rfl) : ST X W (.Compare a [op, op'] [b, c] pos) (KO ma mb mc f f') :=
  fun ρ σ H A r R g er f0 => t_chain (chain_fin ho ho' ha hb hc g er f0.fin) hm
def cutL {α : Type} (l : List α) (lo hi : Option Nat) : List α := ((match hi with | some j => l.take j | none => l).drop (lo.getD 0))
def slT (lo hi : Option Nat) (t : T) : Option (T × Bool) := match t with
  | .str l => if l.length ≤ big ∧ lo.getD 0 ≤ (hi.getD (lo.getD 0)) then (match lo, hi with
    | some _, _ => some (.str (cutL l lo hi), false)
    | none, _ => none) else none
  | .lst l => some (.lst (cutL l lo hi), true)
  | .sq l => some (.lst (cutL l lo hi), true)
  | _ => none
def slM (m : M) (lo hi : Option Nat) : M := bnd m fun t _ => fun ρ => Jg (slT lo hi t) ρ
def txs : List T → Option (List (List Nat))
  | [] => some []
  | .str z :: ts => (txs ts).map (z :: ·)
  | _ => none
def joinT (a t : T) : Option T := match a with
  | .str a => match t.row with
    | some (_, l) => match txs l with
      | some zs => if (zs.map (·.length)).sum + zs.length * a.length ≤ big then some (.str (TL.joinL a zs)) else none
      | none => none
    | none => none
  | _ => none
def joinM (mo m : M) : M := bnd mo fun ta _ => fun ρ => match ta with
  | .str a => bnd m (fun t _ ρ => match joinT (.str a) t with | some u => some (.ok u .va ρ) | none => none) ρ
  | _ => none
def splitT (a b : T) : Option T := match a, b with
  | .str a, .str b => if b ≠ [] ∧ b.all (· < 256) = true ∧ a.length ≤ big then some (.lst ((TL.spl b 0 [] a).map .str)) else none
  | _, _ => none
def splitM (mo m : M) : M := bnd mo fun ta _ => fun ρ => match ta with
  | .str a => bnd m (fun t _ ρ => match splitT (.str a) t with | some u => some (.ok u .ow ρ) | none => none) ρ
  | _ => none
def fmtT : T → Option (List Nat)
  | .str z => if z.length ≤ big then some z else none
  | .int i => if 0 ≤ i ∧ i.natAbs.log2 < 1920 then some (TL.numL i.toNat) else none
  | _ => none
def fmt1 (m : M) : M := bnd m fun t _ ρ => match fmtT t with | some z => some (.ok (.str z) .va ρ) | none => none
end
end Tr
end F_Tr12
section F_StrOwn
set_option Elab.async false
set_option maxRecDepth 100000
set_option maxHeartbeats 4000000
set_option linter.all false
namespace Vf
open PySem PySem.Spec PyProof.Rows L2 LamX
end Vf
end F_StrOwn
section F_OwnCmp
set_option Elab.async false
set_option maxRecDepth 100000
set_option maxHeartbeats 4000000
set_option linter.all false
namespace Vf
open PySem PySem.Spec PyProof.Rows L2 LamX
end Vf
end F_OwnCmp
section F_NeOwn
set_option Elab.async false
set_option maxRecDepth 100000
set_option maxHeartbeats 4000000
set_option linter.all false
namespace Vf
open PySem PySem.Spec PyProof.Rows L2 LamX
end Vf
end F_NeOwn
section F_Tr13
set_option Elab.async false
set_option maxRecDepth 100000
set_option maxHeartbeats 4000000
set_option linter.all false
namespace Tr
open PySem PySem.Spec PyProof.Rows L2 LamX Vf
open SX (S)
theorem Kd {X : Cx} : Takes X fun c d _ H => L2.E0 c d H := fun u s' x => by obtain ⟨_, _, _, _, _, _, _, _, _, _, _, _, _, _, _, _, w⟩ := x; exact w.elim
section
variable {K : PySem.W.Frag} {H : Hp} {A : Addr → Prop}
theorem Rpf.get {fs : List (Str × T)} {vs : List (Str × V)} (r : Rpf K H A fs vs) {f : Str} {t : T} (e : fs.lookup f = some t) : ∃ v, vs.lookup f = some v ∧ Rp K H A t v := by
  induction fs generalizing vs with
  | nil => cases e
  | cons x fs ih =>
    cases r with
    | @cons k t' v' ts' vs' a b =>
      rw [List.lookup_cons] at e ⊢
      split at e
      · rename_i c; cases e; exact ⟨v', rfl, a⟩
      · rename_i c; obtain ⟨v, e2, r2⟩ := ih b e; exact ⟨v, e2, r2⟩
theorem Rr.obj {C : Addr} {fs : List (Str × T)} {v : V} (h : Rr K H A (.obj C fs) v) : ∃ a dx vs, v = .ref a ∧ H a = some (.ins C dx vs) ∧ Rpf K H A fs vs := by
  have h := h.rp rfl
  cases h with | obj a b => exact ⟨_, _, _, rfl, a, b⟩
end
section
variable {X : Cx} {W : XK} {e a b c o tg it elt : Expr} {es ifs : List Expr} {m ma mb mc mo : M} {mi : MI} {mA : MA} {pos p1 p2 : Pos} {C : Addr} {f : Str} {k : Nat}
def fldM (C : Addr) (f : Str) (m : M) : M := bnd m fun t _ ρ => match t with
  | .obj C' fs => if C' = C then match fs.lookup f with
    | some u => some (.ok u .va ρ)
    | none => none
    else none
  | _ => none
/-- o.p, p a property -/
def Wo (C : Addr) (m : M) (mf : MF) : M := bnd m fun t _ ρ => match t with
  | .obj C' fs => if C' = C then match mf [.obj C' fs] with
    | some (.ok u b) => some (.ok u (Jr b) ρ)
    | _ => none
    else none
  | _ => none
def JA (ρ : Sls) : Option OutF → Option Ans
  | some (.ok t b) => some (.ok t (Jr b) ρ)
  | some (.er x) => some (.er x)
  | none => none
def methM (C : Addr) (nm : Str) (mo : M) (mA : MA) (mf : MF) : M := bnd mo fun t _ => match t with
  | .obj C' fs => if C' = C ∧ fs.lookup nm = none then Km mA fun ts ρ => if jo ts = true then JA ρ (mf (.obj C' fs :: ts.map (·.1))) else none
    else fun _ => none
  | _ => fun _ => none
def makeM (mA : MA) (mf : MF) : M := Km mA fun ts ρ => if jo ts = true then match mf (ts.map (·.1)) with
    | some (.ok t _) => some (.ok t .va ρ)
    | some (.er x) => some (.er x)
    | none => none
  else none
/-- of an object: by its class's __eq__ -/
def eqB (mf : MF) (a b : T) : Option (T × Bool) := match mf [a, b] with
  | some (.ok (.bl k) false) => some (.bl k, false)
  | _ => none
def eqO (C : Addr) (mf : MF) : F2 := fun a b => match a with
  | .obj C' fs => if C' = C then match b with
      | .obj C'' gs => if C'' = C then eqB mf (.obj C' fs) (.obj C'' gs) else none
      | b => match tyT b with
        | some _ => if b.ld = true then none else eqB mf (.obj C' fs) b
        | none => none
    else none
  | a => fEq a b
/-- != of two of the class -/
def neO (C : Addr) (mf : MF) : F2 := fun a b => match a with
  | .obj C' fs => match b with
      | .obj C'' gs => if C' = C ∧ C'' = C then (match mf [.obj C' fs, .obj C'' gs] with
        | some (.ok (.bl k) false) => some (.bl (!k), false)
        | _ => none) else none
      | _ => none
  | a => fNe a b
/-- type(x), also of an object -/
def kD (C : Addr) : FA
  | [.obj C' _] => if C' = C then some (.cst C, false) else none
  | ts => wV ts
/-- type(x) is C -/
def isC (a b : T) : Option Bool := match a, b with
  | .cst a, .cst b => if a = b then some true else none
  | .ty _, .cst _ => some false
  | .ty a, .ty b => some (a == b)
  | _, _ => none
def fIsC : F2 := fun a b => (isC a b).map fun c => (.bl c, false)
def fIsNotC : F2 := fun a b => (isC a b).map fun c => (.bl (!c), false)
theorem op_isTyRef : OpR X (compareOp .Is) (fun x y H Q => ∃ T C, x = .ty T ∧ y = .ref C ∧ Q (.bl false) H) := by
  intro pins s σ H x y v u Q I rx ry h
  obtain ⟨T, C, rfl, rfl, q⟩ := h
  cases (show v = Value.type T from rx)
  cases (show u = Value.ref C from ry)
  exact wpAny_pure ⟨.bl false, H, I, rfl, q⟩
theorem beq_tys (T U : String) : (Value.type T == Value.type U) = (T == U) := by
  by_cases h : T = U
  · subst h; simp
  · rw [beq_eq_false_iff_ne.mpr h]
    exact beq_eq_false_iff_ne.mpr fun e => h (by injection e)
theorem op_isTyTy : OpR X (compareOp .Is) (fun x y H Q => ∃ T U, x = .ty T ∧ y = .ty U ∧ Q (.bl (T == U)) H) := by
  intro pins s σ H x y v u Q I rx ry h
  obtain ⟨T, U, rfl, rfl, q⟩ := h
  cases (show v = Value.type T from rx)
  cases (show u = Value.type U from ry)
  exact wpAny_pure ⟨.bl (T == U), H, I, congrArg Value.bool (beq_tys T U), q⟩
theorem bin_isC : Kw X (compareOp .Is) fIsC := by
  intro H A ta tb x y t b Q hA rx ry e q
  unfold fIsC at e
  cases h : isC ta tb with
  | none => rw [h] at e; cases e
  | some c =>
    rw [h] at e
    cases e
    unfold isC at h
    split at h
    · split at h
      · rename_i ec
        subst ec
        cases h; cases rx.cst; cases ry.cst
        exact ⟨_, op_is_cls, _, _, rfl, rfl, .inl rfl, by rw [decide_eq_true rfl]; exact q _ H (vE (.bl _))⟩
      · cases h
    · cases h; cases rx.ty; cases ry.cst
      exact ⟨_, op_isTyRef, _, _, rfl, rfl, q _ H (vE (.bl _))⟩
    · cases h; cases rx.ty; cases ry.ty
      exact ⟨_, op_isTyTy, _, _, rfl, rfl, q _ H (vE (.bl _))⟩
    · cases h
end
end Tr
end F_Tr13
section F_Tr14
set_option Elab.async false
set_option maxRecDepth 100000
set_option maxHeartbeats 4000000
set_option linter.all false
namespace Tr
open PySem PySem.Spec PyProof.Rows L2 LamX Vf
open SX (S)
theorem _root_.L2.Room.units1 {k : Nat} {A : Around} (r : Room k A) : A.units + 1 < cLine := by have := r.un; omega
/-- so many turns -/
def lots : Nat := 10 ^ 60
/-- a constant tuple of the module -/
def GT (K : PySem.W.Frag) (mg : Str → Option Value) (x : Str) (l : List T) : Prop := ∃ a vs, mg x = some (.ref a) ∧ (∀ H, SqT K H a vs) ∧ ∀ H A, Rps K H A l vs
section
variable {X : Cx} {W : XK} {e a b c o tg it elt i : Expr} {es ifs : List Expr} {m ma mb mc mo : M} {mi : MI} {mA : MA} {pos p1 p2 p3 : Pos} {C : Addr} {f : Str} {k : Nat}
theorem se_globT {x : Str} {l : List T} (hg : Gl X x) (h : GT X.K X.mg x l) (hd : (x == ("__debug__" : Str)) = false := by decide) : SE X W (.Name x pos) (ret (.tpu l)) := by
  obtain ⟨a, vs, e1, e2, e3⟩ := h
  exact .ret (v := .ref a) (fun _ _ _ q => e_glob (v := .ref a) hg e1 rfl q hd) fun H A => .tpu (e2 H) (e3 H A)
def inDM (mi mo : M) : M := bnd mi fun ti _ => bnd mo fun td _ => fun ρ => match td with
  | .dct l => match Jh ti with
    | some k => some (.ok (.bl (Wb l k).isSome) .va ρ)
    | none => none
  | _ => none
def notinDM (mi mo : M) : M := bnd mi fun ti _ => bnd mo fun td _ => fun ρ => match td with
  | .dct l => match Jh ti with
    | some k => some (.ok (.bl (!(Wb l k).isSome)) .va ρ)
    | none => none
  | _ => none
theorem dget_of {K : PySem.W.Frag} {H : Hp} {A : Addr → Prop} {l : List (Key × T)} {vs : List (Key × V)} {p : Addr} {k : Key} (e : Rd H p (.dK vs)) (r : Rpk K H A l vs) : ∃ o, DGet H p (kV k) o ∧ o.isSome = (Wb l k).isSome ∧ ∀ t, Wb l k = some t → ∃ v, o = some v ∧ Rp K H A t v := by
  have q := r.getK k
  refine ⟨valV vs k, .inl ⟨vs, k, e, rfl, rfl⟩, ?_, fun t ht => ?_⟩
  · cases h : Wb l k with
    | none => rw [h] at q; rw [q]; rfl
    | some t => rw [h] at q; obtain ⟨v, e, _⟩ := q; rw [e]; rfl
  · rw [ht] at q; exact q
theorem se_inD (hu : X.A.units + 1 < cLine) (hi : SE X W i ma) (ho : SE X W o mo) (hm : behindInMarks .In o = false := by rfl) : SE X W (.Compare i [.In] [o] pos) (inDM ma mo) := by
  intro ρ σ H A r Q g er f0
  refine e_inD hu (hi.bind g er f0 fun ti ci ρ1 y H1 A1 ek af1 vy => ?_) hm
  have g1 := af1.good
  refine ho.bind g1 ek (f0.go g af1) fun td cd ρ2 x H2 A2 ek2 af2 vx => ?_
  cases td with
  | dct l =>
    simp only at ek2
    cases ek3 : Jh ti with
    | none => rw [ek3] at ek2; cases ek2
    | some k =>
      rw [ek3] at ek2
      cases ek2
      obtain ⟨p, vs, rfl, e1, rk⟩ := (vx.rr af2.good).dct
      have hy := keyT_v ek3 (vy.rr g1)
      subst hy
      obtain ⟨o, d, e2, _⟩ := dget_of (k := k) e1 rk
      exact ⟨p, o, rfl, d, by rw [e2]; exact f0 _ H2 A2 (af1.trans g af2) (.bl _)⟩
  | _ => cases ek2
theorem st_notinD (hu : X.A.units + 1 < cLine) (hi : SE X W i ma) (ho : SE X W o mo) (hm : behindInMarks .NotIn o = false := by rfl) : ST X W (.Compare i [.NotIn] [o] pos) (notinDM ma mo) := by
  intro ρ σ H A r R g er f0
  have f1 := f0.fin
  refine t_notinD hu (hi.bind g er f1 fun ti ci ρ1 y H1 A1 ek af1 vy => ?_) hm
  have g1 := af1.good
  refine ho.bind g1 ek (f1.go g af1) fun td cd ρ2 x H2 A2 ek2 af2 vx => ?_
  cases td with
  | dct l =>
    simp only at ek2
    cases ek3 : Jh ti with
    | none => rw [ek3] at ek2; cases ek2
    | some k =>
      rw [ek3] at ek2
      cases ek2
      obtain ⟨p, vs, rfl, e1, rk⟩ := (vx.rr af2.good).dct
      have hy := keyT_v ek3 (vy.rr g1)
      subst hy
      obtain ⟨o, d, e2, _⟩ := dget_of (k := k) e1 rk
      exact ⟨p, o, rfl, d, by rw [e2]; exact ⟨_, rfl, f0 H2 A2 (af1.trans g af2)⟩⟩
  | _ => cases ek2
def Kn (mo mi : M) : M := bnd mo fun td cd => bnd mi fun ti _ => fun ρ => match Jd cd td ρ with
  | .dct l => match Jh ti with
    | some k => match Wb l k with
      | some t => some (.ok t .va ρ)
      | none => none
    | none => none
  | _ => none
theorem e_dget' {σ : L2.St} {H : Hp} {Q : VK} (hu : X.A.units + 1 < cLine) (h : wE X o σ H fun x H1 => wE X i σ H1 fun y H2 => ∃ a v, x = .ref a ∧ DGet H2 a y (some v) ∧ Q v H2) (hs : NoSl i := by exact fun _ _ => rfl) : wE X (.Subscript o i pos) σ H Q := ⟨_, pe_dget hu pE pE hs, h⟩
theorem se_dget (hu : X.A.units + 1 < cLine) (ho : SE X W o mo) (hi : SE X W i ma) (hs : NoSl i := by exact fun _ _ => rfl) : SE X W (.Subscript o i pos) (Kn mo ma) := by
  intro ρ σ H A r Q g er f0
  refine e_dget' hu (ho.bind g er f0 fun td cd ρ1 x H1 A1 ek af1 vx => ?_) hs
  have g1 := af1.good
  refine hi.bind g1 ek (f0.go g af1) fun ti ci ρ2 y H2 A2 ek2 af2 vy => ?_
  have vx2 := vx.go g1 (fun i p h => g.at_ (af1.shp.at' h)) af2
  have rx := vx2.rr af2.good
  cases er2 : Jd cd td ρ2 with
  | dct l =>
    rw [er2] at ek2 rx
    simp only at ek2
    cases ek3 : Jh ti with
    | none => rw [ek3] at ek2; cases ek2
    | some k =>
      rw [ek3] at ek2
      simp only at ek2
      cases ek4 : Wb l k with
      | none => rw [ek4] at ek2; cases ek2
      | some t =>
        rw [ek4] at ek2
        cases ek2
        obtain ⟨p, vs, rfl, e1, rk⟩ := rx.dct
        have hy := keyT_v ek3 (vy.rr af2.good)
        subst hy
        obtain ⟨o, d, _, e2⟩ := dget_of (k := k) e1 rk
        obtain ⟨v, rfl, rv⟩ := e2 t ek4
        exact ⟨p, v, rfl, d, f0 v H2 A2 (af1.trans g af2) rv⟩
  | _ => rw [er2] at ek2; cases ek2
def ascM (m : M) : M := bnd m fun t _ ρ => match t with
  | .lst l => match lets l with
    | some cs => if cs.length < 64 then some (.ok (.lst (lsT (asc cs))) .ow ρ) else none
    | none => none
  | _ => none
def partT (a b : T) : Option T := match a, b with
  | .str a, .str b => if b ≠ [] ∧ a.length ≤ big then
      some (.tpu [.str (Txt.partition (S a) (S b)).1.cps.toList, .str (Txt.partition (S a) (S b)).2.1.cps.toList, .str (Txt.partition (S a) (S b)).2.2.cps.toList]) else none
  | _, _ => none
def partitionM (mo m : M) : M := bnd mo fun ta _ => fun ρ => match ta with
  | .str a => bnd m (fun t _ ρ => match partT (.str a) t with | some u => some (.ok u .va ρ) | none => none) ρ
  | _ => none
def WB (i j : Nat) (mA : MA) : MS := fun ρ => match mA ρ with
  | some (.ok [(t, c), (u, d)] ρ1) => if c.free = true ∧ d.free = true then match jB false i t .va ρ1 with
      | some ρ2 => match jB false j u .va ρ2 with
        | some ρ3 => some (.nx ρ3)
        | none => none
      | none => none
    else none
  | some (.er x) => some (.er x)
  | _ => none
theorem ss_par {i j : Nat} {x y : Str} {px py pt : Pos} {kt k2 : Nat} {pt2 : Pos} (h : SA X W [a, b] mA) (hN : X.N.Nodup) (hi : X.N[i]? = some x) (hj : X.N[j]? = some y) (hij : i ≠ j)
    (hx : X.env.scope.names.lookup x = some .local) (hy : X.env.scope.names.lookup y = some .local) (hc : X.calm = true := by rfl)
    (hw : swappedStores [.Tuple [.Name x px, .Name y py] kt pt] (.Tuple [a, b] k2 pt2) X.env = pure (some [x, y]) := by rfl)
    (hs : swapsWithSole [.Tuple [.Name x px, .Name y py] kt pt] (.Tuple [a, b] k2 pt2) pos.line X.env = pure false := by rfl) : SS X W (.Assign [.Tuple [.Name x px, .Name y py] kt pt] (.Tuple [a, b] k2 pt2) pos) (WB i j mA) := by
  intro ρ σ H A r D g er f0
  refine s_par ?_ hN hi hj hij hx hy hc hw hs
  unfold WB at er
  split at er
  · rename_i t c u d ρ1 em
    refine h ρ σ H A _ _ g em fun vs H1 A1 af vo => ?_
    cases vo with
    | @cons _ _ v1 _ _ o1 vo =>
    cases vo with
    | @cons _ _ v2 _ _ o2 vo =>
    cases vo
    refine ⟨v1, v2, rfl, ?_⟩
    split at er
    · rename_i cc
      have af' := af.less g
      have r1 := o1.fz af.sub cc.1
      have r2 := o2.fz af.sub cc.2
      split at er
      · rename_i ρ2 e1
        split at er
        · rename_i ρ3 e2
          cases er
          obtain ⟨nl, z0, ⟨_, rfl⟩ | ⟨z, _⟩⟩ := setG_inv e1
          · obtain ⟨nl2, z02, ⟨_, rfl⟩ | ⟨z, _⟩⟩ := setG_inv e2
            · have ru := (af'.run g).set af'.good (s' := .va t) (i := i) (v := v1) ⟨v1, rfl, r1⟩ (fun z => by cases z) z0
              have ru2 := ru.set ru.good (s' := .va u) (i := j) (v := v2) ⟨v2, rfl, r2⟩ (fun z => by cases z) z02
              exact f0 _ _ _ ru2 ((af'.shp.lok.set nl).set nl2)
            · cases z
          · cases z
        · cases er
      · cases er
    · cases er
  · rename_i x em; cases er; exact h ρ σ H A _ _ g em f0.err
  · cases er
def lockS (i : Nat) (ms : MS) : MS := fun ρ => match ρ[i]? with
  | some (.ow t) => if i = 0 then none else match ms (ρ.set i (.lk t)) with
    | some (.nx ρ') => some (.nx (ρ'.set i (.ow t)))
    | some (.bk ρ') => some (.bk (ρ'.set i (.ow t)))
    | some (.ct ρ') => some (.ct (ρ'.set i (.ow t)))
    | r => r
  | _ => ms ρ
end
end Tr
end F_Tr14
section F_TrFx
set_option Elab.async false
set_option maxRecDepth 100000
set_option maxHeartbeats 4000000
set_option linter.all false
namespace Tr
open PySem PySem.Spec PyProof.Rows L2 LamX Vf
open SX (S)
/-- names of built-ins that stay built-in -/
structure Bn (mg : Str → Option Value) : Prop where
  int : mg "int" = none
  len : mg "len" = none
  abs : mg "abs" = none
  divmod : mg "divmod" = none
  range : mg "range" = none
  sorted : mg "sorted" = none
  set : mg "set" = none
  tuple : mg "tuple" = none
  list : mg "list" = none
  type : mg "type" = none
  str : mg "str" = none
  all : mg "all" = none
  any : mg "any" = none
  max : mg "max" = none
  min : mg "min" = none
  sum : mg "sum" = none
  repr : mg "repr" = none
  isinstance : mg "isinstance" = none
  dict : mg "dict" = none
  bool : mg "bool" = none
  zip : mg "zip" = none
  enumerate : mg "enumerate" = none
end Tr
end F_TrFx
section F_Tr15
set_option Elab.async false
set_option maxRecDepth 100000
set_option maxHeartbeats 4000000
set_option linter.all false
namespace Tr
open PySem PySem.Spec PyProof.Rows L2 LamX Vf
open SX (S)
def dcpM (g : MG) (mt mk me : M) (vs : List Nat) : List T → List (Key × T) → Sls → Option (List (Key × T) × Sls)
  | [], acc, ρ => some (acc, ρ)
  | x :: xs, acc, ρ => match g x .va (jk ρ vs) with
    | none => none
    | some ρ1 => match mt ρ1 with
      | some (.ok (.bl true) _ ρ2) => match mk ρ2 with
        | some (.ok k _ ρ4) => match me ρ4 with
          | some (.ok t c ρ5) => if c.free = true ∧ acc.length ≤ big then match Jh k with
            | some k => dcpM g mt mk me vs xs (WA acc k t) ρ5
            | none => none
            else none
          | _ => none
        | _ => none
      | some (.ok (.bl false) _ ρ2) => dcpM g mt mk me vs xs acc ρ2
      | _ => none
def dcM (mi : MI) (g : MG) (mt mk me : M) (vs : List Nat) : M := fun ρ => match mi ρ with
  | some (.ok l ρ1) => match dcpM g mt mk me vs l [] ρ1 with
    | some (acc, ρ2) => some (.ok (.dct acc) .ow (backR ρ1 ρ2 vs))
    | none => none
  | some (.er x) => some (.er x)
  | none => none
section
variable {X : Cx} {W : XK} {e a b c o tg it elt i : Expr} {es ifs : List Expr} {m ma mb mc me mt mo : M} {mi : MI} {mA : MA} {pos p1 p2 p3 : Pos} {C : Addr} {f : Str} {k : Nat} {U : List Nat} {g : MG} {scope : Scope} {vs : List Nat}
theorem tdc_ok {ke : Expr} {mk : M} (hi : SI X W tg it mi) (hg : BG X scope (some U) tg g) (ht : BT X scope ifs mt) (hk : BE X scope ke mk) (he : BE X scope elt me) (hU : ∀ i ∈ U, i ∈ vs) {ρ : Sls} {σ : L2.St} {H : Hp} {A : Addr → Prop} {r : Ans} {Q : VK} (g0 : Gd X.K ρ σ H A)
    (er : dcM mi g mt mk me vs ρ = some r) (f : Fin X W ρ σ H A r Q) : tDc (wI X tg it) (bG X scope tg) (bT X scope ifs) (bE X scope ke) (bE X scope elt) vs σ H Q := by
  unfold tDc
  unfold dcM at er
  cases em : mi ρ with
  | none => rw [em] at er; cases er
  | some u =>
  rw [em] at er
  cases u with
  | er x => cases er; exact hi ρ σ H A _ _ g0 em f
  | ok l ρ1 =>
  simp only at er
  refine hi ρ σ H A _ _ g0 em fun J H1 A1 af src => ?_
  intro D hD
  cases ec : dcpM g mt mk me vs l [] ρ1 with
  | none => rw [ec] at er; cases er
  | some fin =>
  obtain ⟨accF, ρF⟩ := fin
  rw [ec] at er
  cases er
  have g1 := af.good
  have gw : Gd X.K (jk ρ1 vs) (wipe σ vs) H1 A1 := g1.wipe (fun _ _ => rfl) rfl
  have prvw : ∀ p, Prv (jk ρ1 vs) (wipe σ vs) p → Prv ρ1 σ p := fun p ⟨i, t, e1, e2⟩ => by
    have := (Kc (i := i) (p := p) ⟨_, e1, rfl, e2⟩).1
    rw [wu this] at e1
    rw [vG this] at e2
    exact ⟨i, t, e1, e2⟩
  -- what holds between two turns
  let Pv : Nat → Hp → Prop := fun i H' => ∃ ρi Ai acc xs, dcpM g mt mk me vs (l.drop i) acc ρi = some (accF, ρF) ∧ ρi.length = ρ1.length ∧ Aft X.K (jk ρ1 vs) (wipe σ vs) H1 A1 (jk ρi vs) H' Ai ∧ Ai D ∧ H' D = some (.dK xs) ∧ Rpk X.K H' Ai acc xs
  refine ⟨fun i n H' => n = l.length - i ∧ i ≤ l.length ∧ Pv i H', ⟨_, rfl, Nat.zero_le _, ρ1, Pl A1 D, [], [], by simpa using ec, rfl, ?_, .inr rfl, upd_same, .nil⟩, ?_⟩
  · refine ⟨fun a h => .inl h, fun a h => h.imp id fun z => by rw [z]; exact hD, .refl, fun a o n e => Jb hD a o e, gw.go (gon_newP hD) (fun i p h => ⟨fun z => z, .inl (gw.at_ h)⟩) fun p h => ?_⟩
    rcases h with h | rfl
    · obtain ⟨u, e⟩ := (gw.tr p h).ne
      rw [Jb hD p u e, ← e]
      exact gw.tr p h
    · rw [upd_same]; trivial
  · rintro i n H' ⟨rfl, hil, ρi, Ai, acc, xs, e2, len, aw, aD, eD, rs⟩
    have gi := aw.good
    have gon1 : Gon (Prv ρ1 σ) A1 Ai H1 H' := ⟨fun a o n e => aw.keep a o (fun z => n (prvw a z)) e, fun p h => ⟨g1.prv h, g1.tr _ (g1.prv h)⟩, aw.new⟩
    obtain ⟨stop, go⟩ := src H' Ai (gon1.wr g1 af.sub)
    rcases Nat.lt_or_ge i l.length with lt | ge
    · have dr : l.drop i = l[i] :: l.drop (i + 1) := List.drop_eq_getElem_cons lt
      rw [dr] at e2
      obtain ⟨go, yld⟩ := go i l[i] (List.getElem?_eq_getElem lt)
      refine .inr ⟨go, Pv (i + 1), fun H2 p2 => ⟨_, by omega, rfl, lt, p2⟩, ?_⟩
      intro x H'' y
      obtain ⟨sm, rx⟩ := yld x H'' y
      -- the walk's new things
      have aw2 : Aft X.K (jk ρ1 vs) (wipe σ vs) H1 A1 (jk ρi vs) H'' Ai := ⟨aw.sub, aw.new, aw.shp, fun a o n e => sm _ _ (aw.keep a o n e), gi.go (Jv sm) (fun i p h => ⟨fun z => z, gi.at_ h⟩) fun a h => by
        obtain ⟨u, e⟩ := (gi.tr a h).ne
        rw [sm a u e, ← e]; exact gi.tr a h⟩
      have rs2 := rs.go (Jv (A := Ai) sm)
      have eD2 := sm _ _ eD
      have g2 := aw2.good
      unfold dcpM at e2
      cases e3 : g l[i] .va (jk ρi vs) with
      | none => rw [e3] at e2; cases e2
      | some ρ2 =>
      rw [e3] at e2
      simp only at e2
      -- D is no slot's
      have nD : ∀ j, ¬ At (jk ρi vs) (wipe σ vs) j D := fun j z => by
        obtain ⟨u, e⟩ := (gw.tr D (gw.at_ (aw.shp.at' z))).ne
        rw [hD] at e; cases e
      have nP : ¬ Prv (jk ρi vs) (wipe σ vs) D := fun z => let ⟨j, z⟩ := z.at; nD j z
      intro s0 H0 C cl fp
      refine hg s0 H0 C cl fp (jk ρi vs) (wipe σ vs) H'' Ai (jk ρi vs) (wipe σ vs) H'' Ai l[i] .va x ρ2 _ g2 (.refl g2) rx e3 fun σ2 H2 A2 ru2 _ oth _ => ?_
      have oth := oth U rfl
      refine ⟨?_, ?_⟩
      · have := Kl (σ := wipe σ vs) (σ' := σ2) (vs := vs) ru2.len fun i h => (oth i fun z => h (hU i z)).1
        rw [this, Kl (σ' := wipe σ vs) (σ := σ) (by rw [wipe_length]) fun i h => vG h]
      -- a later place of the turn, wiped
      have wiped : ∀ ρ3 H3 A3, Run X.K (jk ρi vs) (wipe σ vs) H'' Ai ρ3 σ2 H3 A3 → Shp ρ2 ρ3 → ρ3.length = ρ1.length ∧ Aft X.K (jk ρ1 vs) (wipe σ vs) H1 A1 (jk ρ3 vs) H3 A3 ∧ H3 D = some (.dK xs) ∧ Rpk X.K H3 A3 acc xs ∧ A3 D := by
        intro ρ3 H3 A3 r3 sh
        have l3 : ρ3.length = ρi.length := by rw [r3.good.len, r3.len, wipe_length, ← wipe_length σ vs, ← g2.len, wH]
        have w3 := Run.wiped (ρ := ρi) (ρ' := ρ3) g2 r3 (fun i h => (oth i fun z => h (hU i z)).1) (fun i s h e => by
          have q := (oth i fun z => h (hU i z)).2
          rw [e] at q
          exact sh.2 i s q) l3
        exact ⟨l3.trans len, aw2.trans gw w3, r3.keep D _ nP eD2, rs2.go (r3.gon g2), w3.sub D aD⟩
      intro s0 H0 C cl fp
      -- the element
      have elem : ∀ ρ3 H3 A3, Run X.K (jk ρi vs) (wipe σ vs) H'' Ai ρ3 σ2 H3 A3 → Shp ρ2 ρ3 → (match mk ρ3 with
          | some (.ok k _ ρ4) => match me ρ4 with
            | some (.ok t c ρ5) => if c.free = true ∧ acc.length ≤ big then match Jh k with
              | some k => dcpM g mt mk me vs (l.drop (i + 1)) (WA acc k t) ρ5
              | none => none
              else none
            | _ => none
          | _ => none) = some (accF, ρF) → bE X scope ke σ2 H3 fun y H4 => bE X scope elt σ2 H4 fun z H5 => ∃ kvs k, y = kV k ∧ H5 D = some (.dK kvs) ∧ kvs.length < sizeLine ∧ Pv (i + 1) (upd H5 D (.dK (putK kvs k z))) := by
        intro ρ3 H3 A3 r3 sh e4 s0 H0 C cl fp
        cases e5 : mk ρ3 with
        | none => rw [e5] at e4; cases e4
        | some u =>
        rw [e5] at e4
        cases u with
        | er x => cases e4
        | ok kt c ρ4 =>
        simp only at e4
        refine hk s0 H0 C cl fp ρ3 σ2 H3 A3 _ _ r3.good e5 fun y H4 A4 af4 vy => ?_
        intro s0 H0 C cl fp
        have r4 : Run X.K (jk ρi vs) (wipe σ vs) H'' Ai ρ4 σ2 H4 A4 := r3.trans g2 (af4.run r3.good)
        have ry := vy.rr af4.good
        cases e6 : me ρ4 with
        | none => rw [e6] at e4; cases e4
        | some u2 =>
        rw [e6] at e4
        cases u2 with
        | er x => cases e4
        | ok t c2 ρ5 =>
        simp only at e4
        split at e4
        · rename_i cc
          cases ek : Jh kt with
          | none => rw [ek] at e4; cases e4
          | some k =>
          rw [ek] at e4
          have hy := keyT_v ek ry
          subst hy
          refine he s0 H0 C cl fp ρ4 σ2 H4 A4 _ _ r4.good e6 fun z H5 A5 af5 vo => ?_
          have r5 : Run X.K (jk ρi vs) (wipe σ vs) H'' Ai ρ5 σ2 H5 A4 := r4.trans g2 ((af5.less r4.good).run r4.good)
          obtain ⟨l4, w4, eD4, rs4, aD4⟩ := wiped ρ5 H5 A4 r5 ((sh.trans af4.shp).trans af5.shp)
          have rv : Rp X.K H5 A4 t z := vo.fz af5.sub cc.1
          refine ⟨xs, k, rfl, eD4, by have := JO; rw [← rs4.length]; omega, ρ5, A4, WA acc k t, putK xs k z, e4, l4, w4.upd gw hD aD4 trivial, aD4, upd_same, ?_⟩
          exact (rs4.put rv).go (gon_wr aD4 (by rw [eD4]; trivial))
        · cases e4
      cases ifs with
      | nil =>
        have em : mt = fun ρ => some (.ok (.bl true) .va ρ) := ht s0 H0 C cl fp
        subst em
        simp only at e2
        exact ts_nil (iteT (elem ρ2 H2 A2 ru2 .refl e2))
      | cons c cs =>
        cases cs with
        | cons d ds => exact (ht s0 H0 C cl fp).elim
        | nil =>
          have ht : ST _ E0 c mt := ht s0 H0 C cl fp
          cases e4 : mt ρ2 with
          | none => rw [e4] at e2; cases e2
          | some u =>
          rw [e4] at e2
          cases u with
          | er x => cases e2
          | ok t cc ρ3 =>
          cases t with
          | bl b =>
            refine ts_one (ht ρ2 σ2 H2 A2 _ _ ru2.good e4 fun H3 A3 af3 => ?_)
            have r3 := ru2.trans g2 (af3.run ru2.good)
            cases b with
            | true => exact iteT (elem ρ3 H3 A3 r3 af3.shp e2)
            | false =>
              refine iteF ?_
              obtain ⟨l4, w4, eD4, rs4, aD4⟩ := wiped ρ3 H3 A3 r3 af3.shp
              exact ⟨ρ3, A3, acc, xs, e2, l4, w4, aD4, eD4, rs4⟩
          | _ => cases e2
    · obtain rfl : i = l.length := by omega
      rw [List.drop_length] at e2
      cases e2
      refine .inl ⟨stop, ?_⟩
      have lb : ρF.length = ρ1.length := len
      -- the slots as outside
      have sh : Shp ρ1 (backR ρ1 ρF vs) := by
        refine ⟨by rw [Jt, lb], fun j s e => ?_⟩
        by_cases c : j ∈ vs
        · exact ⟨s, by rw [backR_in c lb]; exact e, by cases s <;> first | rfl | exact ⟨_, rfl⟩⟩
        · obtain ⟨s', e', q⟩ := aw.shp.2 j s (by rw [wu c]; exact e)
          rw [wu c] at e'
          exact ⟨s', by rw [JS c]; exact e', q⟩
      have gb : Gd X.K (backR ρ1 ρF vs) σ H' Ai := by
        refine ⟨gi.tr, fun j s e => ?_, fun j k p h1 h2 => g1.dj j k p (sh.at' h1) (sh.at' h2), by rw [Jt, lb]; exact g1.len⟩
        by_cases c : j ∈ vs
        · rw [backR_in c lb] at e
          have q := g1.sl j s e
          have gn : Gon (Prv (jk ρ1 vs) (wipe σ vs)) A1 Ai H1 H' := aw.gon gw
          have off : ∀ p, At ρ1 σ j p → ¬ Prv (jk ρ1 vs) (wipe σ vs) p := fun p h z => by
            obtain ⟨k, z⟩ := z.at
            have := Kc z
            exact this.1 (by rw [← g1.dj j k p h this.2]; exact c)
          cases s with
          | no => trivial
          | kd l => exact We gn q
          | va t => obtain ⟨v, e2, r⟩ := q; exact ⟨v, e2, r.go gn⟩
          | ow t => obtain ⟨p, e2, h, r⟩ := q; exact ⟨p, e2, aw.sub p h, r.go gn (off p ⟨_, e, rfl, e2⟩)⟩
          | lk t => obtain ⟨p, e2, h, r⟩ := q; exact ⟨p, e2, aw.sub p h, r.go gn (off p ⟨_, e, rfl, e2⟩)⟩
        · rw [JS c] at e
          have := gi.sl j s (by rw [wu c]; exact e)
          rw [vG c] at this
          exact this
      have a2 : Aft X.K ρ1 σ H1 A1 (backR ρ1 ρF vs) H' Ai := ⟨aw.sub, aw.new, sh, fun a o n e => aw.keep a o (fun z => n (prvw a z)) e, gb⟩
      refine f (.ref D) H' Ai (af.trans g0 a2) ⟨D, rfl, fun z => ?_, aD, xs, eD, rs⟩
      obtain ⟨u, e⟩ := (g1.tr D (af.sub D z)).ne
      rw [hD] at e; cases e
theorem se_dc {own : List (Str × Nat)} {ke : Expr} {mk : M} (hN : X.N.Nodup) (ok : BlkOk X.N X.env.scope scope own) (hi : SI X W tg it mi) (hg : BG X scope (some U) tg g) (ht : BT X scope ifs mt) (hk : BE X scope ke mk) (he : BE X scope elt me) (hU : ∀ i ∈ U, i ∈ own.map (·.2) := by decide)
    (hc : X.calm = true := by rfl) (hs : ∀ x, foldedSetIterable it X.env x = pure x := by intro _; rfl) : SE X W (.DictComp ke elt [⟨tg, it, ifs, 0⟩] scope pos) (dcM mi g mt mk me (own.map (·.2))) :=
  fun ρ σ H A r Q g0 er f => e_dc hN ok (tdc_ok hi hg ht hk he hU g0 er f) hc hs
def callF0 (mf : MF) : M := fun ρ => JA ρ (mf [])
def Ws (m : M) : M := bnd m fun t _ ρ => match t with
  | .int i => some (.ok (.int (-i)) .va ρ)
  | _ => none
theorem e_neg' {a : Expr} {σ : L2.St} {H : Hp} {Q : VK} (h : wE X a σ H fun x H1 => ∃ i, x = .int i ∧ Q (.int (-i)) H1) : wE X (.UnaryOp .USub a pos) σ H Q := ⟨_, pe_un un_neg pE, h⟩
theorem se_neg (h : SE X W a ma) : SE X W (.UnaryOp .USub a pos) (Ws ma) := by
  intro ρ σ H A r Q g er f
  refine e_neg' (h.bind g er f fun t c ρ1 v H1 A1 ek af vo => ?_)
  cases t with
  | int i => cases ek; exact ⟨i, (vo.rr af.good).int, f _ H1 A1 af (.int _)⟩
  | _ => cases ek
def Kx : FA
  | [t] => match toD t with
    | some d => if d.showable = true ∧ d.depth ≤ 64 ∧ d.shown.length ≤ big then some (.str d.shown.cps.toList, false) else none
    | none => none
  | _ => none
theorem cv_repr (hG : X.A.guards = some []) (hr : Room k X.A) : KA X (.builtin "repr") Kx := by
  intro H A ts xs t b Q hA r e q
  unfold Kx at e
  split at e
  · split at e
    · rename_i d ed
      split at e
      · rename_i cc
        cases e
        cases r with
        | cons r1 r2 =>
        cases r2
        exact ⟨_, call_repr hG (by have := hr.un; omega), _, d, rfl, r1.dp ed, cc.1, cc.2.1, by have := JO; have := cc.2.2; omega, q _ H (vE (.str _))⟩
      · cases e
    · cases e
  · cases e
def KP : List T → Option (List (Key × T))
  | [] => some []
  | .tup [a, b] :: ts => match Jh a, KP ts with
    | some k, some ps => some ((k, b) :: ps)
    | _, _ => none
  | _ => none
def mergeT (l more : List (Key × T)) : List (Key × T) := more.foldl (fun acc kv => WA acc kv.1 kv.2) l
theorem pairs_ok {K : PySem.W.Frag} {H : Hp} {A : Addr → Prop} {ts : List T} {ps : List (Key × T)} {vs : List V} (h : KP ts = some ps) (r : Rps K H A ts vs) : ∃ (as : List Addr) (kvs : List (Key × V)), vs = as.map V.ref ∧ Paired (fun p kv => SqT K H p [kV kv.1, kv.2]) as kvs ∧ Rpk K H A ps kvs := by
  induction ts generalizing ps vs with
  | nil => cases h; cases r; exact ⟨[], [], rfl, .nil, .nil⟩
  | cons t ts ih =>
    unfold KP at h
    split at h
    · rename_i e; cases e
    · rename_i a b ts' e
      cases e
      cases e1 : Jh a with
      | none => rw [e1] at h; cases h
      | some k =>
        cases e2 : KP ts with
        | none => rw [e1, e2] at h; cases h
        | some ps' =>
          rw [e1, e2] at h
          cases h
          cases r with
          | cons r1 r2 =>
          obtain ⟨as, kvs, rfl, q1, q2⟩ := ih e2 r2
          cases r1 with
          | @tup p us _ pl rs =>
          cases rs with
          | @cons _ u _ _ s1 rs =>
          cases rs with
          | @cons _ v _ _ s2 rs =>
          cases rs
          have := keyT_v e1 (.inl s1)
          subst this
          exact ⟨p :: as, (k, v) :: kvs, rfl, .cons pl.sq q1, .cons s2 q2⟩
    · cases h
theorem Rpk.merge {K : PySem.W.Frag} {H : Hp} {A : Addr → Prop} {more : List (Key × T)} {kvs : List (Key × V)} (r : Rpk K H A more kvs) : ∀ {l : List (Key × T)} {vs : List (Key × V)}, Rpk K H A l vs → Rpk K H A (mergeT l more) (mergeK vs kvs) := by
  induction more generalizing kvs with
  | nil => intro l vs q; cases r; exact q
  | cons x more ih =>
    intro l vs q
    cases r with
    | cons a b => exact ih b (q.put a)
def Wd : FA
  | [.tup l] => match KP l with
    | some ps => some (.dct (mergeT [] ps), true)
    | none => none
  | [.lst l] => match KP l with
    | some ps => some (.dct (mergeT [] ps), true)
    | none => none
  | _ => none
theorem cv_dict (hc : X.calm = true) : KA X (.type "dict") Wd := by
  intro H A ts xs t b Q hA r e q
  unfold Wd at e
  split at e
  · split at e
    · rename_i l ps ep
      cases e
      cases r with
      | cons r1 r2 =>
      cases r2
      cases r1.rp rfl with
      | tup pl rs =>
      obtain ⟨as, kvs, rfl, q1, q2⟩ := pairs_ok ep rs
      exact c_dictT hc pl q1 fun p hp => q _ _ (nw_dct hp (q2.merge .nil))
    · cases e
  · split at e
    · rename_i l ps ep
      cases e
      cases r with
      | cons r1 r2 =>
      cases r2
      obtain ⟨p, vs, rfl, s, rs⟩ := r1.lst
      obtain ⟨as, kvs, rfl, q1, q2⟩ := pairs_ok ep rs
      exact ⟨_, call_dictP hc, p, as, kvs, rfl, SqL.of s, q1, fun p hp => q _ _ (nw_dct hp (q2.merge .nil))⟩
    · cases e
  · cases e
end
end Tr
end F_Tr15
section F_Tr16
set_option Elab.async false
set_option maxRecDepth 100000
set_option maxHeartbeats 4000000
set_option linter.all false
namespace Tr
open PySem PySem.Spec PyProof.Rows L2 LamX Vf
open SX (S)
section
variable {X : Cx} {W : XK} {e a b c o tg it elt : Expr} {es ifs : List Expr} {m ma mb mc me mt mo : M} {ms : MS} {st : Stmt} {mi : MI} {mA : MA} {pos p1 p2 p3 : Pos} {C : Addr} {f : Str} {k : Nat} {U : List Nat} {g : MG} {scope : Scope} {vs : List Nat}
def callT (m : M) (mA : MA) (mf : MC) : M := bnd m fun tc c => match c with
  | .ow => Km mA fun ts ρ => if jo ts = true then match mf tc (ts.map (·.1)) with
      | some ((t, false), _) => some (.ok t .va ρ)
      | _ => none
    else none
  | _ => fun _ => none
theorem callT_fin {mf : MC} (he : SE X W e m) (hA : SA X W es mA) {ρ : Sls} {σ : L2.St} {H : Hp} {A : Addr → Prop} {r : Ans} {Q : VK} (g : Gd X.K ρ σ H A) (er : callT m mA mf ρ = some r) (f0 : Fin X W ρ σ H A r Q) :
    wE X e σ H fun x H1 => wA X es σ H1 fun vs H2 => spC X.K mf (x :: vs) H2 Q W := by
  refine he.bind g er f0 fun tc c ρ1 v H1 A1 ek af vo => ?_
  cases c with
  | va => cases ek
  | bo i => cases ek
  | ow =>
    obtain ⟨p, rfl, np, ap, ow⟩ := vo
    have g1 := af.good
    refine FinA.bind hA g1 ek (f0.go g af) fun ts ρ2 us H2 A2 ek2 af2 vos => ?_
    split at ek2
    · rename_i cc
      have af2' := af2.less g1
      have g2 := af2'.good
      have nPrv : ¬ Prv ρ1 σ p := fun z => by
        obtain ⟨i, z⟩ := z.at
        exact np (g.at_ (af.shp.at' z))
      have ow2 : Ow X.K H2 A1 tc p := ow.go (af2'.gon g1) nPrv
      have rs := vos.fz af2.sub cc
      cases em : mf tc (ts.map (·.1)) with
      | none => rw [em] at ek2; cases ek2
      | some q =>
        obtain ⟨⟨t, b⟩, tc'⟩ := q
        rw [em] at ek2
        cases b with
        | true => cases ek2
        | false =>
          cases ek2
          refine ⟨A1, tc, ts.map (·.1), p, us, t, false, tc', rfl, g2.tr, ap, ow2, rs, em, fun v H3 k ow3 rv => ?_⟩
          -- back to what was private ahead
          have af12 := af.trans g af2'
          have nat : ∀ j, ¬ At ρ2 σ j p := fun j z => np (g.at_ (af12.shp.at' z))
          have g3 : Gd X.K ρ2 σ H3 A1 := g2.go (P := fun q => q = p) ⟨fun a o n e => k a o n e, fun q z => by rw [z]; exact ⟨ap, g2.tr p ap⟩, fun a h => .inl h⟩ (fun i q h => ⟨fun z => nat i (by rw [← z]; exact h), g2.at_ h⟩) fun a h => by
            by_cases c : a = p
            · rw [c]; exact ow3.ld
            · obtain ⟨u, e⟩ := (g2.tr a h).ne
              rw [k a u c e, ← e]; exact g2.tr a h
          refine f0 v H3 A1 ⟨af12.sub, af12.new, af12.shp, fun a o n e => ?_, g3⟩ rv
          exact k a o (fun z => by
            rw [z] at e
            have := (af12.new p ap).resolve_left np
            rw [e] at this; cases this) (af12.keep a o n e)
    · cases ek2
theorem se_callTG {x : Str} {k : Nat} {mf : MC} (hG : X.A.guards = some []) (F : DfG X.prog X.w X.K X.mg X.base x k (spC X.K mf)) (hr : Room k X.A) (tk : Takes X fun c d _ H => W c d H) (he : SE X W e m) (hA : SA X W es mA)
    (hg : Gl X x := by rfl) (hdb : (x == ("__debug__" : Str)) = false := by decide) (hs : starEach (e :: es) X.env = (false, eval e X.env) :: starEach es X.env := by rfl) (hpl : (backTo pos (starEach es X.env)).any (·.1) = false := by rfl) :
    SE X W (.Call (.Name x p1) (e :: es) [] pos) (callT m mA mf) :=
  fun ρ σ H A r Q g er f => e_callG hG F hr (passes_call tk fun c d σ H h => h) (a_cons (callT_fin he hA g er f) hs) hg hdb hs hpl
end
end Tr
end F_Tr16
section F_Tr17
set_option Elab.async false
set_option maxRecDepth 100000
set_option maxHeartbeats 4000000
set_option linter.all false
namespace Tr
open PySem PySem.Spec PyProof.Rows L2 LamX Vf
open SX (S)
section
variable {K : PySem.W.Frag} {ρ ρ1 ρF : Sls} {σ : L2.St} {H1 H' : Hp} {A1 Ai : Addr → Prop} {vs : List Nat}
/-- out of a block: the slots vs as outside -/
theorem Aft.backR (g1 : Gd K ρ1 σ H1 A1) (aw : Aft K (jk ρ1 vs) (wipe σ vs) H1 A1 (jk ρF vs) H' Ai) (lb : ρF.length = ρ1.length) : Aft K ρ1 σ H1 A1 (Tr.backR ρ1 ρF vs) H' Ai := by
  have gi := aw.good
  have gw : Gd K (jk ρ1 vs) (wipe σ vs) H1 A1 := g1.wipe (fun _ _ => rfl) rfl
  have prvw : ∀ p, Prv (jk ρ1 vs) (wipe σ vs) p → Prv ρ1 σ p := fun p ⟨i, t, e1, e2⟩ => by
    have := (Kc (i := i) (p := p) ⟨_, e1, rfl, e2⟩).1
    rw [wu this] at e1
    rw [vG this] at e2
    exact ⟨i, t, e1, e2⟩
  have sh : Shp ρ1 (Tr.backR ρ1 ρF vs) := by
    refine ⟨by rw [Jt, lb], fun j s e => ?_⟩
    by_cases c : j ∈ vs
    · exact ⟨s, by rw [backR_in c lb]; exact e, by cases s <;> first | rfl | exact ⟨_, rfl⟩⟩
    · obtain ⟨s', e', q⟩ := aw.shp.2 j s (by rw [wu c]; exact e)
      rw [wu c] at e'
      exact ⟨s', by rw [JS c]; exact e', q⟩
  refine ⟨aw.sub, aw.new, sh, fun a o n e => aw.keep a o (fun z => n (prvw a z)) e, gi.tr, fun j s e => ?_, fun j k p h1 h2 => g1.dj j k p (sh.at' h1) (sh.at' h2), by rw [Jt, lb]; exact g1.len⟩
  by_cases c : j ∈ vs
  · rw [backR_in c lb] at e
    have q := g1.sl j s e
    have gn : Gon (Prv (jk ρ1 vs) (wipe σ vs)) A1 Ai H1 H' := aw.gon gw
    have off : ∀ p, At ρ1 σ j p → ¬ Prv (jk ρ1 vs) (wipe σ vs) p := fun p h z => by
      obtain ⟨k, z⟩ := z.at
      have := Kc z
      exact this.1 (by rw [← g1.dj j k p h this.2]; exact c)
    cases s with
    | no => trivial
    | kd l => exact We gn q
    | va t => obtain ⟨v, e2, r⟩ := q; exact ⟨v, e2, r.go gn⟩
    | ow t => obtain ⟨p, e2, h, r⟩ := q; exact ⟨p, e2, aw.sub p h, r.go gn (off p ⟨_, e, rfl, e2⟩)⟩
    | lk t => obtain ⟨p, e2, h, r⟩ := q; exact ⟨p, e2, aw.sub p h, r.go gn (off p ⟨_, e, rfl, e2⟩)⟩
  · rw [JS c] at e
    have := gi.sl j s (by rw [wu c]; exact e)
    rw [vG c] at this
    exact this
theorem wipe_sub {vs1 : List Nat} {ρ : Sls} (h : ∀ i ∈ vs1, i ∈ vs) {ρ' : Sls} (l : ρ'.length = ρ.length) (o : ∀ i, i ∉ vs1 → ρ'[i]? = ρ[i]?) : jk ρ' vs = jk ρ vs := by
  apply List.ext_getElem?
  intro i
  by_cases c : i ∈ vs
  · by_cases lt : i < ρ.length
    · have l1 : i < (jk ρ' vs).length := by rw [wH, l]; exact lt
      have l2 : i < (jk ρ vs).length := by rw [wH]; exact lt
      rw [List.getElem?_eq_getElem l1, List.getElem?_eq_getElem l2, Kg c (List.getElem?_eq_getElem l1), Kg c (List.getElem?_eq_getElem l2)]
    · rw [List.getElem?_eq_none (by rw [wH, l]; omega), List.getElem?_eq_none (by rw [wH]; omega)]
  · rw [wu c, wu c, o i fun z => c (h i z)]
def ShO (vs : List Nat) (ρ ρ' : Sls) : Prop := ∀ (i : Nat) (s : Sl), i ∉ vs → ρ[i]? = some s → ∃ s', ρ'[i]? = some s' ∧ match s with | .ow _ => ∃ t, s' = .ow t | s => s' = s
theorem ShO.shp {ρ ρ' ρ'' : Sls} (a : ShO vs ρ ρ') (b : Shp ρ' ρ'') : ShO vs ρ ρ'' := fun i s h e => by
  obtain ⟨s1, e1, r1⟩ := a i s h e
  obtain ⟨s2, e2, r2⟩ := b.2 i s1 e1
  refine ⟨s2, e2, ?_⟩
  cases s with
  | ow t => obtain ⟨u, rfl⟩ := r1; exact r2
  | no => cases r1; exact r2
  | va t => cases r1; exact r2
  | kd t => cases r1; exact r2
  | lk t => cases r1; exact r2
theorem ShO.same {ρ ρ' ρ'' : Sls} (a : ShO vs ρ ρ') (b : ∀ i, i ∉ vs → ρ''[i]? = ρ'[i]?) : ShO vs ρ ρ'' := fun i s h e => by
  obtain ⟨s1, e1, r1⟩ := a i s h e
  exact ⟨s1, by rw [b i h]; exact e1, r1⟩
end
/-- the inner loop -/
def inM (g : MG) (me : M) (vs : List Nat) : List T → List T → Sls → Option (List T × Sls)
  | [], acc, ρ => some (acc, ρ)
  | x :: xs, acc, ρ => match g x .va (jk ρ vs) with
    | none => none
    | some ρ1 => match me ρ1 with
      | some (.ok t c ρ2) => if c.free = true ∧ acc.length ≤ big then inM g me vs xs (acc ++ [t]) ρ2 else none
      | _ => none
def comp2M (g : MG) (mi : MI) (g1 : MG) (me : M) (vs vs1 : List Nat) : List T → List T → Sls → Option (List T × Sls)
  | [], acc, ρ => some (acc, ρ)
  | x :: xs, acc, ρ => match g x .va (jk ρ vs) with
    | none => none
    | some ρ1 => match mi ρ1 with
      | some (.ok l ρ2) => match inM g1 me vs1 l acc ρ2 with
        | some (acc', ρ3) => comp2M g mi g1 me vs vs1 xs acc' (backR ρ2 ρ3 vs1)
        | none => none
      | _ => none
def lc2M (mi0 : MI) (g : MG) (mi : MI) (g1 : MG) (me : M) (vs vs1 : List Nat) : M := fun ρ => match mi0 ρ with
  | some (.ok l ρ1) => match comp2M g mi g1 me vs vs1 l [] ρ1 with
    | some (acc, ρ2) => some (.ok (.lst acc) .ow (backR ρ1 ρ2 vs))
    | none => none
  | some (.er x) => some (.er x)
  | none => none
def BI (X : Cx) (scope : Scope) (tg it : Expr) (m : MI) : Prop := ∀ (s : Shared) (H0 : Hp) (C : Addr) (cl : List (Str × Addr)) (fp : List Addr), SI (X.blk s H0 scope (compEnvC scope cl C X.env) fp) E0 tg it m
section
variable {X : Cx} {W : XK} {e a b c o tg it tg1 it1 elt : Expr} {es ifs : List Expr} {m ma mb mc me mt mo : M} {ms : MS} {st : Stmt} {mi mi1 : MI} {mA : MA} {pos p1 p2 p3 : Pos} {C : Addr} {f : Str} {k : Nat} {U U1 : List Nat} {g g1 : MG} {scope : Scope} {vs vs1 : List Nat}
theorem tlc2_ok (hi : SI X W tg it mi) (hg : BG X scope (some U) tg g) (hi1 : BI X scope tg1 it1 mi1) (hg1 : BG X scope (some U1) tg1 g1) (he : BE X scope elt me) (hU : ∀ i ∈ U, i ∈ vs) (hU1 : ∀ i ∈ U1, i ∈ vs1) (hv : ∀ i ∈ vs1, i ∈ vs) {ρ : Sls} {σ : L2.St} {H : Hp} {A : Addr → Prop} {r : Ans} {Q : VK} (g0 : Gd X.K ρ σ H A)
    (er : lc2M mi g mi1 g1 me vs vs1 ρ = some r) (f : Fin X W ρ σ H A r Q) : tLc2 (wI X tg it) (bG X scope tg) (bT X scope []) (bI X scope tg1 it1) (bG X scope tg1) (bT X scope []) (bE X scope elt) vs vs1 σ H Q := by
  unfold tLc2
  unfold lc2M at er
  cases em : mi ρ with
  | none => rw [em] at er; cases er
  | some u =>
  rw [em] at er
  cases u with
  | er x => cases er; exact hi ρ σ H A _ _ g0 em f
  | ok l ρ1 =>
  simp only at er
  refine hi ρ σ H A _ _ g0 em fun J H1 A1 af src => ?_
  intro D hD
  cases ec : comp2M g mi1 g1 me vs vs1 l [] ρ1 with
  | none => rw [ec] at er; cases er
  | some fin =>
  obtain ⟨accF, ρF⟩ := fin
  rw [ec] at er
  cases er
  have gg1 := af.good
  have gw : Gd X.K (jk ρ1 vs) (wipe σ vs) H1 A1 := gg1.wipe (fun _ _ => rfl) rfl
  have prvw : ∀ p, Prv (jk ρ1 vs) (wipe σ vs) p → Prv ρ1 σ p := fun p ⟨i, t, e1, e2⟩ => by
    have := (Kc (i := i) (p := p) ⟨_, e1, rfl, e2⟩).1
    rw [wu this] at e1
    rw [vG this] at e2
    exact ⟨i, t, e1, e2⟩
  let Pv : Nat → Hp → Prop := fun i H' => ∃ ρi Ai acc xs, comp2M g mi1 g1 me vs vs1 (l.drop i) acc ρi = some (accF, ρF) ∧ ρi.length = ρ1.length ∧ Aft X.K (jk ρ1 vs) (wipe σ vs) H1 A1 (jk ρi vs) H' Ai ∧ Ai D ∧ H' D = some (.lst xs) ∧ Rps X.K H' Ai acc xs
  refine ⟨fun i n H' => n = l.length - i ∧ i ≤ l.length ∧ Pv i H', ⟨_, rfl, Nat.zero_le _, ρ1, Pl A1 D, [], [], by simpa using ec, rfl, ?_, .inr rfl, upd_same, .nil⟩, ?_⟩
  · refine ⟨fun a h => .inl h, fun a h => h.imp id fun z => by rw [z]; exact hD, .refl, fun a o n e => Jb hD a o e, gw.go (gon_newP hD) (fun i p h => ⟨fun z => z, .inl (gw.at_ h)⟩) fun p h => ?_⟩
    rcases h with h | rfl
    · obtain ⟨u, e⟩ := (gw.tr p h).ne
      rw [Jb hD p u e, ← e]
      exact gw.tr p h
    · rw [upd_same]; trivial
  · rintro i n H' ⟨rfl, hil, ρi, Ai, acc, xs, e2, len, aw, aD, eD, rs⟩
    have gi := aw.good
    have gon1 : Gon (Prv ρ1 σ) A1 Ai H1 H' := ⟨fun a o n e => aw.keep a o (fun z => n (prvw a z)) e, fun p h => ⟨gg1.prv h, gg1.tr _ (gg1.prv h)⟩, aw.new⟩
    obtain ⟨stop, go⟩ := src H' Ai (gon1.wr gg1 af.sub)
    rcases Nat.lt_or_ge i l.length with lt | ge
    · have dr : l.drop i = l[i] :: l.drop (i + 1) := List.drop_eq_getElem_cons lt
      rw [dr] at e2
      obtain ⟨go, yld⟩ := go i l[i] (List.getElem?_eq_getElem lt)
      refine .inr ⟨go, Pv (i + 1), fun H2 p2 => ⟨_, by omega, rfl, lt, p2⟩, ?_⟩
      intro x H'' y
      obtain ⟨sm, rx⟩ := yld x H'' y
      have aw2 : Aft X.K (jk ρ1 vs) (wipe σ vs) H1 A1 (jk ρi vs) H'' Ai := ⟨aw.sub, aw.new, aw.shp, fun a o n e => sm _ _ (aw.keep a o n e), gi.go (Jv sm) (fun i p h => ⟨fun z => z, gi.at_ h⟩) fun a h => by
        obtain ⟨u, e⟩ := (gi.tr a h).ne
        rw [sm a u e, ← e]; exact gi.tr a h⟩
      have rs2 := rs.go (Jv (A := Ai) sm)
      have eD2 := sm _ _ eD
      have g2 := aw2.good
      unfold comp2M at e2
      cases e3 : g l[i] .va (jk ρi vs) with
      | none => rw [e3] at e2; cases e2
      | some ρ2 =>
      rw [e3] at e2
      simp only at e2
      -- D is no slot's
      have nD : ∀ j, ¬ At (jk ρi vs) (wipe σ vs) j D := fun j z => by
        obtain ⟨u, e⟩ := (gw.tr D (gw.at_ (aw.shp.at' z))).ne
        rw [hD] at e; cases e
      have nDx : ∀ {ρx σx Hx Ax}, Run X.K (jk ρi vs) (wipe σ vs) H'' Ai ρx σx Hx Ax → ∀ j, ¬ At ρx σx j D := fun ru j z => by
        rcases ru.own j D z with ⟨k, q⟩ | q
        · exact nD k q
        · rw [eD2] at q; cases q
      have nP : ¬ Prv (jk ρi vs) (wipe σ vs) D := fun z => let ⟨j, z⟩ := z.at; nD j z
      intro s0 H0 C cl fp
      refine hg s0 H0 C cl fp (jk ρi vs) (wipe σ vs) H'' Ai (jk ρi vs) (wipe σ vs) H'' Ai l[i] .va x ρ2 _ g2 (.refl g2) rx e3 fun σ2 H2 A2 ru2 _ oth _ => ?_
      have oth := oth U rfl
      refine ⟨?_, ?_⟩
      · have := Kl (σ := wipe σ vs) (σ' := σ2) (vs := vs) ru2.len fun i h => (oth i fun z => h (hU i z)).1
        rw [this, Kl (σ' := wipe σ vs) (σ := σ) (by rw [wipe_length]) fun i h => vG h]
      intro s0 H0 C cl fp
      refine ts_nil (iteT ?_)
      intro s0 H0 C cl fp
      cases e4 : mi1 ρ2 with
      | none => rw [e4] at e2; cases e2
      | some u =>
      rw [e4] at e2
      cases u with
      | er x => cases e2
      | ok l1 ρ3 =>
      simp only at e2
      refine hi1 s0 H0 C cl fp ρ2 σ2 H2 A2 _ _ ru2.good e4 fun J1 H3 A3 af3 src1 => ?_
      have g3 := af3.good
      have r3 := ru2.trans g2 (af3.run ru2.good)
      have w3 : ρ3.length = ρ1.length ∧ Aft X.K (jk ρ1 vs) (wipe σ vs) H1 A1 (jk ρ3 vs) H3 A3 := by
        have l3 : ρ3.length = ρi.length := by rw [r3.good.len, r3.len, wipe_length, ← wipe_length σ vs, ← g2.len, wH]
        exact ⟨l3.trans len, aw2.trans gw (Run.wiped (ρ := ρi) (ρ' := ρ3) g2 r3 (fun i h => (oth i fun z => h (hU i z)).1) (fun i s h e => by
          have q := (oth i fun z => h (hU i z)).2
          rw [e] at q
          exact af3.shp.2 i s q) l3)⟩
      obtain ⟨l3, W3⟩ := w3
      have eD3 := r3.keep D _ nP eD2
      have aD3 : A3 D := W3.sub D |> fun _ => (r3.sub D aD).resolve_right fun ⟨j, z⟩ => nD j z
      have D2 : A2 D := (ru2.sub D aD).resolve_right fun ⟨j, z⟩ => nD j z
      have gw3 : Gd X.K (jk ρ3 vs1) (wipe σ2 vs1) H3 A3 := g3.wipe (fun _ _ => rfl) rfl
      cases e5 : inM g1 me vs1 l1 acc ρ3 with
      | none => rw [e5] at e2; cases e2
      | some q =>
      obtain ⟨acc', ρ'⟩ := q
      rw [e5] at e2
      have priv3 : ∀ q, (Prv (jk ρ3 vs1) (wipe σ2 vs1) q ∨ q = D) → A3 q ∧ LD (H3 q) := fun q z => z.elim (fun z => ⟨gw3.prv z, gw3.tr _ (gw3.prv z)⟩) fun z => by rw [z]; exact ⟨aD3, g3.tr _ aD3⟩
      have nDw : ∀ k, ¬ At (jk ρ3 vs1) (wipe σ2 vs1) k D := fun k z => nDx r3 k (Kc z).2
      -- what holds between two turns within
      refine ⟨fun j n H => n = l1.length - j ∧ j ≤ l1.length ∧ ∃ ρj Aj accj xsj, inM g1 me vs1 (l1.drop j) accj ρj = some (acc', ρ') ∧ ρj.length = ρ3.length ∧ Gd X.K (jk ρj vs1) (wipe σ2 vs1) H Aj ∧ Shp (jk ρ3 vs1) (jk ρj vs1) ∧ (∀ a, A3 a → Aj a) ∧
        Gon (fun q => Prv (jk ρ3 vs1) (wipe σ2 vs1) q ∨ q = D) A3 Aj H3 H ∧ H D = some (.lst xsj) ∧ Rps X.K H Aj accj xsj,
        ⟨_, rfl, Nat.zero_le _, ρ3, A3, acc, xs, by simpa using e5, rfl, gw3, .refl, fun _ h => h, ⟨fun _ _ _ e => e, priv3, fun _ h => .inl h⟩, eD3, rs2.go (r3.gon g2)⟩, ?_⟩
      rintro j n H4 ⟨rfl, hjl, ρj, Aj, accj, xsj, e6, lj, gj, shj, subj, gnj, eDj, rsj⟩
      have nDj : ∀ k, ¬ At (jk ρj vs1) (wipe σ2 vs1) k D := fun k z => nDw k (shj.at' z)
      have prvj : ∀ p, Prv (jk ρj vs1) (wipe σ2 vs1) p → Prv (jk ρ3 vs1) (wipe σ2 vs1) p := fun p z => shj.prv z
      have inP : ∀ p, Prv (jk ρ3 vs1) (wipe σ2 vs1) p → Prv ρ3 σ2 p := fun p ⟨i, t, e1, e2⟩ => by
        have := (Kc (i := i) (p := p) ⟨_, e1, rfl, e2⟩).1
        rw [wu this] at e1
        rw [vG this] at e2
        exact ⟨i, t, e1, e2⟩
      obtain ⟨stop1, go1⟩ := src1 H4 Aj ⟨fun a o n e => gnj.keep a o (fun z => n (z.imp (inP a) fun z => by rw [z]; exact ⟨D2, fun j y => by
          exact nDx r3 j y⟩)) e, fun q z => z.elim (fun z => ⟨g3.prv z, g3.tr _ (g3.prv z)⟩) fun z => ⟨af3.sub _ z.1, g3.tr _ (af3.sub _ z.1)⟩, gnj.new⟩
      rcases Nat.lt_or_ge j l1.length with lt1 | ge1
      · have dr1 : l1.drop j = l1[j] :: l1.drop (j + 1) := List.drop_eq_getElem_cons lt1
        rw [dr1] at e6
        obtain ⟨go1, yld1⟩ := go1 j l1[j] (List.getElem?_eq_getElem lt1)
        refine .inr ⟨go1, fun H => ∃ ρj Aj accj xsj, inM g1 me vs1 (l1.drop (j + 1)) accj ρj = some (acc', ρ') ∧ ρj.length = ρ3.length ∧ Gd X.K (jk ρj vs1) (wipe σ2 vs1) H Aj ∧ Shp (jk ρ3 vs1) (jk ρj vs1) ∧ (∀ a, A3 a → Aj a) ∧
          Gon (fun q => Prv (jk ρ3 vs1) (wipe σ2 vs1) q ∨ q = D) A3 Aj H3 H ∧ H D = some (.lst xsj) ∧ Rps X.K H Aj accj xsj, fun H5 p5 => ⟨l1.length - (j + 1), by omega, rfl, lt1, p5⟩, ?_⟩
        intro x1 H4' y1
        obtain ⟨sm1, rx1⟩ := yld1 x1 H4' y1
        have gj2 : Gd X.K (jk ρj vs1) (wipe σ2 vs1) H4' Aj := ((Run.refl gj).same sm1).good
        have rsj2 := rsj.go (Jv (A := Aj) sm1)
        have eDj2 := sm1 _ _ eDj
        have gnj2 : Gon (fun q => Prv (jk ρ3 vs1) (wipe σ2 vs1) q ∨ q = D) A3 Aj H3 H4' := ⟨fun a o n e => sm1 _ _ (gnj.keep a o n e), gnj.priv, gnj.new⟩
        unfold inM at e6
        cases e7 : g1 l1[j] .va (jk ρj vs1) with
        | none => rw [e7] at e6; cases e6
        | some ρ4 =>
        rw [e7] at e6
        simp only at e6
        intro s0 H0 C cl fp
        refine hg1 s0 H0 C cl fp (jk ρj vs1) (wipe σ2 vs1) H4' Aj (jk ρj vs1) (wipe σ2 vs1) H4' Aj l1[j] .va x1 ρ4 _ gj2 (.refl gj2) rx1 e7 fun σ4 H5 A5 ru5 _ oth1 _ => ?_
        have oth1 := oth1 U1 rfl
        refine ⟨?_, ?_⟩
        · have := Kl (σ := wipe σ2 vs1) (σ' := σ4) (vs := vs1) ru5.len fun i h => (oth1 i fun z => h (hU1 i z)).1
          rw [this, Kl (σ' := wipe σ2 vs1) (σ := σ2) (by rw [wipe_length]) fun i h => vG h]
        intro s0 H0 C cl fp
        refine ts_nil (iteT ?_)
        intro s0 H0 C cl fp
        cases e8 : me ρ4 with
        | none => rw [e8] at e6; cases e6
        | some u =>
        rw [e8] at e6
        cases u with
        | er x => cases e6
        | ok t c ρ5 =>
        simp only at e6
        split at e6
        · rename_i cc
          refine he s0 H0 C cl fp ρ4 σ4 H5 A5 _ _ ru5.good e8 fun v H6 A6 af6 vo => ?_
          have af6' := af6.less ru5.good
          have r6 : Run X.K (jk ρj vs1) (wipe σ2 vs1) H4' Aj ρ5 σ4 H6 A5 := ru5.trans gj2 (af6'.run ru5.good)
          have rv : Rp X.K H6 A5 t v := vo.fz af6.sub cc.1
          have l5 : ρ5.length = ρj.length := by rw [r6.good.len, r6.len, wipe_length, ← wipe_length σ2 vs1, ← gj2.len, wH]
          have w6 : Aft X.K (jk ρj vs1) (wipe σ2 vs1) H4' Aj (jk ρ5 vs1) H6 A5 := Run.wiped (ρ := ρj) (ρ' := ρ5) gj2 r6 (fun i h => (oth1 i fun z => h (hU1 i z)).1) (fun i s h e => by
            have q := (oth1 i fun z => h (hU1 i z)).2
            rw [e] at q
            exact af6.shp.2 i s q) l5
          have nDP : ¬ Prv (jk ρj vs1) (wipe σ2 vs1) D := fun z => let ⟨k, z⟩ := z.at; nDj k z
          have eD6 := r6.keep D _ nDP eDj2
          have aD6 : A5 D := w6.sub D (subj D aD3)
          have rs6 := rsj2.go (w6.gon gj2)
          have gnD : Gon (fun q => q = D) A5 A5 H6 (upd H6 D (.lst (xsj ++ [v]))) := gon_wr aD6 (by rw [eD6]; trivial)
          refine ⟨xsj, eD6, by have := JO; rw [← rs6.length]; omega, ρ5, A5, accj ++ [t], xsj ++ [v], e6, l5.trans lj, ?_, shj.trans w6.shp, fun a h => w6.sub a (subj a h), ?_, upd_same, (rs6.append (.cons rv .nil)).go gnD⟩
          · refine w6.good.go gnD (fun k p h => ⟨fun z => nDj k (by rw [← z]; exact w6.shp.at' h), w6.good.at_ h⟩) fun p h => ?_
            by_cases c : p = D
            · rw [c, upd_same]; trivial
            · rw [upd_ne c]; exact w6.good.tr p h
          · refine ⟨fun a o n e => ?_, priv3, fun a h => ?_⟩
            · rw [upd_ne fun z => n (.inr z)]
              exact w6.keep a o (fun z => n (.inl (prvj a z))) (gnj2.keep a o n e)
            · rcases w6.new a h with q | q
              · exact gnj2.new a q
              · refine .inr ?_
                cases z : H3 a with
                | none => rfl
                | some o =>
                  by_cases c : Prv (jk ρ3 vs1) (wipe σ2 vs1) a ∨ a = D
                  · obtain ⟨u, e⟩ := (gj2.tr a (subj a (priv3 a c).1)).ne
                    rw [q] at e; cases e
                  · rw [gnj2.keep a o c z] at q; cases q
        · cases e6
      · obtain rfl : j = l1.length := by omega
        rw [List.drop_length] at e6
        cases e6
        have lF : ρ'.length = ρ3.length := lj
        have q1 : jk (backR ρ3 ρ' vs1) vs = jk ρ' vs := wipe_sub hv (by rw [Jt]) fun i h => JS h
        have q2 : jk (jk ρ' vs1) vs = jk ρ' vs := wipe_sub hv wH fun i h => wu h
        have q3 : jk (jk ρ3 vs1) vs = jk ρ3 vs := wipe_sub hv wH fun i h => wu h
        have shv := shp_wipe (vs := vs) shj
        rw [q2, q3] at shv
        have gF : Gd X.K (jk ρ' vs) (wipe σ vs) H4 Aj := by
          have := gj.wipe (σ := σ) (vs := vs) (fun i h => by
            rw [vG (fun z => h (hv i z)), (oth i fun z => h (hU i z)).1, vG h]) (by rw [wipe_length, ru2.len, wipe_length])
          rw [q2] at this
          exact this
        refine .inl ⟨stop1, backR ρ3 ρ' vs1, Aj, acc', xsj, e2, by rw [Jt]; exact lF.trans l3, ?_, subj D aD3, eDj, rsj⟩
        rw [q1]
        refine ⟨fun a h => subj a (W3.sub a h), fun a h => ?_, W3.shp.trans shv, fun a o n e => ?_, gF⟩
        · rcases gnj.new a h with q | q
          · exact W3.new a q
          · exact .inr (W3.there gw q)
        · refine gnj.keep a o (fun z => ?_) (W3.keep a o n e)
          rcases z with z | rfl
          · rcases r3.prv a (inP a z) with q | q
            · exact n (aw2.shp.prv q)
            · have := aw2.keep a o n e
              rw [q] at this; cases this
          · rw [hD] at e; cases e
    · obtain rfl : i = l.length := by omega
      rw [List.drop_length] at e2
      cases e2
      refine .inl ⟨stop, ?_⟩
      have a2 := Aft.backR gg1 aw len
      refine f (.ref D) H' Ai (af.trans g0 a2) ⟨D, rfl, fun z => ?_, aD, xs, eD, rs⟩
      obtain ⟨u, e⟩ := (gg1.tr D (af.sub D z)).ne
      rw [hD] at e; cases e
theorem ss_setLc2 (own1 : Bool) {i : Nat} {y : Str} {py : Pos} {own : List (Str × Nat)} {spos : Pos} (hN : X.N.Nodup) (hy : X.N[i]? = some y) (hyl : X.env.scope.names.lookup y = some .local)
    (hsw : swapsWith (.ListComp elt [⟨tg, it, [], 0⟩, ⟨tg1, it1, [], 0⟩] scope pos) (some (.Name y py)) spos.line X.env = pure true) (ok : BlkOk X.N X.env.scope scope own)
    (hi : SI X W tg it mi) (hg : BG X scope (some U) tg g) (hi1 : BI X scope tg1 it1 mi1) (hg1 : BG X scope (some U1) tg1 g1) (he : BE X scope elt me) (hU : ∀ i ∈ U, i ∈ own.map (·.2) := by decide) (hU1 : ∀ i ∈ U1, i ∈ U1 := by decide) (hv : ∀ i ∈ U1, i ∈ own.map (·.2) := by decide)
    (hc : X.calm = true := by rfl) (hs : ∀ x, foldedSetIterable it X.env x = pure x := by intro _; rfl) (hs1 : ∀ env x, foldedSetIterable it1 env x = pure x := by intro _ _; rfl) :
    SS X W (.Assign [.Name y py] (.ListComp elt [⟨tg, it, [], 0⟩, ⟨tg1, it1, [], 0⟩] scope pos) spos) (wp own1 (lc2M mi g mi1 g1 me (own.map (·.2)) U1) (jB own1 i)) := by
  intro ρ σ H A r D g0 er f
  refine s_setLc2 hN hy hyl hsw ok hv ?_ hc hs hs1
  unfold wp Wg at er
  cases em : lc2M mi g mi1 g1 me (own.map (·.2)) U1 ρ with
  | none => rw [em] at er; cases er
  | some u =>
    rw [em] at er
    cases u with
    | ok t c ρ1 => exact tlc2_ok hi hg hi1 hg1 he hU hU1 hv g0 em fun v H1 A1 af vo => set_fin g0 f af vo er
    | er x => cases er; exact tlc2_ok hi hg hi1 hg1 he hU hU1 hv g0 em f.err
end
end Tr
end F_Tr17
section F_Tr18
set_option Elab.async false
set_option maxRecDepth 100000
set_option maxHeartbeats 4000000
set_option linter.all false
namespace Tr
open PySem PySem.Spec PyProof.Rows L2 LamX Vf
open SX (S)
def erO : Option Out → Option OutF
  | some (.er x) => some (.er x)
  | _ => none
end Tr
end F_Tr18
section F_Tr19
set_option Elab.async false
set_option maxRecDepth 100000
set_option maxHeartbeats 4000000
set_option linter.all false
namespace Tr
open PySem PySem.Spec PyProof.Rows L2 LamX Vf
open SX (S)
/-- the parameters' order from the order of the names -/
def pk {α : Type} (ix : List Nat) (l : List α) : List α := ix.filterMap fun i => l[i]?
section
variable {K : PySem.W.Frag} {H : Hp} {A : Addr → Prop}
theorem vals_get : ∀ {vs : List V} {us : List Value}, Vals vs us → ∀ i : Nat, (vs[i]? = none ∧ us[i]? = none) ∨ ∃ v u, vs[i]? = some v ∧ us[i]? = some u ∧ RelV v u
  | _, _, .nil, i => .inl ⟨by simp, by simp⟩
  | _, _, .cons a b, 0 => .inr ⟨_, _, rfl, rfl, a⟩
  | _, _, .cons a b, i + 1 => by simpa using vals_get b i
theorem vals_pk {vs : List V} {us : List Value} (r : Vals vs us) : ∀ ix : List Nat, Vals (pk ix vs) (pk ix us)
  | [] => .nil
  | i :: ix => by
    unfold pk
    rw [List.filterMap_cons, List.filterMap_cons]
    rcases vals_get r i with ⟨e1, e2⟩ | ⟨v, u, e1, e2, e3⟩
    · rw [e1, e2]; exact vals_pk r ix
    · rw [e1, e2]; exact .cons e3 (vals_pk r ix)
theorem rps_pk {ts : List T} {vs : List V} (r : Rps K H A ts vs) : ∀ ix : List Nat, Rps K H A (pk ix ts) (pk ix vs)
  | [] => .nil
  | i :: ix => by
    unfold pk
    rw [List.filterMap_cons, List.filterMap_cons]
    cases e : ts[i]? with
    | none =>
      have : vs[i]? = none := by rw [List.getElem?_eq_none_iff] at e ⊢; rw [← r.length]; exact e
      rw [this]; exact rps_pk r ix
    | some t => obtain ⟨v, e2, r2⟩ := r.get e; rw [e2]; exact .cons r2 (rps_pk r ix)
/-- what is given by name: n by place, ks by name -/
structure KwP (K : PySem.W.Frag) (fd : FuncData) (ps : List Str) (n : Nat) (ks : List Str) (ix : List Nat) : Prop where
  to : ∀ (s : Shared) (us ws : List Value), K.In s.heap → us.length = n → ws.length = ks.length → BindsTo s fd ⟨us, ks.zip ws⟩ (ps.zip (us ++ pk ix ws))
theorem KwP.kbn {fd : FuncData} {ps ks : List Str} {n : Nat} {ix : List Nat} (h : KwP K fd ps n ks ix) : KBn K fd ps n ks (fun us ws => us ++ pk ix ws) (fun vs zs => vs ++ pk ix zs) := ⟨h.to, fun a b => a.append (vals_pk b ix)⟩
end
section
variable (P : Program) (w : World) (K : PySem.W.Frag) (mg : Str → Option Value) (base : Heap)
structure DfK (x : Str) (ks : List Str) (ix : List Nat) (k : Nat) (sp : Sp) : Prop where
  ex : ∃ f fd ps, FnOk P w K mg base (L2.CX P w) k f fd ps sp ∧ mg x = some (.ref f) ∧ PySem.W.keepIn K (.ref f) = true ∧ KwP K fd ps 0 ks ix
end
section
variable {X : Cx} {σ : L2.St} {H : Hp} {Q : VK} {R : List V → Hp → Prop}
inductive wK (X : Cx) (kws : List Keyword) (σ : L2.St) (H : Hp) (R : List V → Hp → Prop) : Prop
  | mk (t : TA) (h : PK X kws t) (q : t σ H R)
theorem pK {kws : List Keyword} : PK X kws (wK X kws) := ⟨fun a b c d f g I ⟨_, h, q⟩ => h.run a b c d f g I q⟩
theorem k_nil (h : R [] H) : wK X [] σ H R := ⟨_, pk_nil, h⟩
theorem k_cons {nm : Option Str} {e : Expr} {kpos : Pos} {kws : List Keyword} (h : wE X e σ H fun x H1 => wK X kws σ H1 fun xs H2 => R (x :: xs) H2) : wK X (⟨nm, e, kpos⟩ :: kws) σ H R := ⟨_, pk_cons pE pK, h⟩
end
section
variable {X : Cx} {W : XK} {e a b o : Expr} {kws : List Keyword} {m mo : M} {mA : MA} {pos p1 p2 kpos : Pos} {ks : List Str} {ix : List Nat} {k : Nat} {C : Addr}
def SK (X : Cx) (W : XK) (kws : List Keyword) (m : MA) : Prop := ∀ ρ σ H A r Q, Gd X.K ρ σ H A → m ρ = some r → FinA X W ρ σ H A r Q → wK X kws σ H Q
theorem sk_nil : SK X W [] noA := by
  intro ρ σ H A r Q g er f
  cases er
  exact k_nil (f [] H A (.refl g) .nil)
theorem sk_cons {nm : Option Str} (he : SE X W e m) (hes : SK X W kws mA) : SK X W (⟨nm, e, kpos⟩ :: kws) (jb m mA) := by
  intro ρ σ H A r Q g er f
  refine k_cons ?_
  unfold jb at er
  cases em : m ρ with
  | none => rw [em] at er; cases er
  | some u =>
    rw [em] at er
    cases u with
    | er x => cases er; exact he ρ σ H A _ _ g em f
    | ok t c ρ1 =>
      refine he ρ σ H A _ _ g em fun v H1 A1 af1 vo => ?_
      have g1 := af1.good
      have pr : ∀ i p, At ρ1 σ i p → A p := fun i p h => g.at_ (af1.shp.at' h)
      cases em2 : mA ρ1 with
      | none => simp only [em2] at er; cases er
      | some u2 =>
        simp only [em2] at er
        cases u2 with
        | er x =>
          cases er
          refine hes ρ1 σ H1 A1 _ _ g1 em2 ?_
          have := Fin.later (X := X) (W := W) (r := .er x) (Q := fun _ _ => True) f g af1 (fun _ _ _ e => by cases e)
          exact this
        | ok ts ρ2 =>
          cases er
          refine hes ρ1 σ H1 A1 _ _ g1 em2 fun vs H2 A2 af2 vos => ?_
          exact f (v :: vs) H2 A2 (af1.trans g af2) (.cons (vo.go g1 pr af2) (vos.wide af1.sub))
/-- how many arguments -/
inductive LenA : MA → Nat → Prop
  | nil : LenA noA 0
  | cons {m : M} {mA : MA} {n : Nat} : LenA mA n → LenA (jb m mA) (n + 1)
theorem LenA.len {mA : MA} {n : Nat} (h : LenA mA n) : ∀ {ρ ts ρ'}, mA ρ = some (.ok ts ρ') → ts.length = n := by
  induction h with
  | nil => intro ρ ts ρ' e; cases e; rfl
  | @cons m mA n h ih =>
    intro ρ ts ρ' e
    unfold jb at e
    cases em : m ρ with
    | none => rw [em] at e; cases e
    | some u =>
      rw [em] at e
      cases u with
      | er x => cases e
      | ok t c ρ1 =>
        simp only at e
        cases em2 : mA ρ1 with
        | none => rw [em2] at e; cases e
        | some u2 =>
          rw [em2] at e
          cases u2 with
          | er x => cases e
          | ok ts2 ρ2 => cases e; simp [ih em2]
/-- f(k = v, ..) -/
def callK (ix : List Nat) (mA : MA) (mf : MF) : M := jK mA fun ts => mf (pk ix ts)
theorem spM_pk {mf : MF} {us : List V} {H : Hp} {Q : VK} (h : spM X.K (fun ts => mf (pk ix ts)) us H Q W) : spM X.K mf (pk ix us) H Q W := by
  obtain ⟨A, ts, r, h1, h2, h3, h4⟩ := h
  exact ⟨A, _, r, h1, rps_pk h2 ix, h3, h4⟩
theorem se_callK {x : Str} {mf : MF} (F : DfK X.prog X.w X.K X.mg X.base x ks ix k (spM X.K mf)) (hr : Room k X.A) (tk : Takes X fun c d _ H => W c d H) (h : SK X W kws mA)
    (hg : Gl X x := by rfl) (hdb : (x == ("__debug__" : Str)) = false := by decide)
    (hall : (backToKw pos (keywordEach kws X.env)).all (·.1.isSome) = true := by rfl) (hks : (backToKw pos (keywordEach kws X.env)).filterMap (·.1) = ks := by rfl)
    (hpl : ((backTo pos (starEach [] X.env)).any (·.1) || (backToKw pos (keywordEach kws X.env)).any (·.1.isNone)) = false := by rfl) (hn : LenA mA ks.length := by repeat constructor) :
    SE X W (.Call (.Name x p1) [] kws pos) (callK ix mA mf) := by
  intro ρ σ H A r Q g er f
  obtain ⟨fa, fd, ps, F, hm, hk, hb⟩ := F.ex
  refine ⟨fun σ H Q => wK X kws σ H fun zs H2 => zs.length = ks.length ∧ spM X.K mf (pk ix zs) H2 Q W, ⟨fun pins s σ H Q I h => ?_⟩, ?_⟩
  · refine wpAny_Call_Name_kw (ld_glob I hg hm ?_ hdb)
    refine PySem.W.callWith_KW0 (first := []) (h₀ := X.base) I.ok.mod.kin hk hall ?_ hpl
    refine thn (pK.run pos pins _ σ H _ I h) fun ws s2 ⟨zs, H2, I3, rz, l2, q2⟩ => ⟨I3.kIn, ?_⟩
    rw [hks]
    exact run_fnN (us := []) (vs := []) F hr hb.kbn (passes_call tk fun c d σ H h => h) I3 .nil rz rfl l2 q2
  · unfold callK jK Km at er
    cases em : mA ρ with
    | none => rw [em] at er; cases er
    | some u =>
      rw [em] at er
      cases u with
      | ok ts ρ1 => exact h ρ σ H A _ _ g em fun vs H1 A1 af vo => ⟨by rw [← vo.len]; exact hn.len em, spM_pk (call_fin g f af vo er)⟩
      | er x => cases er; exact h ρ σ H A _ _ g em f
/-- o.m(k = v, ..) -/
def methK (C : Addr) (nm : Str) (ix : List Nat) (mo : M) (mA : MA) (mf : MF) : M := bnd mo fun t _ => match t with
  | .obj C' fs => if C' = C ∧ fs.lookup nm = none then Km mA fun ts ρ => if jo ts = true then JA ρ (mf (.obj C' fs :: pk ix (ts.map (·.1)))) else none
    else fun _ => none
  | _ => fun _ => none
/-- C(k = v, ..) -/
def makeK (ix : List Nat) (mA : MA) (mf : MF) : M := makeM mA fun ts => mf (pk ix ts)
end
end Tr
end F_Tr19
section F_Tr20
set_option Elab.async false
set_option maxRecDepth 100000
set_option maxHeartbeats 4000000
set_option linter.all false
namespace Tr
open PySem PySem.Spec PyProof.Rows L2 LamX Vf
open SX (S)
def tK : Key → T
  | .inl i => .int i
  | .inr x => .str x.cps.toList
section
variable {K : PySem.W.Frag} {H H' : Hp} {A : Addr → Prop}
theorem Rpk.at_ {l : List (Key × T)} {vs : List (Key × V)} (r : Rpk K H A l vs) : ∀ {i : Nat} {p : Key × T}, l[i]? = some p → ∃ v, vs[i]? = some (p.1, v) ∧ Rp K H A p.2 v := by
  induction l generalizing vs with
  | nil => intro i p e; simp at e
  | cons x l ih =>
    cases r with
    | cons a b =>
      intro i p e
      cases i with
      | zero => simp at e; subst e; exact ⟨_, rfl, a⟩
      | succ i => exact ih b (by simpa using e)
/-- only dicts are changed, and they say the same -/
def Lkr (H H' : Hp) : Prop := ∀ p o, H p = some o → H' p = some o ∨ ∃ vs, Rd H p (.dK vs) ∧ Rd H' p (.dK vs)
theorem Rd_inj {p : Addr} {vs ws : List (Key × V)} (a : Rd H p (.dK vs)) (b : Rd H p (.dK ws)) : vs = ws := by
  rcases a with a | ⟨o, a⟩ <;> rcases b with b | ⟨o', b⟩ <;> (rw [a] at b; cases b; try rfl)
theorem Lkr.rd (k : Lkr H H') {p : Addr} {vs : List (Key × V)} (h : Rd H p (.dK vs)) : Rd H' p (.dK vs) := by
  obtain ⟨o, e⟩ := Rd_some h
  rcases k p o e with z | ⟨ws, z1, z2⟩
  · rcases h with h | ⟨ob, h⟩
    · rw [e] at h; cases h; exact .inl z
    · rw [e] at h; cases h; exact .inr ⟨_, z⟩
  · rw [Rd_inj h z1]; exact z2
theorem Lkr.oth (k : Lkr H H') {p : Addr} {o : HO} (e : H p = some o) (n1 : ∀ vs, o ≠ .dK vs) (n2 : ∀ ob vs, o ≠ .frz ob (.dK vs)) : H' p = some o := by
  rcases k p o e with z | ⟨ws, z1 | ⟨ob, z1⟩, z2⟩
  · exact z
  · rw [e] at z1; cases z1; exact (n1 _ rfl).elim
  · rw [e] at z1; cases z1; exact (n2 _ _ rfl).elim
theorem Lkr.plT (k : Lkr H H') {p : Addr} {vs : List V} (h : PlT H p vs) : PlT H' p vs := by
  obtain ⟨ob, e, r⟩ := h
  exact ⟨ob, k.oth e (fun _ z => by cases z) (fun _ _ z => by cases z), r⟩
theorem Lkr.sqT (k : Lkr H H') {p : Addr} {vs : List V} (h : SqT K H p vs) : SqT K H' p vs := by
  rcases h with (h | ⟨ob, h⟩) | h
  · exact .inl (.inl (k.oth h (fun _ z => by cases z) (fun _ _ z => by cases z)))
  · exact .inl (.inr ⟨ob, k.oth h (fun _ z => by cases z) (fun _ _ z => by cases z)⟩)
  · exact .inr h
theorem Lkr.sqF (k : Lkr H H') {p : Addr} {vs : List V} (h : SqF K H p vs) : SqF K H' p vs := by
  rcases h with ⟨ob, h⟩ | h
  · exact .inl ⟨ob, k.oth h (fun _ z => by cases z) (fun _ _ z => by cases z)⟩
  · exact .inr h
end
/-- the keys of what slot k holds, locked -/
def keyI (k : Nat) : MI := fun ρ => match ρ[k]? with
  | some (.kd l) => some (.ok (l.map fun p => tK p.1) ρ)
  | _ => none
def JH (k : Nat) (l : List (Key × T)) : Option Out → Option Out
  | some (.nx ρ) => some (.nx (ρ.set k (.va (.dct l))))
  | some (.bk ρ) => some (.bk (ρ.set k (.va (.dct l))))
  | some (.ct ρ) => some (.ct (ρ.set k (.va (.dct l))))
  | some (.rt t b ρ) => some (.rt t b (ρ.set k .no))
  | _ => none
/-- while what slot k holds is locked -/
def lockDS (k : Nat) (m : MS) : MS := fun ρ => match ρ[k]? with
  | some (.va (.dct l)) => JH k l (m (ρ.set k (.kd l)))
  | _ => m ρ
section
variable {X : Cx} {W : XK} {tg : Expr} {m : MS} {st : Stmt} {pos : Pos}
section
variable {K : PySem.W.Frag} {ρ ρ' : Sls} {σ σ' : L2.St} {H H' : Hp} {A A' : Addr → Prop} {k : Nat}
theorem at_np {s s' : Sl} (h1 : s.priv = false) (h2 : s'.priv = false) (e : ρ[k]? = some s) {j : Nat} {p : Addr} : At (ρ.set k s') σ j p ↔ At ρ σ j p := by
  constructor
  · rintro ⟨x, ex, pr, e2⟩
    by_cases c : j = k
    · subst c; rw [List.getElem?_set_self (List.getElem?_eq_some_iff.mp e).1] at ex; cases ex; rw [h2] at pr; cases pr
    · rw [List.getElem?_set_ne (fun z => c z.symm)] at ex; exact ⟨x, ex, pr, e2⟩
  · rintro ⟨x, ex, pr, e2⟩
    by_cases c : j = k
    · subst c; rw [e] at ex; cases ex; rw [h1] at pr; cases pr
    · exact ⟨x, by rw [List.getElem?_set_ne (fun z => c z.symm)]; exact ex, pr, e2⟩
theorem prv_np {s s' : Sl} (h1 : s.priv = false) (h2 : s'.priv = false) (e : ρ[k]? = some s) {p : Addr} : Prv (ρ.set k s') σ p ↔ Prv ρ σ p := by
  constructor
  · rintro ⟨j, u, ex, e2⟩
    by_cases c : j = k
    · subst c; rw [List.getElem?_set_self (List.getElem?_eq_some_iff.mp e).1] at ex; cases ex; cases h2
    · rw [List.getElem?_set_ne (fun z => c z.symm)] at ex; exact ⟨j, u, ex, e2⟩
  · rintro ⟨j, u, ex, e2⟩
    by_cases c : j = k
    · subst c; rw [e] at ex; cases ex; cases h1
    · exact ⟨j, u, by rw [List.getElem?_set_ne (fun z => c z.symm)]; exact ex, e2⟩
/-- the slot was a locked one at the start -/
theorem Run.pre {l : List (Key × T)} (e : ρ[k]? = some (.va (.dct l))) (ru : Run K (ρ.set k (.kd l)) σ H A ρ' σ' H' A') (nk : ∀ l, ρ'[k]? ≠ some (.kd l)) : Run K ρ σ H A ρ' σ' H' A' := by
  refine ⟨ru.good, fun a h => (ru.sub a h).imp id fun ⟨j, z⟩ => ⟨j, (at_np rfl rfl e).1 z⟩, ru.new, fun a o n h => ru.keep a o (fun z => n ((prv_np rfl rfl e).1 z)) h, ru.there, fun j p h => (ru.own j p h).imp (fun ⟨j, z⟩ => ⟨j, (at_np rfl rfl e).1 z⟩) id,
    fun p h => (ru.prv p h).imp (fun z => (prv_np rfl rfl e).1 z) id, fun t h => ?_, ru.len, fun j u h => ?_⟩
  · have c : k ≠ 0 := fun z => by subst z; rw [e] at h; cases h
    exact ru.c0 t (by rw [List.getElem?_set_ne c]; exact h)
  · have c : j ≠ k := fun z => by subst z; exact nk u h
    obtain ⟨a, b⟩ := ru.kds j u h
    rw [List.getElem?_set_ne (fun z => c z.symm)] at a
    exact ⟨a, b⟩
end
end
end Tr
end F_Tr20
section F_Tr21
set_option Elab.async false
set_option maxRecDepth 100000
set_option maxHeartbeats 4000000
set_option linter.all false
namespace Tr
open PySem PySem.Spec PyProof.Rows L2 LamX Vf
open SX (S)
section
variable {X : Cx} {W : XK} {e a b c o tg it elt i : Expr} {es ifs : List Expr} {m ma mb mc mo mi md : M} {mA : MA} {pos p1 p2 p3 tpos : Pos}
def JE : FA
  | [.int a, .int b] => if a.natAbs < 2 ^ 64 ∧ b.natAbs < 2 ^ 64 then some (.int ((Nat.lcm a.natAbs b.natAbs : Nat) : Int), false) else none
  | _ => none
theorem cr_lcm : CallR X (.builtin "math.lcm") (fun vs H Q => ∃ a b : Int, vs = [.int a, .int b] ∧ a.natAbs < 2 ^ 64 ∧ b.natAbs < 2 ^ 64 ∧ Q (.int ((Nat.lcm a.natAbs b.natAbs : Nat) : Int)) H) := by
  intro pins s σ H vs us Q I r h
  obtain ⟨a, b, rfl, h1, h2, q⟩ := h
  obtain ⟨t, u, rfl⟩ := Vals.int2 r
  refine PySem.W.mg_lcm_v (c := ((Nat.lcm a.natAbs b.natAbs : Nat) : Int)) h1 h2 (by rw [PySem.W.mc_lcm_one]) ?_ ⟨.int _, H, I.tok _, ⟨_, rfl⟩, q⟩
  have h3 : Nat.lcm a.natAbs b.natAbs < 2 ^ 128 := by
    refine Nat.lt_of_le_of_lt (PySem.W.mc_lcm_le _ _) ?_
    calc a.natAbs * b.natAbs ≤ 2 ^ 64 * b.natAbs := Nat.mul_le_mul_right _ (Nat.le_of_lt h1)
      _ < 2 ^ 64 * 2 ^ 64 := Nat.mul_lt_mul_of_pos_left h2 (by decide)
      _ = 2 ^ 128 := by decide
  rw [Int.natAbs_natCast]
  by_cases z : Nat.lcm a.natAbs b.natAbs = 0
  · rw [z]; decide
  · have := (Nat.log2_lt z).2 h3
    have : bitsLine = 134217728 := rfl
    omega
theorem cv_lcm : KA X (.builtin "math.lcm") JE := by
  intro H A ts xs t b Q hA r e q
  unfold JE at e
  split at e
  · split at e
    · rename_i c
      cases e
      cases r with | cons r1 r2 => cases r2 with | cons r2 r3 => cases r3; cases r1.int; cases r2.int; exact ⟨_, cr_lcm, _, _, rfl, c.1, c.2, q _ H (vE (.int _))⟩
    · cases e
  · cases e
theorem e_lcm {σ : L2.St} {H : Hp} {Q : VK} (hm : X.mg "lcm" = some (.builtin "math.lcm")) (h : wA X (e :: es) σ H fun vs H1 => cB X (.builtin "math.lcm") vs H1 Q) (hg : Gl X "lcm" := by rfl)
    (he : starEach (e :: es) X.env = (false, eval e X.env) :: starEach es X.env := by rfl) (hpl : (backTo pos (starEach es X.env)).any (·.1) = false := by rfl) : wE X (.Call (.Name "lcm" p1) (e :: es) [] pos) σ H Q := ⟨_, pe_callBfun pCB hg hm pA (by decide) he hpl, h⟩
def dgetDM (mo mi md : M) : M := bnd mo fun td cd => match td with
  | .dct _ => bnd mi fun ti ci => bnd md fun tx cx => fun ρ => match Jd cd td ρ with
    | .dct l => match Jh ti, cx with
      | some k, .va => match Wb l k with
        | some t => some (.ok t .va ρ)
        | none => some (.ok tx .va ρ)
      | _, _ => none
    | _ => none
  | _ => fun _ => none
def kw (l : List T) (u : T) : Option T := match Ji l, toD u with
    | some ds, some d => if PyData.plainAll ds = true ∧ d.plain = true ∧ d.depth ≤ 8 then some (.int ((ds.countP fun y => PyData.eqv y d : Nat) : Int)) else none
    | _, _ => none
def countM (mo m : M) : M := bnd mo fun ta ca => match ca with
  | .va => match ta.row with
    | some (false, l) => bnd m fun t _ ρ => match kw l t with
      | some u => some (.ok u .va ρ)
      | none => none
    | _ => fun _ => none
  | _ => fun _ => none
/-- list(x), also of a dict -/
def Ki : FA
  | [.dct l] => some (.lst (l.map fun p => tK p.1), true)
  | ts => KB ts
def hitsS (l2 : List (Key × T)) : List (Key × T) → Option Bool
  | [] => some true
  | (k, t) :: r => match t, Wb l2 k with
    | .str _, none => some false
    | .str a, some (.str b) => (hitsS l2 r).map (S a == S b && ·)
    | _, _ => none
def eqDT (l1 l2 : List (Key × T)) : Option Bool := if l1.length = l2.length then hitsS l2 l1 else some false
def fNeD : F2
  | .dct a, .dct b => (eqDT a b).map fun c => (.bl (!c), false)
  | a, b => fNe a b
end
end Tr
end F_Tr21
section F_Tr22
set_option Elab.async false
set_option maxRecDepth 100000
set_option maxHeartbeats 4000000
set_option linter.all false
namespace Tr
open PySem PySem.Spec PyProof.Rows L2 LamX Vf
open SX (S)
section
variable {K : PySem.W.Frag} {H1 : Hp} {A1 P : Addr → Prop}
theorem stb_va {t : T} {v : V} {l : List T} (r : Rp K H1 A1 t v) (e : t.row = some (false, l)) (hP : ∀ p, P p → A1 p) : ∃ p vs, v = .ref p ∧ SqL K H1 p vs ∧ Rps K H1 A1 l vs ∧ ∀ H A, Gon P A1 A H1 H → SqL K H p vs := by
  cases t with
  | sq z =>
    cases e
    cases r with
    | sq s r => exact ⟨_, _, rfl, s.sq, r, fun H A g => (g.sqF s).sq⟩
  | lst z =>
    cases e
    cases r with
    | lst a b c => exact ⟨_, _, rfl, SqL.of a, c, fun H A g => SqL.of (g.keep _ _ (fun z => b (hP _ z)) a)⟩
  | _ => cases e
def Wi : List T → List T → List T
  | x :: xs, y :: ys => .tpu [x, y] :: Wi xs ys
  | _, _ => []
theorem zipT_len : ∀ {xs ys : List T}, (Wi xs ys).length ≤ xs.length ∧ (Wi xs ys).length ≤ ys.length ∧ (xs.length ≤ (Wi xs ys).length ∨ ys.length ≤ (Wi xs ys).length)
  | [], ys => by simp [Wi]
  | _ :: _, [] => by simp [Wi]
  | x :: xs, y :: ys => by
    obtain ⟨a, b, c⟩ := zipT_len (xs := xs) (ys := ys)
    simp only [Wi, List.length_cons]
    omega
theorem zipT_get : ∀ {xs ys : List T} {i : Nat} {t : T}, (Wi xs ys)[i]? = some t → ∃ x y, xs[i]? = some x ∧ ys[i]? = some y ∧ t = .tpu [x, y]
  | [], _, i, t, e => by simp [Wi] at e
  | _ :: _, [], i, t, e => by simp [Wi] at e
  | x :: xs, y :: ys, 0, t, e => by simp [Wi] at e; exact ⟨x, y, rfl, rfl, e.symm⟩
  | x :: xs, y :: ys, i + 1, t, e => by simp only [Wi, List.getElem?_cons_succ] at e ⊢; exact zipT_get e
theorem src_zip {a b : Addr} {vs ws : List V} {l k : List T} (s1 : ∀ H A, Gon P A1 A H1 H → SqL K H a vs) (s2 : ∀ H A, Gon P A1 A H1 H → SqL K H b ws) (r1 : Rps K H1 A1 l vs) (r2 : Rps K H1 A1 k ws) : Src K (Itz K a b) (Wi l k) H1 A1 P := by
  intro H A g
  have q1 := s1 H A g
  have q2 := s2 H A g
  have r1' := r1.go g
  have r2' := r2.go g
  obtain ⟨l1, l2, l3⟩ := zipT_len (xs := l) (ys := k)
  refine ⟨⟨vs, ws, q1, q2, by rw [← r1.length, ← r2.length]; exact l3⟩, fun i t e => ?_⟩
  obtain ⟨x, y, e1, e2, rfl⟩ := zipT_get e
  obtain ⟨u, e3, ru⟩ := r1'.get e1
  obtain ⟨w, e4, rw4⟩ := r2'.get e2
  refine ⟨⟨vs, ws, u, w, q1, q2, e3, e4⟩, fun z H' ⟨Tt, x', y', ez, hT, eH, h1, h2⟩ => ?_⟩
  subst ez eH
  have := h1 vs q1; rw [e3] at this; cases this
  have := h2 ws q2; rw [e4] at this; cases this
  exact ⟨Jb hT, .tpu (SqT.of upd_same) (.cons (ru.go (gon_new hT)) (.cons (rw4.go (gon_new hT)) .nil))⟩
def enumT : Nat → List T → List T
  | _, [] => []
  | n, x :: xs => .tpu [.int (n : Nat), x] :: enumT (n + 1) xs
end
def zipI (mA : MA) : MI := fun ρ => match mA ρ with
  | some (.ok ts ρ') => match ts with
    | [(t, .va), (u, .va)] => match t.row, u.row with
      | some (false, l), some (false, k) => some (.ok (Wi l k) ρ')
      | _, _ => none
    | _ => none
  | some (.er x) => some (.er x)
  | none => none
def enumI (mA : MA) : MI := fun ρ => match mA ρ with
  | some (.ok ts ρ') => match ts with
    | [(t, .va)] => match t.row with
      | some (false, l) => some (.ok (enumT 0 l) ρ')
      | _ => none
    | _ => none
  | some (.er x) => some (.er x)
  | none => none
end Tr
end F_Tr22
section F_Tr23
set_option Elab.async false
set_option maxRecDepth 100000
set_option maxHeartbeats 4000000
set_option linter.all false
namespace Tr
open PySem PySem.Spec PyProof.Rows L2 LamX Vf
open SX (S)
section
variable {X : Cx} {W : XK} {e tg it elt ke : Expr} {es ifs : List Expr} {m mt mk me : M} {mi : MI} {g : MG} {pos p1 : Pos} {U : List Nat} {scope : Scope}
/-- + also of any two tuples -/
def T.tupl : T → Option (List T)
  | .tup l => some l
  | .tpu l => some l
  | _ => none
def kg : F2 := fun a b => match a.tupl, b.tupl with
  | some l, some k => if l.length + k.length ≤ big then match l, k with
      | [], _ => some (b, false)
      | _, [] => some (a, false)
      | _, _ => some (.tpu (l ++ k), false)
    else none
  | _, _ => Wk a b
theorem tupl_ok {K : PySem.W.Frag} {H : Hp} {A : Addr → Prop} {t : T} {v : V} {l : List T} (e : t.tupl = some l) (r : Rr K H A t v) : Rp K H A t v ∧ ∃ p vs, v = .ref p ∧ SqT K H p vs ∧ Rps K H A l vs := by
  cases t with
  | tup z => cases e; exact ⟨r.rp rfl, r.tup⟩
  | tpu z => cases e; exact ⟨r.rp rfl, r.tpu⟩
  | _ => cases e
theorem jA : Kw X (binaryOp .Add) kg := by
  intro H A ta tb x y t b Q hA rx ry e q
  unfold kg at e
  cases e1 : ta.tupl with
  | none => rw [e1] at e; exact bin_add H A _ _ x y t b Q hA rx ry e q
  | some l =>
    cases e2 : tb.tupl with
    | none => rw [e1, e2] at e; exact bin_add H A _ _ x y t b Q hA rx ry e q
    | some k =>
      rw [e1, e2] at e
      obtain ⟨px, p, vs, rfl, s1, r1⟩ := tupl_ok e1 rx
      obtain ⟨py, p2, ws, rfl, s2, r2⟩ := tupl_ok e2 ry
      simp only at e
      split at e
      · rename_i c
        refine ⟨_, op_catA, p, p2, vs, ws, rfl, rfl, s1, s2, by have := JO; rw [← r1.length, ← r2.length]; omega, fun z => ?_, fun z1 z2 => ?_, fun z1 z2 p3 hp => ?_⟩
        · subst z; cases r1; cases e; exact q _ H ⟨fun _ _ e => e, py⟩
        · subst z2; cases r2
          cases r1 with
          | nil => exact absurd rfl z1
          | cons _ _ => cases e; exact q _ H ⟨fun _ _ e => e, px⟩
        · cases r1 with
          | nil => exact absurd rfl z1
          | @cons a1 b1 c1 d1 h1 h2 =>
            cases r2 with
            | nil => exact absurd rfl z2
            | @cons a2 b2 c2 d2 h3 h4 => cases e; exact q _ _ (nw_tpu hp ((Rps.cons h1 h2).append (.cons h3 h4)))
      · cases e
/-- {} -/
theorem se_dict0 : SE X W (.Dict [] [] pos) (fun ρ => some (.ok (.dct []) .ow ρ)) := by
  intro ρ σ H A r Q g er f
  cases er
  refine ⟨_, pe_dnewK, fun p hp => ?_⟩
  obtain ⟨A2, af2, vo2⟩ := (Aft.refl g).nw g (nw_dct hp .nil)
  exact f _ _ A2 af2 vo2
theorem bt_one {c : Expr} (h : ∀ (s : Shared) (H0 : Hp) (C : Addr) (cl : List (Str × Addr)) (fp : List Addr), ST (X.blk s H0 scope (compEnvC scope cl C X.env) fp) E0 c mt) : BT X scope [c] mt := h
end
end Tr
end F_Tr23
section F_Tr24
set_option Elab.async false
set_option maxRecDepth 100000
set_option maxHeartbeats 4000000
set_option linter.all false
namespace Tr
open PySem PySem.Spec PyProof.Rows L2 LamX Vf
open SX (S)
def cutI {α : Type} (l : List α) (lo hi : Option Int) : List α := (l.drop (HT.sIx l.length 0 lo)).take (HT.sIx l.length l.length hi - HT.sIx l.length 0 lo)
def Jw (lo hi : Option Int) (t : T) : Option (T × Bool) := match t with
  | .str l => if l.length ≤ big then some (.str (cutI l lo hi), false) else none
  | .lst l => some (.lst (cutI l lo hi), true)
  | .sq l => some (.lst (cutI l lo hi), true)
  | t => match t.tupl with
    | some l => if HT.sIx l.length 0 lo = 0 ∧ HT.sIx l.length l.length hi = l.length then some (t, false) else some (.tpu (cutI l lo hi), false)
    | none => none
def bO (mo : Option M) (k : Option Int → M) : M := match mo with
  | none => k none
  | some m => bnd m fun t _ => match t with
    | .int i => k (some i)
    | _ => fun _ => none
def Wy (m : M) (lo hi : Option M) : M := bnd m fun t c => bO lo fun l => bO hi fun u => fun ρ => Jg (Jw l u (Jd c t ρ)) ρ
section
variable {X : Cx} {W : XK} {a : Expr} {ma : M} {pos p2 : Pos}
theorem Rps.cutI {K : PySem.W.Frag} {H : Hp} {A : Addr → Prop} {l : List T} {vs : List V} (r : Rps K H A l vs) (lo hi : Option Int) : Rps K H A (Tr.cutI l lo hi) (cutV vs lo hi) := by
  unfold Tr.cutI cutV
  rw [r.length]
  exact (r.drop _).take _
theorem slI_ok {lo hi : Option Int} {H : Hp} {A : Addr → Prop} {t : T} {x : V} {u : T} {bb : Bool} {Q : VK} (rx : Rr X.K H A t x) (e : Jw lo hi t = some (u, bb)) (q : ∀ v H', Nw X.K A H u bb v H' → Q v H') : slB X x lo hi H Q := by
  unfold Jw at e
  split at e
  · rename_i l
    split at e
    · rename_i cc
      cases e
      cases rx.str
      refine ⟨_, sl_str, S l, rfl, by rw [SX.S_len]; have := JO; omega, ?_⟩
      have : cutS (S l) lo hi = S (Tr.cutI l lo hi) := by unfold cutS Tr.cutI; rw [SX.S_len]
      rw [this]
      exact q _ H (vE (.str _))
    · cases e
  · cases e
    obtain ⟨p, vs, rfl, s, rs⟩ := rx.lst
    exact sl_L (SqL.of s) fun p2 hp => q _ _ (nw_lst hp (rs.cutI lo hi))
  · cases e
    obtain ⟨p, vs, rfl, s, rs⟩ := rx.sq
    exact sl_L s fun p2 hp => q _ _ (nw_lst hp (rs.cutI lo hi))
  · cases e1 : t.tupl with
    | none => rw [e1] at e; cases e
    | some l =>
      rw [e1] at e
      obtain ⟨px, p, vs, rfl, s1, r1⟩ := tupl_ok e1 rx
      have len := r1.length
      refine ⟨_, sl_tupA, p, vs, rfl, s1, fun z => ?_, fun z p2 hp => ?_⟩
      · rw [← len] at z
        simp only [if_pos z] at e
        cases e
        exact q _ H ⟨fun _ _ e => e, px⟩
      · rw [← len] at z
        simp only [if_neg z] at e
        cases e
        exact q _ _ (nw_tpu hp (r1.cutI lo hi))
inductive BdE (X : Cx) (W : XK) : Option Expr → Option M → Prop
  | none : BdE X W none none
  | some {e : Expr} {m : M} (h : SE X W e m) : BdE X W (some e) (some m)
theorem BdE.bind {e : Option Expr} {mo : Option M} (h : BdE X W e mo) {ρ : Sls} {σ : L2.St} {H : Hp} {A : Addr → Prop} {r : Ans} {Q : VK} {k : Option Int → M} (g : Gd X.K ρ σ H A) (er : bO mo k ρ = Option.some r) (f : Fin X W ρ σ H A r Q) {R : Option Int → Hp → Prop}
    (hk : ∀ l ρ1 H1 A1, k l ρ1 = Option.some r → Aft X.K ρ σ H A ρ1 H1 A1 → R l H1) : wP X e σ H R := by
  cases h with
  | none => exact p_none (hk _ ρ H A er (.refl g))
  | some h =>
    refine p_some (h.bind g er f fun t c ρ1 v H1 A1 ek af vo => ?_)
    cases t with
    | int i => exact ⟨i, (vo.rr af.good).int, hk _ ρ1 H1 A1 ek af⟩
    | _ => cases ek
theorem se_sliceE {lo hi : Option Expr} {l u : Option M} (h : SE X W a ma) (hl : BdE X W lo l) (hu : BdE X W hi u) : SE X W (.Subscript a (.Slice lo hi none p2) pos) (Wy ma l u) := by
  intro ρ σ H A r Q g er f0
  refine e_slice (h.bind g er f0 fun t cc ρ1 x H1 A1 ek af vx => ?_)
  have g1 := af.good
  have pr1 : ∀ i p, At ρ1 σ i p → A p := fun i p h => g.at_ (af.shp.at' h)
  have f1 := f0.go g af
  refine hl.bind g1 ek f1 fun i ρ2 H2 A2 ek2 af2 => ?_
  refine hu.bind af2.good ek2 (f1.go g1 af2) fun j ρ3 H3 A3 ek3 af3 => ?_
  have vx3 := vx.go g1 pr1 (af2.trans g1 af3)
  have af13 := (af.trans g af2).trans g af3
  unfold Jg at ek3
  cases ef : Jw i j (Jd cc t ρ3) with
  | none => rw [ef] at ek3; cases ek3
  | some w =>
    obtain ⟨t2, bb⟩ := w
    rw [ef] at ek3
    cases ek3
    refine slI_ok (vx3.rr af13.good) ef fun v H4 n => ?_
    obtain ⟨A4, af4, vo4⟩ := af13.nw g n
    exact f0 v H4 A4 af4 vo4
end
end Tr
end F_Tr24
section F_Tr25
set_option Elab.async false
set_option maxRecDepth 100000
set_option maxHeartbeats 4000000
set_option linter.all false
namespace Tr
open PySem PySem.Spec PyProof.Rows L2 LamX Vf
open SX (S)
def parS3 (i j l : Nat) (mA : MA) : MS := fun ρ => match mA ρ with
  | some (.ok [(t, c), (u, d), (w, e)] ρ1) => if c.free = true ∧ d.free = true ∧ e.free = true then match jB false i t .va ρ1 with
      | some ρ2 => match jB false j u .va ρ2 with
        | some ρ3 => match jB false l w .va ρ3 with
          | some ρ4 => some (.nx ρ4)
          | none => none
        | none => none
      | none => none
    else none
  | some (.er x) => some (.er x)
  | _ => none
def rng3I (mA : MA) : MI := fun ρ => match mA ρ with
  | some (.ok [(.int i, _), (.int j, _), (.int c, _)] ρ') => if c = -1 ∧ (-(2 ^ 62) ≤ i ∧ i < 2 ^ 62 ∧ -(2 ^ 62) ≤ j ∧ j < 2 ^ 62) then some (.ok ((List.range (i - j).toNat).map fun k => .int (i + ((k : Nat) : Int) * -1)) ρ') else none
  | some (.er x) => some (.er x)
  | _ => none
end Tr
end F_Tr25
section F_EndL
set_option Elab.async false
set_option maxRecDepth 100000
set_option maxHeartbeats 4000000
set_option linter.all false
namespace Vf
open PySem PySem.Spec PyProof.Rows L2 LamX
/-- an empty table of code objects -/
abbrev noTab : Obj := { cls := .none, data := .fields #[] }
abbrev script (vs : List Value) : Obj := { cls := .type "list", data := .seq vs.toArray }
/-- what is tracked when the law is called: the empty tables, and the script where the written part has it not -/
structure Begin (P : Program) (w : World) (K : PySem.W.Frag) (h : Heap) (H : Hp) (tabs : List Addr) (a : Addr) (vs : List Value) (ns : List Int) : Prop where
  seq : SqL K H a (ns.map V.int)
  tab : ∀ b ∈ tabs, H b = some (.tbl #[])
  ok : HOk P w H h
  only : ∀ b u, H b = some u → (b ∈ tabs ∧ u = .tbl #[]) ∨ (b = a ∧ K.lookup a = none ∧ u = .frz (script vs) (.lst (ns.map V.int)))
section
variable {P : Program} {w : World} {K : PySem.W.Frag} {mg mb : Str → Option Value} {CX : CXT} {h : Heap} {H : Hp} {tabs : List Addr} {a : Addr} {vs : List Value} {ns : List Int}
theorem begin_of (ha : h.get? a = some (script vs)) (hT : ∀ b ∈ tabs, h.get? b = some noTab) (hi : IntsAre vs ns) (hl : ns.length ≤ sizeLine) (KX : K.In h) : ∃ H, Begin P w K h H tabs a vs ns := by
  classical
  have len : vs.length = ns.length := hi.length
  have off : a ∉ tabs := fun z => by
    have := (hT a z).symm.trans ha
    injection this with this
    injection this with this
    cases this
  let F : HO := .frz (script vs) (.lst (ns.map V.int))
  cases hk : K.lookup a with
  | some o =>
    have eo : o = script vs := Option.some.inj ((KX a o hk).symm.trans ha)
    refine ⟨fun b => if b ∈ tabs then some (.tbl #[]) else none, ⟨.inr ⟨o, vs.toArray, 0, hk, by rw [eo], by rw [eo], by rw [eo], by rw [List.size_toArray, len]; exact hl, by simpa using vals_ints hi⟩, fun b m => if_pos m, fun b u z => ?_, fun b u z => ?_⟩⟩
    · have z : (if b ∈ tabs then some (HO.tbl #[]) else none) = some u := z
      split at z
      · cases z; exact hT b ‹_›
      · cases z
    · have z : (if b ∈ tabs then some (HO.tbl #[]) else none) = some u := z
      split at z
      · cases z; exact .inl ⟨‹_›, rfl⟩
      · cases z
  | none =>
    refine ⟨fun b => if b = a then some F else if b ∈ tabs then some (.tbl #[]) else none, ⟨.inl (.inr ⟨script vs, if_pos rfl⟩), fun b m => ?_, fun b u z => ?_, fun b u z => ?_⟩⟩
    · have ne : b ≠ a := fun e => off (e ▸ m)
      exact (if_neg ne).trans (if_pos m)
    · have z : (if b = a then some F else if b ∈ tabs then some (HO.tbl #[]) else none) = some u := z
      split at z
      · rename_i e
        cases z
        subst e
        exact ⟨ha, by rw [List.length_map]; exact hl, vs, 0, vals_ints hi, ha⟩
      · split at z
        · cases z; exact hT b ‹_›
        · cases z
    · have z : (if b = a then some F else if b ∈ tabs then some (HO.tbl #[]) else none) = some u := z
      split at z
      · cases z; exact .inr ⟨‹_›, hk, rfl⟩
      · split at z
        · cases z; exact .inl ⟨‹_›, rfl⟩
        · cases z
/-- all that is neither a list nor a table is untracked -/
theorem Begin.free (B : Begin P w K h H tabs a vs ns) (ha : h.get? a = some (script vs)) (hT : ∀ b ∈ tabs, h.get? b = some noTab) {b : Addr} {o : Obj} (e : h.get? b = some o) (n1 : ∀ xs n, o.data ≠ .seq xs n) (n2 : o.data ≠ .fields #[]) : H b = none := by
  cases q : H b with
  | none => rfl
  | some u =>
    rcases B.only b u q with ⟨m, _⟩ | ⟨rfl, _⟩
    · have z := Option.some.inj ((hT b m).symm.trans e)
      rw [← z] at n2
      exact absurd rfl n2
    · have z := Option.some.inj (ha.symm.trans e)
      rw [← z] at n1
      exact absurd rfl (n1 _ _)
theorem Begin.names (B : Begin P w K h H tabs a vs ns) (ha : h.get? a = some (script vs)) (hT : ∀ b ∈ tabs, h.get? b = some noTab) {b : Addr} {m : Str → Option Value} (n : h.Ns b m) : (hidT h H).Ns b m := by
  obtain ⟨o, es, ep, e, d, r⟩ := n
  exact ⟨o, es, ep, hidT_get e (B.free ha hT e (fun xs n z => by rw [d] at z; cases z) fun z => by rw [d] at z; cases z), d, r⟩
theorem Begin.kin (B : Begin P w K h H tabs a vs ns) (KX : K.In h) (nT : ∀ b ∈ tabs, K.lookup b = none) : K.In (hidT h H) := fun b o e => by
  refine hidT_get (KX b o e) ?_
  cases q : H b with
  | none => rfl
  | some u =>
    rcases B.only b u q with ⟨m, _⟩ | ⟨rfl, k, _⟩
    · rw [nT b m] at e; cases e
    · rw [k] at e; cases e
/-- the names and the tables' codes as the base sees them -/
theorem Begin.mod (B : Begin P w K h H tabs a vs ns) (ha : h.get? a = some (script vs)) (hT : ∀ b ∈ tabs, h.get? b = some noTab) (KX : K.In h) (nT : ∀ b ∈ tabs, K.lookup b = none) (hns : h.Ns mainGlobals mg) (hb : h.Ns builtinsNs mb) (hbb : ∀ x : Str, x ≠ "__name__" → mb x = bootBuiltins x) (hlim : h.NoLimit) : L2.Mod K mg (hidT h H) := by
  obtain ⟨mc, h1, h2⟩ := hlim
  exact ⟨B.kin KX nT, B.names ha hT hns, ⟨mb, B.names ha hT hb, hbb⟩, mc, B.names ha hT h1, h2⟩
theorem Begin.code (B : Begin P w K h H tabs a vs ns) (ha : h.get? a = some (script vs)) (hT : ∀ b ∈ tabs, h.get? b = some noTab) (hns : h.Ns mainGlobals mg) {c : Addr × Addr} (C : PySem.W.CodeHd h c.1 c.2) (m : c.2 ∈ tabs)
    (hbm : ∃ (bm : Addr) (ob : Obj), mg "__builtins__" = some (.ref bm) ∧ bm ≠ builtinsNs ∧ h.get? bm = some ob ∧ ob.cls = .type "module" ∧ ob.dict = some builtinsNs ∧ ob.data = .plain) : TabB (hidT h H) mg c.1 c.2 := by
  have tc := hT _ m
  refine ⟨?_, ?_, fun z => ?_⟩
  · obtain ⟨o, us, file, tf, flags, tg, inF, text, tt, e, r1, d, sz, r⟩ := C
    have fr : H c.1 = none := B.free ha hT e (fun xs n z => by rw [d] at z; cases z) (fun z => by rw [d] at z; cases z; simp at sz)
    exact ⟨o, us, file, tf, flags, tg, inF, text, tt, hidT_get e fr, r1, d, sz, r⟩
  · obtain ⟨bm, ob, b1, b2, b3, b4, b5, b6⟩ := hbm
    refine ⟨bm, ob, b1, b2, fun q => ?_, fun q => ?_, hidT_get b3 (B.free ha hT b3 (fun xs n z => by rw [b6] at z; cases z) fun z => by rw [b6] at z; cases z), b4, b5, b6⟩
    · obtain ⟨o, es, ep, e, d, _⟩ := hns
      rw [q] at b3
      rw [Option.some.inj (e.symm.trans b3), b6] at d
      cases d
    · rw [q] at b3
      rw [← Option.some.inj (tc.symm.trans b3)] at b6
      cases b6
  · obtain ⟨o, es, ep, e, d, _⟩ := hns
    rw [z] at e
    rw [Option.some.inj (e.symm.trans tc)] at d
    cases d
end
/-- the call of the law: true, the old things kept but for what the tables have got -/
theorem run_law {P : Program} {w : World} {K : PySem.W.Frag} {mg mb : Str → Option Value} {CX : CXT} {k : Nat} {fa a : Addr} {cs : List (Addr × Addr)} {fd : FuncData} {x : Str} {sp : Sp} {s : Shared} {vs : List Value} {ns : List Int} (KX : K.In s.heap) (hns : s.heap.Ns mainGlobals mg)
    (hb : s.heap.Ns builtinsNs mb) (hbb : ∀ x : Str, x ≠ "__name__" → mb x = bootBuiltins x) (hlim : s.heap.NoLimit) (hg : s.gens = #[]) (hT : ∀ c ∈ cs, s.heap.get? c.2 = some noTab) (nT : ∀ c ∈ cs, K.lookup c.2 = none) (C : ∀ c ∈ cs, PySem.W.CodeHd s.heap c.1 c.2)
    (hbm : ∃ (bm : Addr) (ob : Obj), mg "__builtins__" = some (.ref bm) ∧ bm ≠ builtinsNs ∧ s.heap.get? bm = some ob ∧ ob.cls = .type "module" ∧ ob.dict = some builtinsNs ∧ ob.data = .plain) (ha : s.heap.get? a = some (script vs)) (hi : IntsAre vs ns) (hl : ns.length ≤ sizeLine) (hr : Room k callerA)
    (F : ∀ base : Heap, K.In base → base.Ns mainGlobals mg → (∀ c ∈ cs, TabB base mg c.1 c.2) → FnG P w K mg base CX k fa fd [x] sp) (bind : ∀ (s : Shared) (u : Value), BindsTo s fd ⟨[u], []⟩ [(x, u)])
    (wish : ∀ H : Hp, (∀ c ∈ cs, H c.2 = some (.tbl #[])) → SqL K H a (ns.map V.int) → sp [.ref a] H (fun v _ => v = .bl true) fun _ _ _ => False) (calm : ∀ H e s', CX [] H s (fun _ _ _ => False) e s' → False) :
    codeAny (model P w) callerA (.call (.ref fa) ⟨[.ref a], []⟩) (fun r s' => r = .ok (.ret (.bool true)) ∧ OldK s.heap s'.heap ∧ s'.os = s.os ∧ AllBare s'.gens) s := by
  have hT' : ∀ b ∈ cs.map (·.2), s.heap.get? b = some noTab := fun b m => let ⟨c, hc, e⟩ := List.mem_map.mp m; e ▸ hT c hc
  have nT' : ∀ b ∈ cs.map (·.2), K.lookup b = none := fun b m => let ⟨c, hc, e⟩ := List.mem_map.mp m; e ▸ nT c hc
  have mem : ∀ c ∈ cs, c.2 ∈ cs.map (·.2) := fun c m => List.mem_map.mpr ⟨c, m, rfl⟩
  obtain ⟨H, B⟩ := begin_of (P := P) (w := w) ha hT' hi hl KX
  have names := B.names ha hT' hns
  have env : Env0 P w K mg (hidT s.heap H) callerA [] s H := ⟨rfl, B.mod ha hT' KX nT' hns hb hbb hlim, fun _ _ e => of_hidT e, Nat.le_of_eq (hidT_size _ _), trivial, fun b m => (by cases m), B.ok, .of_eq hg⟩
  have G := F _ (B.kin KX nT') names fun c m => B.code ha hT' hns (C c m) (mem c m) hbm
  refine codeAny_mono (G.run callerA [] s H ⟨[.ref a], []⟩ [.ref a] [.ref a] _ _ hr rfl env (bind s (.ref a)) (.cons rfl .nil) (wish H (fun c m => B.tab _ (mem c m)) B.seq)) fun r s' got => ?_
  match r, got with
  | .error e, got => exact (calm H e s' got).elim
  | .ok .next, got => exact False.elim got
  | .ok .brk, got => exact False.elim got
  | .ok .cont, got => exact False.elim got
  | .ok (.ret u), got =>
    obtain ⟨v, H', os, bare, un, ok', rel, ev⟩ := got
    have ev : v = .bl true := ev
    subst ev
    obtain rfl : u = Value.bool true := rel
    have kept : ∀ b o, b ∉ cs.map (·.2) → s.heap.get? b = some o → s'.heap.get? b = some o := fun b o off e => by
      cases q : H b with
      | none => exact un.keep b o e q (fun z => by cases z) (by simp)
      | some u =>
        rcases B.only b u q with ⟨m, _⟩ | ⟨_, _, rfl⟩
        · exact absurd m off
        · have e1 := (B.ok b _ q).1
          have e2 := (ok' b _ (un.frzs b _ _ q)).1
          exact e2.trans (e1.symm.trans e)
    have more : ∀ b ∈ cs.map (·.2), ∃ xs : Array Value, s'.heap.get? b = some { cls := .none, data := .fields xs } := fun b m => by
      obtain ⟨xs, z⟩ := un.tbls b #[] (B.tab b m)
      exact ⟨_, ok' b _ z⟩
    refine ⟨rfl, ⟨fun b o e => ?_, fun b o e => ?_⟩, os, bare⟩
    · by_cases m : b ∈ cs.map (·.2)
      · obtain ⟨xs, z⟩ := more b m
        obtain ⟨c, hc, rfl⟩ := List.mem_map.mp m
        have eo := Option.some.inj ((hT c hc).symm.trans e)
        subst eo
        exact .inr (.inl ⟨((C c hc).tab (hT c hc)).isCodeTable, rfl, #[], xs, rfl, by rw [Array.empty_append]; exact z⟩)
      · exact .inl (kept b o m e)
    · by_cases m : b ∈ cs.map (·.2)
      · exact let ⟨xs, z⟩ := more b m; ⟨_, z⟩
      · exact ⟨o, kept b o m e⟩
theorem walkG {l : PySem.W.OpenLaw} {n k : Nat} {q : Program} {loose : List Str} {XP : (Str → Option Value) → Heap → Prop} {YP : World → Heap → Prop} {d : DefRec} {K : Params → PySem.W.Frag} {CX : World → CXT} {x : Str} (hn : l.most = some n) (hn2 : n ≤ sizeLine) (hdf : d.params.defaults = []) (hr : Room k callerA)
    (hY : ∀ (w : World) (h : Heap), YP w h → (K w.params).In h) (F : ∀ (w : World) (mg : Str → Option Value) (fa : Addr) (h : Heap), YP w h → (K w.params).In h → h.Ns mainGlobals mg → mg d.name = some (.ref fa) → LawAtG l w (K w.params) (CX w) k n x mg fa h)
    (calm : ∀ (w : World) (H : Hp) (s : Shared) (e : Value) (s' : Shared), CX w [] H s (fun _ _ _ => False) e s' → False) : PySem.W.WalkO q loose XP YP l.row.toRowW d [] (fun f vs => PySem.call f vs) := by
  refine Att.attach_callB hn hdf fun w s0 s1 mg mb fa o pm cd doc a vs ns G Y ho hd hcd hmg hobj hints hlen hbits hg => ?_
  obtain ⟨fd, cs, sp, hT, nT, C, bind, wish, hF⟩ := F w mg fa _ Y (hY w _ Y) G.T.g hmg
  exact run_law (hY w _ Y) G.T.g G.T.b G.T.builtins G.T.nolimit hg hT nT C G.T.bmain hobj hints (Nat.le_trans hlen hn2) hr hF bind (fun H tH sH => wish H a ns hlen hbits tH sH) fun H e s' => calm w H s1 e s'
end Vf
end F_EndL
section F_Tr26
set_option Elab.async false
set_option maxRecDepth 100000
set_option maxHeartbeats 4000000
set_option linter.all false
namespace Tr
open PySem PySem.Spec PyProof.Rows L2 LamX Vf
open SX (S)
theorem rps_ints {K : PySem.W.Frag} {H : Hp} {A : Addr → Prop} : ∀ ns : List Int, Rps K H A (ns.map .int) (ns.map V.int)
  | [] => .nil
  | n :: ns => .cons (.int n) (rps_ints ns)
/-- the script is one list or the other -/
theorem script_is {K : PySem.W.Frag} {H : Hp} {a : Addr} {ns : List Int} (s : SqL K H a (ns.map V.int)) : ∃ t, (t = T.sq (ns.map .int) ∨ t = T.lst (ns.map .int)) ∧ Rp K H (fun _ => False) t (.ref a) := by
  rcases s with (s | ⟨o, s⟩) | s
  · exact ⟨_, .inr rfl, .lst s (fun z => z) (rps_ints ns)⟩
  · exact ⟨_, .inl rfl, .sq (.inl ⟨o, s⟩) (rps_ints ns)⟩
  · exact ⟨_, .inl rfl, .sq (.inr s) (rps_ints ns)⟩
theorem wish_of {K : PySem.W.Frag} {m : MF} (hm : ∀ ns : List Int, ns.length ≤ 63 → ∀ t, (t = T.sq (ns.map .int) ∨ t = T.lst (ns.map .int)) → m [t] = some (.ok (.bl true) false)) {H : Hp} {a : Addr} {ns : List Int} (hl : ns.length ≤ 63) (s : SqL K H a (ns.map V.int)) :
    spM K m [.ref a] H (fun v _ => v = .bl true) fun _ _ _ => False := by
  obtain ⟨t, ht, r⟩ := script_is s
  exact ⟨fun _ => False, [t], .ok (.bl true) false, fun _ z => z.elim, .cons r .nil, hm ns hl t ht, fun v H' n => Rp.bl' n.2⟩
theorem lawAt_of {l : PySem.W.OpenLaw} {w : World} {K : PySem.W.Frag} {mg : Str → Option Value} {fa : Addr} {h : Heap} {k : Nat} {m : MF}
    (F : ∃ fd : FuncData, (∀ (s : Shared) (u : Value), BindsTo s fd ⟨[u], []⟩ [("script", u)]) ∧ ∀ base : Heap, FnG l.prog w K mg base (L2.CX l.prog w) k fa fd ["script"] (spM K m))
    (hm : ∀ ns : List Int, ns.length ≤ 63 → ∀ t, (t = T.sq (ns.map .int) ∨ t = T.lst (ns.map .int)) → m [t] = some (.ok (.bl true) false)) : LawAtG l w K (L2.CX l.prog w) k 63 "script" mg fa h := by
  obtain ⟨fd, hb, hF⟩ := F
  exact ⟨fd, ([] : List (Addr × Addr)), spM K m, (fun p z => nomatch z), (fun p z => nomatch z), (fun p z => nomatch z), hb, fun H a ns hl _ _ s => wish_of hm hl s, fun base _ _ _ => hF base⟩
theorem calm_of {P : Program} {w : World} {H : Hp} {s : Shared} {e : Value} {s' : Shared} (h : L2.CX P w [] H s (fun _ _ _ => False) e s') : False := by
  obtain ⟨_, _, _, _, _, _, _, _, _, _, _, _, _, _, _, z⟩ := h
end Tr
end F_Tr26
section F_Tr28
set_option Elab.async false
set_option maxRecDepth 100000
set_option maxHeartbeats 4000000
set_option linter.all false
namespace Vf
open PySem PySem.Spec PyProof.Rows L2 LamX
end Vf
end F_Tr28
section F_Tr29
set_option Elab.async false
set_option maxRecDepth 100000
set_option maxHeartbeats 4000000
set_option linter.all false
namespace Tr
open PySem PySem.Spec PyProof.Rows L2 LamX Vf
open SX (S)
def fMulT : F2
  | .tup a, .int k => if a ≠ [] ∧ 2 ≤ k ∧ k ≤ 1000 ∧ a.length ≤ 1000 then some (.tpu (List.replicate k.toNat a).flatten, false) else none
  | a, b => vK a b
section
variable {X : Cx}
theorem bin_mulT : Kw X (binaryOp .Mult) fMulT := by
  intro H A ta tb x y t b Q hA rx ry e q
  unfold fMulT at e
  split at e
  · rename_i a k
    split at e
    · rename_i c
      cases e
      obtain ⟨p, vs, rfl, e1, r1⟩ := rx.tup
      cases ry.int
      have l1 := r1.length
      refine ⟨_, op_repT, p, k, vs, rfl, rfl, e1, fun z => c.1 (by rw [z] at l1; exact List.eq_nil_of_length_eq_zero l1), c.2.1, c.2.2.1, by rw [← l1]; exact c.2.2.2, fun p hp => q _ _ (nw_tpu hp (r1.rep _))⟩
    · cases e
  · exact Jj H A _ _ x y t b Q hA rx ry e q
end
end Tr
end F_Tr29
section F_Tr31
set_option Elab.async false
set_option maxRecDepth 100000
set_option maxHeartbeats 4000000
set_option linter.all false
namespace Vf
open PySem PySem.Spec PyProof.Rows L2 LamX
end Vf
end F_Tr31
section F_Tr32
set_option Elab.async false
set_option maxRecDepth 100000
set_option maxHeartbeats 4000000
set_option linter.all false
namespace Vf
open PySem PySem.Spec PyProof.Rows L2 LamX
end Vf
end F_Tr32
section F_Tr33
set_option Elab.async false
set_option maxRecDepth 100000
set_option maxHeartbeats 4000000
set_option linter.all false
namespace Vf
open PySem PySem.Spec PyProof.Rows L2 LamX
/-- a tuple once is itself -/
theorem mul_once (l : Addr) (its : Array Value) (n : Nat) (dd : Option Addr) (sl : Array (Option Value)) (u : Tok) :
    Meets (Builtin.«tuple.__mul__» ⟨[.ref l, .int 1 u], []⟩) (fun _ R s => s.heap.get? l = some { cls := .type "tuple", dict := dd, data := .seq its n, slots := sl } ∧ R (.ok (.ret (.ref l))) s) :=
  .of_wp fun prog w A R s h => by
    have c0 : (decide ((1 : Int) < -(2 ^ 63)) || decide ((1 : Int) ≥ 2 ^ 63)) = false := by decide
    have c1 : (its.isEmpty || (1 : Int) == 1) = true := by simp
    obtain ⟨a1, a2, a3, a4, a5⟩ := s
    obtain ⟨hl, h⟩ := h
    have fi := AutoSeq1.idx_int
    wp_walk using wpAny_loadPart' hl
    repeat (first
      | (refine wpAny_ite_false (decide_eq_false (by rw [c0]; exact Bool.false_ne_true)) ?_; wp_walk using wpAny_loadPart' hl)
      | (refine wpAny_ite_true (decide_eq_true c1) ?_; wp_walk using wpAny_loadPart' hl))
    exact ⟨_, rfl, h⟩
variable {X : Cx}
theorem op_once : OpR X (binaryOp .Mult) (fun x y H Q => ∃ l xs, x = .ref l ∧ y = .int 1 ∧ SqT X.K H l xs ∧ Q (.ref l) H) := by
  intro pins s σ H x y v u Q I rx ry h
  obtain ⟨l, xs, rfl, rfl, hT, q⟩ := h
  cases rx
  obtain ⟨t, rfl⟩ := ry
  obtain ⟨its, _, ⟨⟨cls, dd, data, sl⟩, ho, hc, n, hd⟩, _⟩ := I.tuple hT
  simp only at hc hd
  subst hc hd
  exact wpAny_binaryOp_repeat_ref (T := "tuple") (U := "int") (by decide) ⟨_, ho, rfl⟩ (fun s' => typeIs_int s' 1 t) noFill_tuple_mul F.fills_int_mul F.slot_int_rmul repeat_tuple F.slot_int_index.lookup
    (call_meets F.slot_int_rmul (typeIs_int s 1 t) F.entry_int_rmul (F.args_int_rmul_2 _ _) (int_rmul_tuple 1 t l its.toArray n dd sl)
      ⟨ho, rfl, ⟨_, ho, rfl⟩, call_meets F.slot_tuple_mul ⟨_, ho, rfl⟩ F.entry_tuple_mul (F.args_tuple_mul_2 _ _) (mul_once l its.toArray n dd sl t) ⟨ho, .ref l, H, I, rfl, q⟩⟩)
end Vf
namespace Tr
open PySem PySem.Spec PyProof.Rows L2 LamX Vf
open SX (S)
def fMulO : F2 := fun a b => match a, b with
  | .tup l, .int k => if k = 1 then some (.tup l, false) else fMulT (.tup l) (.int k)
  | a, b => fMulT a b
section
variable {X : Cx}
theorem bin_mulO : Kw X (binaryOp .Mult) fMulO := by
  intro H A ta tb x y t b Q hA rx ry e q
  unfold fMulO at e
  split at e
  · rename_i l k
    split at e
    · rename_i c
      subst c
      cases e
      obtain ⟨p, vs, rfl, e1, r1⟩ := rx.tup
      cases ry.int
      exact ⟨_, op_once, p, vs, rfl, rfl, e1, q _ H (vE (rx.rp rfl))⟩
    · exact bin_mulT H A _ _ x y t b Q hA rx ry e q
  · exact bin_mulT H A _ _ x y t b Q hA rx ry e q
end
end Tr
end F_Tr33
section F_Tr34
set_option Elab.async false
set_option maxRecDepth 100000
set_option maxHeartbeats 4000000
set_option linter.all false
namespace Vf
open PySem PySem.Spec PyProof.Rows L2 LamX
variable {X : Cx}
/-- a tuple no times: a new one -/
theorem mul_none (l : Addr) (its : Array Value) (n : Nat) (dd : Option Addr) (sl : Array (Option Value)) (u : Tok) (hne : its.isEmpty = false) :
    Meets (Builtin.«tuple.__mul__» ⟨[.ref l, .int 0 u], []⟩) (fun _ R s => s.heap.get? l = some { cls := .type "tuple", dict := dd, data := .seq its n, slots := sl } ∧ R (.ok (.ret (.ref s.heap.objs.size))) { s with heap := s.heap.push { cls := .type "tuple", data := .seq #[] } }) :=
  .of_wp fun prog w A R s h => by
    have c0 : (decide ((0 : Int) < -(2 ^ 63)) || decide ((0 : Int) ≥ 2 ^ 63)) = false := by decide
    have c1 : (its.isEmpty || (0 : Int) == 1) = false := by simp [hne]
    obtain ⟨a1, a2, a3, a4, a5⟩ := s
    obtain ⟨hl, h⟩ := h
    have fi := AutoSeq1.idx_int
    wp_walk using wpAny_loadPart' hl
    repeat (first
      | (refine wpAny_ite_false (decide_eq_false (by rw [c0]; exact Bool.false_ne_true)) ?_; wp_walk using wpAny_loadPart' hl)
      | (refine wpAny_ite_false (decide_eq_false (by rw [c1]; exact Bool.false_ne_true)) ?_; wp_walk using wpAny_loadPart' hl))
    exact ⟨_, rfl, h⟩
theorem op_noTimes : OpR X (binaryOp .Mult) (fun x y H Q => ∃ l xs, x = .ref l ∧ y = .int 0 ∧ SqT X.K H l xs ∧ xs ≠ [] ∧ ∀ (p : Addr) (ob : Obj), H p = none → ob.cls = .type "tuple" → ob.dict = none → Q (.ref p) (upd H p (.frz ob (.tup [])))) := by
  intro pins s σ H x y v u Q I rx ry h
  obtain ⟨l, xs, rfl, rfl, hT, hne, q⟩ := h
  cases rx
  obtain ⟨t, rfl⟩ := ry
  obtain ⟨its, rel, ⟨⟨cls, dd, data, sl⟩, ho, hc, n, hd⟩, _⟩ := I.tuple hT
  simp only at hc hd
  subst hc hd
  have ne : its.toArray.isEmpty = false := by
    cases hi : its with
    | nil => exact absurd (rel.nil_iff.mp hi) hne
    | cons a b => rfl
  have new : (s.heap.push { cls := .type "tuple", data := .seq #[] }).get? s.heap.objs.size = some { cls := .type "tuple", data := .seq #[] } := Heap.get?_push_size _ rfl
  exact wpAny_binaryOp_repeat_ref (T := "tuple") (U := "int") (by decide) ⟨_, ho, rfl⟩ (fun s' => typeIs_int s' 0 t) noFill_tuple_mul F.fills_int_mul F.slot_int_rmul repeat_tuple F.slot_int_index.lookup
    (call_meets F.slot_int_rmul (typeIs_int s 0 t) F.entry_int_rmul (F.args_int_rmul_2 _ _) (int_rmul_tuple 0 t l its.toArray n dd sl)
      ⟨ho, rfl, ⟨_, ho, rfl⟩, call_meets F.slot_tuple_mul ⟨_, ho, rfl⟩ F.entry_tuple_mul (F.args_tuple_mul_2 _ _) (mul_none l its.toArray n dd sl t ne)
        ⟨ho, .ref s.heap.objs.size, _, I.laid (t' := s.toks) (o := .frz { cls := .type "tuple", data := .seq #[] } (.tup [])) (fun b o e => Heap.get?_push_of_some _ e) (Nat.le_refl _) ⟨new, Nat.zero_le _, [], .nil, IsTup.new _ _⟩, rfl, q _ _ (I.hok.fresh (Nat.le_refl _)) rfl rfl⟩⟩)
end Vf
namespace Tr
open PySem PySem.Spec PyProof.Rows L2 LamX Vf
open SX (S)
def fMulZ : F2 := fun a b => match a, b with
  | .tup (x :: l), .int k => if k = 0 then some (.tup [], false) else fMulO (.tup (x :: l)) (.int k)
  | a, b => fMulO a b
section
variable {X : Cx}
theorem bin_mulZ : Kw X (binaryOp .Mult) fMulZ := by
  intro H A ta tb x y t b Q hA rx ry e q
  unfold fMulZ at e
  split at e
  · rename_i x0 l k
    split at e
    · rename_i c
      subst c
      cases e
      obtain ⟨p, vs, rfl, e1, r1⟩ := rx.tup
      cases ry.int
      refine ⟨_, op_noTimes, p, vs, rfl, rfl, e1, fun z => ?_, fun p3 ob hp c1 c2 => q _ _ (nw_tup (Jb hp) ⟨ob, upd_same, c1, c2⟩ .nil)⟩
      have l1 := r1.length
      rw [z] at l1; simp at l1
    · exact bin_mulO H A _ _ x y t b Q hA rx ry e q
  · exact bin_mulO H A _ _ x y t b Q hA rx ry e q
end
end Tr
end F_Tr34
section F_Tr35
set_option Elab.async false
set_option maxRecDepth 100000
set_option maxHeartbeats 4000000
set_option linter.all false
namespace Vf
open PySem PySem.Spec PyProof.Rows L2
end Vf
end F_Tr35
section F_Tr36
set_option Elab.async false
set_option maxRecDepth 100000
set_option maxHeartbeats 4000000
set_option linter.all false
namespace Tr
open PySem PySem.Spec PyProof.Rows L2 LamX Vf
open SX (S)
def parSo (i j : Nat) (mA : MA) : MS := fun ρ => match mA ρ with
  | some (.ok [(t, .va), (u, .ow)] ρ1) => match jB false i t .va ρ1 with
      | some ρ2 => match jB true j u .ow ρ2 with
        | some ρ3 => some (.nx ρ3)
        | none => none
      | none => none
  | some (.er x) => some (.er x)
  | _ => none
section
variable {X : Cx} {W : XK} {a b c tg : Expr} {mA : MA} {pos p1 : Pos}
theorem at_va {ρ : Sls} {σ : L2.St} {i j : Nat} {t : T} {v : V} {p : Addr} (h : At (ρ.set i (.va t)) (σ.set i (some v)) j p) : At ρ σ j p := by
  rcases at_set h with ⟨_, z, _⟩ | ⟨_, z⟩
  · cases z
  · exact z
theorem ss_par_o {i j : Nat} {x y : Str} {px py pt : Pos} {kt k2 : Nat} {pt2 : Pos} (h : SA X W [a, b] mA) (hN : X.N.Nodup) (hi : X.N[i]? = some x) (hj : X.N[j]? = some y) (hij : i ≠ j)
    (hx : X.env.scope.names.lookup x = some .local) (hy : X.env.scope.names.lookup y = some .local) (hc : X.calm = true := by rfl)
    (hw : swappedStores [.Tuple [.Name x px, .Name y py] kt pt] (.Tuple [a, b] k2 pt2) X.env = pure (some [x, y]) := by rfl)
    (hs : swapsWithSole [.Tuple [.Name x px, .Name y py] kt pt] (.Tuple [a, b] k2 pt2) pos.line X.env = pure false := by rfl) : SS X W (.Assign [.Tuple [.Name x px, .Name y py] kt pt] (.Tuple [a, b] k2 pt2) pos) (parSo i j mA) := by
  intro ρ σ H A r D g er f0
  refine s_par ?_ hN hi hj hij hx hy hc hw hs
  unfold parSo at er
  split at er
  · rename_i t u ρ1 em
    refine h ρ σ H A _ _ g em fun vs H1 A1 af vo => ?_
    cases vo with
    | @cons _ _ v1 _ _ o1 vo =>
    cases vo with
    | @cons _ _ v2 _ _ o2 vo =>
    cases vo
    refine ⟨v1, v2, rfl, ?_⟩
    split at er
    · rename_i ρ2 e1
      split at er
      · rename_i ρ3 e2
        cases er
        obtain ⟨nl, z0, ⟨_, rfl⟩ | ⟨z, _⟩⟩ := setG_inv e1
        · obtain ⟨nl2, z02, ⟨z, _⟩ | ⟨_, _, rfl⟩⟩ := setG_inv e2
          · cases z
          · obtain ⟨p, ep, np, a1, ow⟩ := o2
            have ru := (af.run g).set af.good (s' := .va t) (i := i) (v := v1) ⟨v1, rfl, o1⟩ (fun z => by cases z) z0
            have ru2 := ru.set ru.good (s' := .ow u) (i := j) (v := v2) ⟨p, by rw [ep], a1, ow⟩ (fun _ p' z => by
              rw [ep] at z; cases z
              exact ⟨fun k hk => np (g.at_ (af.shp.at' (at_va hk))), af.non g np a1⟩) z02
            exact f0 _ _ _ ru2 ((af.shp.lok.set nl).set nl2)
        · cases z
      · cases er
    · cases er
  · rename_i x em; cases er; exact h ρ σ H A _ _ g em f0.err
  · cases er
end
end Tr
end F_Tr36
section F_Tr37
set_option Elab.async false
set_option maxRecDepth 100000
set_option maxHeartbeats 4000000
set_option linter.all false
namespace Tr
open PySem PySem.Spec PyProof.Rows L2 LamX Vf
open SX (S)
def fInP : F2 := fun a b => match b.tupl, toD a with
  | some l, some d => match Ji l with
    | some ds => if d.canLay0 = true ∧ PyData.canLayAll0 ds = true ∧ d.depth ≤ 8 then some (.bl (ds.any fun z => PyData.eqv z d), false) else none
    | none => none
  | _, _ => none
def zipAI (mA : MA) : MI := fun ρ => match mA ρ with
  | some (.ok ts ρ') => match ts with
    | [(t, .va), (u, .va)] => match t.row, u.row with
      | some (false, l), some (false, k) => some (.ok (Wi l k) ρ')
      | some (true, l), some (true, k) => some (.ok (Wi l k) ρ')
      | _, _ => none
    | _ => none
  | some (.er x) => some (.er x)
  | none => none
section
variable {K : PySem.W.Frag} {H1 : Hp} {A1 P : Addr → Prop}
theorem stb_t {t : T} {v : V} {l : List T} (r : Rp K H1 A1 t v) (e : t.row = some (true, l)) : ∃ p vs, v = .ref p ∧ SqT K H1 p vs ∧ Rps K H1 A1 l vs ∧ ∀ H A, Gon P A1 A H1 H → SqT K H p vs := by
  have e2 : t.tupl = some l := by
    cases t with
    | tup z => cases e; rfl
    | tpu z => cases e; rfl
    | _ => cases e
  obtain ⟨_, p, vs, e3, s, rs⟩ := tupl_ok e2 (.inl r)
  exact ⟨p, vs, e3, s, rs, fun H A g => g.sqT s⟩
theorem src_zipT {a b : Addr} {vs ws : List V} {l k : List T} (s1 : ∀ H A, Gon P A1 A H1 H → SqT K H a vs) (s2 : ∀ H A, Gon P A1 A H1 H → SqT K H b ws) (r1 : Rps K H1 A1 l vs) (r2 : Rps K H1 A1 k ws) : Src K (RZ.ItzT K a b) (Wi l k) H1 A1 P := by
  intro H A g
  have q1 := s1 H A g
  have q2 := s2 H A g
  have r1' := r1.go g
  have r2' := r2.go g
  obtain ⟨l1, l2, l3⟩ := zipT_len (xs := l) (ys := k)
  refine ⟨⟨vs, ws, q1, q2, by rw [← r1.length, ← r2.length]; exact l3⟩, fun i t e => ?_⟩
  obtain ⟨x, y, e1, e2, rfl⟩ := zipT_get e
  obtain ⟨u, e3, ru⟩ := r1'.get e1
  obtain ⟨w, e4, rw4⟩ := r2'.get e2
  refine ⟨⟨vs, ws, u, w, q1, q2, e3, e4⟩, fun z H' ⟨Tt, x', y', ez, hT, eH, h1, h2⟩ => ?_⟩
  subst ez eH
  have := h1 vs q1; rw [e3] at this; cases this
  have := h2 ws q2; rw [e4] at this; cases this
  exact ⟨Jb hT, .tpu (SqT.of upd_same) (.cons (ru.go (gon_new hT)) (.cons (rw4.go (gon_new hT)) .nil))⟩
end
section
variable {X : Cx} {W : XK} {e e2 : Expr} {mA : MA} {elts : List Expr} {kk : Nat} {pos p1 tpos : Pos}
theorem bin_inP (hu : X.A.units + 64 < cLine) : Kw X (compareOp .In) fInP := by
  intro H A ta tb x y t b Q hA rx ry e q
  unfold fInP at e
  cases e1 : tb.tupl with
  | none => rw [e1] at e; cases e
  | some l =>
    rw [e1] at e
    cases e2 : toD ta with
    | none => rw [e2] at e; cases e
    | some d =>
      rw [e2] at e
      simp only at e
      cases e3 : Ji l with
      | none => rw [e3] at e; cases e
      | some ds =>
        rw [e3] at e
        simp only at e
        split at e
        · rename_i c
          cases e
          obtain ⟨py, p, ws, rfl, s2, r2⟩ := tupl_ok e1 ry
          have dx := rx.dp e2
          have dy : Dp X.K H (.ref p) (.tuple ds) := .tup s2 (toDs_dp e3 r2)
          refine ⟨fun x y H Q => Dp X.K H x d ∧ Dp X.K H y (.tuple ds) ∧ Q (.bl (ds.any fun z => PyData.eqv z d)) H, fun pins s σ H x y v u Q I rx ry h => ?_, dx, dy, q _ H (vE (.bl _))⟩
          obtain ⟨dx, dy, q⟩ := h
          obtain ⟨as, ra⟩ := Dp.reads I _ _ _ dy ry
          obtain ⟨bs, rb⟩ := Dp.reads I _ _ _ dx rx
          exact SeqAt.in_tuple_reads ra rb c.2.1 c.1 (by
            have : min (PyData.depthAll ds) d.depth ≤ d.depth := Nat.min_le_right _ _
            have := c.2.2
            omega) ⟨.bl _, H, I, rfl, q⟩
        · cases e
theorem si_zipA (hm : X.mg "zip" = none) (h : SA X W [e, e2] mA) (hg : Gl X "zip" := by rfl)
    (hs : starEach [e, e2] X.env = (false, eval e X.env) :: starEach [e2] X.env := by rfl) (hpl : (backTo pos (starEach [e2] X.env)).any (·.1) = false := by rfl) : SI X W (.Tuple elts kk tpos) (.Call (.Name "zip" p1) [e, e2] [] pos) (zipAI mA) := by
  intro ρ σ H A r R g er f
  refine ⟨_, RZ.pi_zipA hg hm pA hs hpl, ?_⟩
  unfold zipAI at er
  cases em : mA ρ with
  | none => rw [em] at er; cases er
  | some u =>
    rw [em] at er
    cases u with
    | er x => cases er; exact h ρ σ H A _ _ g em f
    | ok ts ρ1 =>
      simp only at er
      split at er
      · rename_i t u
        split at er
        · rename_i l k e1 e2
          cases er
          refine h ρ σ H A _ _ g em fun vs H1 A1 af vos => ?_
          cases vos with
          | cons v1 vos =>
          cases vos with
          | cons v2 vos =>
          cases vos
          have hP : ∀ p, Wr ρ1 σ A p → A1 p := fun p pz => pz.elim af.good.prv fun z => af.sub _ z.1
          obtain ⟨p, xs, rfl, s1, r1, k1⟩ := stb_va (P := Wr ρ1 σ A) (show Rp X.K H1 A1 t _ from v1) e1 hP
          obtain ⟨p2, ys, rfl, s2, r2, k2⟩ := stb_va (P := Wr ρ1 σ A) (show Rp X.K H1 A1 u _ from v2) e2 hP
          exact ⟨p, p2, xs, ys, rfl, .inl ⟨s1, s2, f _ H1 A1 af (src_zip k1 k2 r1 r2)⟩⟩
        · rename_i l k e1 e2
          cases er
          refine h ρ σ H A _ _ g em fun vs H1 A1 af vos => ?_
          cases vos with
          | cons v1 vos =>
          cases vos with
          | cons v2 vos =>
          cases vos
          obtain ⟨p, xs, rfl, s1, r1, k1⟩ := stb_t (P := Wr ρ1 σ A) (show Rp X.K H1 A1 t _ from v1) e1
          obtain ⟨p2, ys, rfl, s2, r2, k2⟩ := stb_t (P := Wr ρ1 σ A) (show Rp X.K H1 A1 u _ from v2) e2
          exact ⟨p, p2, xs, ys, rfl, .inr ⟨s1, s2, f _ H1 A1 af (src_zipT k1 k2 r1 r2)⟩⟩
        · cases er
      · cases er
end
end Tr
end F_Tr37
section F_Tr38
set_option Elab.async false
set_option maxRecDepth 100000
set_option maxHeartbeats 4000000
set_option linter.all false
namespace Tr
open PySem PySem.Spec PyProof.Rows L2 LamX Vf
open SX (S)
def fMulU : F2 := fun a b => match a, b with
  | .tpu a, .int k => if a ≠ [] ∧ 2 ≤ k ∧ k ≤ 1000 ∧ a.length ≤ 1000 then some (.tpu (List.replicate k.toNat a).flatten, false) else none
  | a, b => fMulZ a b
section
variable {X : Cx}
theorem bin_mulU : Kw X (binaryOp .Mult) fMulU := by
  intro H A ta tb x y t b Q hA rx ry e q
  unfold fMulU at e
  split at e
  · rename_i a k
    split at e
    · rename_i c
      cases e
      obtain ⟨p, vs, rfl, e1, r1⟩ := rx.tpu
      cases ry.int
      have l1 := r1.length
      refine ⟨_, op_repT, p, k, vs, rfl, rfl, e1, fun z => c.1 (by rw [z] at l1; exact List.eq_nil_of_length_eq_zero l1), c.2.1, c.2.2.1, by rw [← l1]; exact c.2.2.2, fun p hp => q _ _ (nw_tpu hp (r1.rep _))⟩
    · cases e
  · exact bin_mulZ H A _ _ x y t b Q hA rx ry e q
end
end Tr
namespace Tr
open PySem PySem.Spec PyProof.Rows L2 LamX Vf
/-- what the defs of a law need that knows no web -/
structure Fy (K : PySem.W.Frag) (mg : Str → Option Value) (ad : String → Addr) (cs : List String) : Prop where
  nm : Bn mg
  gcd : mg "gcd" = some (.builtin "math.gcd")
end Tr
end F_Tr38
section F_MP
set_option Elab.async false
set_option maxRecDepth 1000000
set_option maxHeartbeats 4000000
set_option linter.all false
namespace Tr
open PySem PySem.Spec PyProof.Rows L2 LamX Vf
open SX (S)
def b_m_is_ascending (ad : String → Addr) : MS := (jn (vL (km (jb (lcM (Wm (jb (op2 (km (jb (var 0) noA) Kq) (ret (.int 1)) WG) noA)) (jB false 1) (fun ρ => some (.ok (.bl true) .va ρ)) (op2 (op2 (var 0) (var 1) atT) (op2 (var 0) (op2 (var 1) (ret (.int 1)) kg) atT) fLt) [1]) noA) KJ))
    kq)
def m_is_ascending (ad : String → Addr) : MF := vH 1 2 (b_m_is_ascending ad)
def b_m_is_row (ad : String → Addr) : MS := (jn (vL (op2 (km (jb (var 0) noA) wV) (ret (.ty "tuple")) fIsC))
    kq)
def Je (ad : String → Addr) : MF := vH 1 1 (b_m_is_row ad)
def b_m_is_integer (ad : String → Addr) : MS := (jn (vL (op2 (km (jb (var 0) noA) wV) (ret (.ty "int")) fIsC))
    kq)
def m_is_integer (ad : String → Addr) : MF := vH 1 1 (b_m_is_integer ad)
def b_m_is_fraction (ad : String → Addr) : MS := (jn (ifS (orT (KU (Kr (jK (jb (var 0) noA) (Je ad)))) (op2 (km (jb (var 0) noA) Kq) (ret (.int 2)) fNe)) (jn (vL (ret (.bl false)))
    kq) kq)
    (jn (wp false (var 0) (KM (vd (jB false 1) (vd (jB false 2) KI))))
    (jn (ifS (orT (KU (Kr (jK (jb (var 1) noA) (m_is_integer ad)))) (KU (Kr (jK (jb (var 2) noA) (m_is_integer ad))))) (jn (vL (ret (.bl false)))
    kq) kq)
    (jn (vL (Wf (op2 (var 2) (ret (.int 0)) fGt) (Wl (op2 (km (jb (var 1) (jb (var 2) noA)) JD) (ret (.int 1)) fEq))))
    kq))))
def vM (ad : String → Addr) : MF := vH 1 3 (b_m_is_fraction ad)
def b_m_is_share (ad : String → Addr) : MS := (jn (vL (Wf (jK (jb (var 0) noA) (vM ad)) (Wl (KO (ret (.int 0)) (op2 (var 0) (ret (.int 0)) atT) (op2 (var 0) (ret (.int 1)) atT) fLe fLe))))
    kq)
def m_is_share (ad : String → Addr) : MF := vH 1 1 (b_m_is_share ad)
def b_m_is_part (ad : String → Addr) : MS := (jn (vL (Wf (jK (jb (var 0) noA) (m_is_share ad)) (Wl (op2 (op2 (var 0) (ret (.int 1)) atT) (ret (.int 1000000000000)) fLe))))
    kq)
def Jc (ad : String → Addr) : MF := vH 1 1 (b_m_is_part ad)
def b_m_arrows_of (ad : String → Addr) : MS := (jn (vL (ifE (Kr (jK (jb (var 0) noA) (Jc ad))) (jj noA) (var 0)))
    kq)
def Jn (ad : String → Addr) : MF := vH 1 1 (b_m_arrows_of ad)
def b_m_first_stuck (ad : String → Addr) : MS := (jn (wp true (dcM (JT (var 0)) (KM (vd (jB false 3) (vd (jB false 4) KI))) (Kr (jK (jb (var 4) noA) (Jc ad))) (var 3) (ret (.bl true)) [3, 4]) (jB true 1))
    (jn (KZ (JT (var 0)) (jB false 2) (jn (KZ (JT (var 0)) (KM (vd (jB false 3) (vd (jB false 4) KI))) (jn (ifS (Kr (km (jb (lcM (JT (jK (jb (var 4) noA) (Jn ad))) (jB false 6) (fun ρ => some (.ok (.bl true) .va ρ)) (inDM (var 6) (var 1)) [6]) noA) Wq)) (jn (wp false (ret (.bl true)) (WF 1 (var 3)))
    kq) kq)
    kq))
    kq))
    (jn (KZ (JT (var 0)) (jB false 5) (jn (ifS (notinDM (op2 (var 5) (ret (.int 0)) atT) (var 1)) (jn (vL (op2 (var 5) (ret (.int 0)) atT))
    kq) kq)
    kq))
    (jn (vL (ret .non))
    kq))))
def m_first_stuck (ad : String → Addr) : MF := vH 1 7 (b_m_first_stuck ad)
def b_m_is_string (ad : String → Addr) : MS := (jn (vL (op2 (km (jb (var 0) noA) wV) (ret (.ty "str")) fIsC))
    kq)
def m_is_string (ad : String → Addr) : MF := vH 1 1 (b_m_is_string ad)
def b_m_is_letter (ad : String → Addr) : MS := (jn (vL (Wf (jK (jb (var 0) noA) (m_is_string ad)) (Wf (op2 (km (jb (var 0) noA) Kq) (ret (.int 1)) fEq) (Wl (KO (ret (.str [97])) (var 0) (ret (.str [122])) fLe fLe)))))
    kq)
def m_is_letter (ad : String → Addr) : MF := vH 1 1 (b_m_is_letter ad)
def b_m_is_arrows (ad : String → Addr) : MS := (jn (ifS (orT (KU (Kr (jK (jb (var 0) noA) (Je ad)))) (op2 (km (jb (var 0) noA) Kq) (ret (.int 0)) fEq)) (jn (vL (ret (.bl false)))
    kq) kq)
    (jn (vL (Wf (km (jb (lcM (JT (var 0)) (jB false 1) (fun ρ => some (.ok (.bl true) .va ρ)) (jK (jb (var 1) noA) (m_is_letter ad)) [1]) noA) KJ) (Wl (jK (jb (var 0) noA) (m_is_ascending ad)))))
    kq))
def m_is_arrows (ad : String → Addr) : MF := vH 1 2 (b_m_is_arrows ad)
def b_m_is_pair (ad : String → Addr) : MS := (jn (ifS (orT (KU (Kr (jK (jb (var 0) noA) (Je ad)))) (orT (op2 (km (jb (var 0) noA) Kq) (ret (.int 2)) fNe) (KU (Kr (jK (jb (op2 (var 0) (ret (.int 0)) atT) noA) (m_is_letter ad)))))) (jn (vL (ret (.bl false)))
    kq) kq)
    (jn (vL (orM (jK (jb (op2 (var 0) (ret (.int 1)) atT) noA) (Jc ad)) (Wl (jK (jb (op2 (var 0) (ret (.int 1)) atT) noA) (m_is_arrows ad)))))
    kq))
def m_is_pair (ad : String → Addr) : MF := vH 1 1 (b_m_is_pair ad)
def b_m_are_rows (ad : String → Addr) : MS := (jn (ifS (orT (KU (Kr (jK (jb (var 0) noA) (Je ad)))) (KU (KO (ret (.int 1)) (km (jb (var 0) noA) Kq) (ret (.int 10)) fLe fLe))) (jn (vL (ret (.bl false)))
    kq) kq)
    (jn (ifS (KU (Kr (km (jb (lcM (JT (var 0)) (jB false 3) (fun ρ => some (.ok (.bl true) .va ρ)) (jK (jb (var 3) noA) (m_is_pair ad)) [3]) noA) KJ))) (jn (vL (ret (.bl false)))
    kq) kq)
    (jn (wp false (lcM (JT (var 0)) (jB false 3) (fun ρ => some (.ok (.bl true) .va ρ)) (op2 (var 3) (ret (.int 0)) atT) [3]) (jB false 1))
    (jn (ifS (KU (Kr (jK (jb (var 1) noA) (m_is_ascending ad)))) (jn (vL (ret (.bl false)))
    kq) kq)
    (jn (wp false (lc2M (JT (var 0)) (jB false 3) (JT (jK (jb (op2 (var 3) (ret (.int 1)) atT) noA) (Jn ad))) (jB false 4) (var 4) [3, 4] [4]) (jB false 2))
    (jn (vL (Wf (km (jb (lcM (JT (var 2)) (jB false 4) (fun ρ => some (.ok (.bl true) .va ρ)) (op2 (var 4) (var 1) fIn) [4]) noA) KJ) (Wl (op2 (jK (jb (var 0) noA) (m_first_stuck ad)) (ret .non) fIs))))
    kq))))))
def m_are_rows (ad : String → Addr) : MF := vH 1 5 (b_m_are_rows ad)
def b_m_check_web (ad : String → Addr) : MS := (jn (ifS (op2 (km (jb (var 0) noA) (kD (ad "Web"))) (ret (.cst (ad "Web"))) fIsNotC) (jn (raise1 (ad "NotAWeb") "given" (var 0))
    kq) kq)
    kq)
def m_check_web (ad : String → Addr) : MF := vH 1 1 (b_m_check_web ad)
def b_m_Web_ends (ad : String → Addr) : MS := (jn (vL (km (jb (lcM (JT (fldM (ad "Web") "_rows" (var 0))) (KM (vd (jB false 1) (vd (jB false 2) KI))) (Kr (jK (jb (var 2) noA) (Jc ad))) (var 1) [1, 2]) noA) Jf))
    kq)
def m_Web_ends (ad : String → Addr) : MF := vH 1 3 (b_m_Web_ends ad)
def b_m_is_one_of (ad : String → Addr) : MS := (jn (vL (Wf (jK (jb (var 0) noA) (m_is_string ad)) (Wl (op2 (var 0) (var 1) fIn))))
    kq)
def m_is_one_of (ad : String → Addr) : MF := vH 2 2 (b_m_is_one_of ad)
def b_m_Web_places (ad : String → Addr) : MS := (jn (vL (km (jb (lcM (JT (fldM (ad "Web") "_rows" (var 0))) (jB false 1) (fun ρ => some (.ok (.bl true) .va ρ)) (op2 (var 1) (ret (.int 0)) atT) [1]) noA) Jf))
    kq)
def m_Web_places (ad : String → Addr) : MF := vH 1 2 (b_m_Web_places ad)
def b_m_Webdwhat (ad : String → Addr) : MS := (jn (ifS (KU (Kr (jK (jb (var 1) (jb (Wo (ad "Web") (var 0) (m_Web_places ad)) noA)) (m_is_one_of ad)))) (jn (raise1 (ad "UnknownPlace") "given" (var 1))
    kq) kq)
    (jn (vL (Kn (km (jb (fldM (ad "Web") "_rows" (var 0)) noA) Wd) (var 1)))
    kq))
def m_Webdwhat (ad : String → Addr) : MF := vH 2 2 (b_m_Webdwhat ad)
def b_m_Web_number (ad : String → Addr) : MS := (jn (wp false (methM (ad "Web") "_what" (var 0) (jb (var 1) noA) (m_Webdwhat ad)) (jB false 2))
    (jn (ifS (KU (Kr (jK (jb (var 2) noA) (Jc ad)))) (jn (fun _ => some (.er ⟨ad "NotAnEnd", []⟩))
    kq) kq)
    (jn (vL (var 2))
    kq)))
def m_Web_number (ad : String → Addr) : MF := vH 2 3 (b_m_Web_number ad)
def b_m_number_tops (ad : String → Addr) : MS := (jn (wp false (ret (.int 1)) (jB false 1))
    (jn (KZ (JT (Wo (ad "Web") (var 0) (m_Web_ends ad))) (jB false 2) (jn (wp false (km (jb (var 1) (jb (op2 (methM (ad "Web") "number" (var 0) (jb (var 2) noA) (m_Web_number ad)) (ret (.int 1)) atT) noA)) JE) (jB false 1))
    kq))
    (jn (wp true (fun ρ => some (.ok (.dct []) .ow ρ)) (jB true 3))
    (jn (KZ (JT (Wo (ad "Web") (var 0) (m_Web_ends ad))) (jB false 2) (jn (wp false (methM (ad "Web") "number" (var 0) (jb (var 2) noA) (m_Web_number ad)) (KM (vd (jB false 4) (vd (jB false 5) KI))))
    (jn (wp false (op2 (var 4) (op2 (var 1) (var 5) WC) vK) (WF 3 (var 2)))
    kq)))
    (jn (vL (jj (jb (var 3) (jb (var 1) noA))))
    kq)))))
def m_number_tops (ad : String → Addr) : MF := vH 1 6 (b_m_number_tops ad)
def b_m_ways_out (ad : String → Addr) : MS := (jn (wp true (fun ρ => some (.ok (.dct []) .ow ρ)) (jB true 2))
    (jn (wp false (km (jb (var 1) noA) KB) (jB false 3))
    (jn (lockDS 0 (KZ (keyI 0) (jB false 4) (jn (lockDS 0 (KZ (keyI 0) (jB false 5) (jn (wp false (lcM (JT (Kn (var 0) (var 5))) (jB false 7) (op2 (var 7) (var 3) fIn) (var 7) [7]) (jB false 6))
    (jn (ifS (andT (op2 (var 6) (vD noA) fNe) (notinDM (var 5) (var 2))) (jn (wp false (op2 (var 6) (ret (.int 0)) atT) (WF 2 (var 5)))
    (jn (wp false (op2 (var 3) (vD (jb (var 5) noA)) kg) (jB false 3))
    kq)) kq)
    kq))))
    kq)))
    (jn (vL (var 2))
    kq))))
def m_ways_out (ad : String → Addr) : MF := vH 2 8 (b_m_ways_out ad)
def b_m_Web_arrows (ad : String → Addr) : MS := (jn (vL (jK (jb (methM (ad "Web") "_what" (var 0) (jb (var 1) noA) (m_Webdwhat ad)) noA) (Jn ad)))
    kq)
def m_Web_arrows (ad : String → Addr) : MF := vH 2 2 (b_m_Web_arrows ad)
def b_m_cleared (ad : String → Addr) : MS := (jn (vL (lcM (zipI (jb (var 0) (jb (var 1) noA))) (KM (vd (jB false 4) (vd (jB false 5) KI))) (fun ρ => some (.ok (.bl true) .va ρ)) (op2 (op2 (op2 (op2 (var 1) (var 2) atT) (var 4) vK) (op2 (op2 (var 0) (var 2) atT) (var 5) vK) WG) (var 3) WC) [4, 5]))
    kq)
def m_cleared (ad : String → Addr) : MF := vH 4 6 (b_m_cleared ad)
def b_m_solved (ad : String → Addr) : MS := (jn (wp false (ret (.int 1)) (jB false 1))
    (jn (wp false (var 0) (jB false 2))
    (jn (KZ (Wm (jb (km (jb (var 0) noA) Kq) noA)) (jB false 3) (jn (wp false (op2 (var 2) (var 3) atT) (jB false 4))
    (jn (wp false (lcM (enumI (jb (var 2) noA)) (KM (vd (jB false 5) (vd (jB false 6) KI))) (fun ρ => some (.ok (.bl true) .va ρ)) (ifE (op2 (var 5) (var 3) fEq) (var 4) (jK (jb (var 6) (jb (var 4) (jb (var 3) (jb (var 1) noA)))) (m_cleared ad))) [5, 6]) (jB false 2))
    (jn (wp false (op2 (var 4) (var 3) atT) (jB false 1))
    kq))))
    (jn (vL (jj (jb (lcM (JT (var 2)) (jB false 6) (fun ρ => some (.ok (.bl true) .va ρ)) (op2 (var 6) (Ws (ret (.int 1))) atT) [6]) (jb (var 1) noA))))
    kq))))
def m_solved (ad : String → Addr) : MF := vH 1 7 (b_m_solved ad)
def b_m_equation (ad : String → Addr) : MS := (jn (wp false (lcM (JT (var 2)) (jB false 5) (fun ρ => some (.ok (.bl true) .va ρ)) (op2 (ifE (op2 (var 5) (var 0) fEq) (ret (.int 2)) (ret (.int 0))) (countM (var 1) (var 5)) WG) [5]) (jB false 4))
    (jn (vL (op2 (var 4) (vD (jb (km (jb (lcM (JT (var 1)) (jB false 6) (inDM (var 6) (var 3)) (Kn (var 3) (var 6)) [6]) noA) Wx) noA)) kg))
    kq))
def m_equation (ad : String → Addr) : MF := vH 4 7 (b_m_equation ad)
def b_m_tops_with (ad : String → Addr) : MS := (jn (wp false (km (jb (var 0) noA) Ki) (jB false 3))
    (jn (wp false (lcM (JT (var 3)) (jB false 8) (fun ρ => some (.ok (.bl true) .va ρ)) (jK (jb (var 8) (jb (vD (jb (Kn (var 0) (var 8)) (jb (Kn (var 1) (var 8)) noA))) (jb (var 3) (jb (var 2) noA)))) (m_equation ad)) [8]) (jB false 4))
    (jn (wp false (jK (jb (var 4) noA) (m_solved ad)) (KM (vd (jB false 5) (vd (jB false 6) KI))))
    (jn (lockDS 2 (wp true (dcM (keyI 2) (jB false 10) (fun ρ => some (.ok (.bl true) .va ρ)) (var 10) (op2 (Kn (var 2) (var 10)) (var 6) vK) [10]) (jB true 7)))
    (jn (KZ (zipI (jb (var 3) (jb (var 5) noA))) (KM (vd (jB false 8) (vd (jB false 9) KI))) (jn (wp false (var 9) (WF 7 (var 8)))
    kq))
    (jn (vL (jj (jb (var 7) (jb (var 6) noA))))
    kq))))))
def m_tops_with (ad : String → Addr) : MF := vH 3 11 (b_m_tops_with ad)
def b_m_nearer (ad : String → Addr) : MS := (jn (wp false (var 1) (jB false 4))
    (jn (KZ (JT (var 0)) (jB false 5) (jn (ifS (op2 (op2 (var 3) (Kn (var 2) (var 5)) vK) (op2 (var 3) (Kn (var 2) (var 4)) vK) fGt) (jn (wp false (var 5) (jB false 4))
    kq) kq)
    kq))
    (jn (vL (var 4))
    kq)))
def m_nearer (ad : String → Addr) : MF := vH 4 6 (b_m_nearer ad)
def b_m_better (ad : String → Addr) : MS := (jn (lockDS 0 (vL (dcM (keyI 0) (jB false 4) (fun ρ => some (.ok (.bl true) .va ρ)) (var 4) (jK (jb (Kn (var 1) (var 4)) (jb (Kn (var 0) (var 4)) (jb (var 2) (jb (var 3) noA)))) (m_nearer ad)) [4])))
    kq)
def m_better (ad : String → Addr) : MF := vH 4 5 (b_m_better ad)
def b_m_need_tops (ad : String → Addr) : MS := (jn (wp false (jK (jb (var 0) noA) (m_number_tops ad)) (KM (vd (jB false 1) (vd (jB false 2) KI))))
    (jn (wp false (dcM (JT (Wo (ad "Web") (var 0) (m_Web_places ad))) (jB false 10) (notinDM (var 10) (var 1)) (var 10) (methM (ad "Web") "arrows" (var 0) (jb (var 10) noA) (m_Web_arrows ad)) [10]) (jB false 3))
    (jn (wp false (jK (jb (var 3) (jb (Wo (ad "Web") (var 0) (m_Web_ends ad)) noA)) (m_ways_out ad)) (jB false 4))
    (jn (wp false (var 4) (jB false 5))
    (jn (Kf (Kr (ret (.bl true))) (jn (wp false (jK (jb (var 5) (jb (var 4) (jb (var 1) noA))) (m_tops_with ad)) (KM (vd (jB false 6) (vd (jB false 7) KI))))
    (jn (wp false (jK (jb (var 5) (jb (var 3) (jb (var 6) (jb (Ws (ret (.int 1))) noA)))) (m_better ad)) (jB false 8))
    (jn (wp false (jK (jb (var 4) (jb (var 3) (jb (var 6) (jb (ret (.int 1)) noA)))) (m_better ad)) (jB false 9))
    (jn (ifS (op2 (var 8) (var 5) fNeD) (jn (wp false (var 8) (jB false 5))
    kq) (jn (ifS (op2 (var 9) (var 4) fNeD) (jn (wp false (var 9) (jB false 4))
    kq) (jn (vL (jj (jb (var 6) (jb (op2 (var 7) (var 2) vK) noA))))
    kq))
    kq))
    kq)))) lots)
    kq)))))
def m_need_tops (ad : String → Addr) : MF := vH 1 11 (b_m_need_tops ad)
def b_m_lowest (ad : String → Addr) : MS := (jn (wp false (km (jb (var 0) (jb (var 1) noA)) JD) (jB false 2))
    (jn (vL (jj (jb (op2 (var 0) (var 2) WC) (jb (op2 (var 1) (var 2) WC) noA))))
    kq))
def JZ (ad : String → Addr) : MF := vH 2 3 (b_m_lowest ad)
def b_m_needs (ad : String → Addr) : MS := (jn (expS (jK (jb (var 0) noA) (m_check_web ad)))
    (jn (wp false (jK (jb (var 0) noA) (m_need_tops ad)) (KM (vd (jB false 1) (vd (jB false 2) KI))))
    (jn (vL (km (jb (lcM (JT (Wo (ad "Web") (var 0) (m_Web_places ad))) (jB false 3) (fun ρ => some (.ok (.bl true) .va ρ)) (jK (jb (Kn (var 1) (var 3)) (jb (var 2) noA)) (JZ ad)) [3]) noA) Jf))
    kq)))
def m_needs (ad : String → Addr) : MF := vH 1 4 (b_m_needs ad)
def b_m_check_place (ad : String → Addr) : MS := (jn (expS (jK (jb (var 0) noA) (m_check_web ad)))
    (jn (ifS (KU (Kr (jK (jb (var 1) (jb (Wo (ad "Web") (var 0) (m_Web_places ad)) noA)) (m_is_one_of ad)))) (jn (raise1 (ad "UnknownPlace") "given" (var 1))
    kq) kq)
    kq))
def m_check_place (ad : String → Addr) : MF := vH 2 2 (b_m_check_place ad)
def b_m_need (ad : String → Addr) : MS := (jn (expS (jK (jb (var 0) (jb (var 1) noA)) (m_check_place ad)))
    (jn (wp false (jK (jb (var 0) noA) (m_need_tops ad)) (KM (vd (jB false 2) (vd (jB false 3) KI))))
    (jn (vL (jK (jb (Kn (var 2) (var 1)) (jb (var 3) noA)) (JZ ad)))
    kq)))
def m_need (ad : String → Addr) : MF := vH 2 4 (b_m_need ad)
def b_m_is_moves (ad : String → Addr) : MS := (jn (vL (Wf (jK (jb (var 0) noA) (m_is_integer ad)) (Wl (KO (ret (.int 0)) (var 0) (ret (.int 60)) fLe fLe))))
    kq)
def m_is_moves (ad : String → Addr) : MF := vH 1 1 (b_m_is_moves ad)
def b_m_difference (ad : String → Addr) : MS := (jn (vL (jK (jb (op2 (op2 (op2 (var 0) (ret (.int 0)) atT) (op2 (var 1) (ret (.int 1)) atT) vK) (op2 (op2 (var 1) (ret (.int 0)) atT) (op2 (var 0) (ret (.int 1)) atT) vK) WG) (jb (op2 (op2 (var 0) (ret (.int 1)) atT) (op2 (var 1) (ret (.int 1)) atT) vK) noA)) (JZ ad)))
    kq)
def m_difference (ad : String → Addr) : MF := vH 2 2 (b_m_difference ad)
def b_m_is_below (ad : String → Addr) : MS := (jn (vL (op2 (op2 (op2 (var 0) (ret (.int 0)) atT) (op2 (var 1) (ret (.int 1)) atT) vK) (op2 (op2 (var 1) (ret (.int 0)) atT) (op2 (var 0) (ret (.int 1)) atT) vK) fLt))
    kq)
def m_is_below (ad : String → Addr) : MF := vH 2 2 (b_m_is_below ad)
def b_m__law_dip (ad : String → Addr) : MS := (jn (ifS (op2 (op2 (var 0) (ret (.int 0)) atT) (ret (.int 0)) fGt) (jn (wp false (km (jb (op2 (var 0) (ret (.int 0)) atT) (jb (var 1) noA)) jF) (KM (vd (WF 0 (ret (.int 0))) (vd (jB false 2) KI))))
    (jn (vL (var 2))
    kq)) kq)
    (jn (wp false (op2 (km (jb (op2 (op2 (op2 (var 0) (ret (.int 1)) atT) (ret (.int 64033)) vK) (ret (.int 15013)) kg) noA) Js) (ret (.int 2147482873)) Wu) (WF 0 (ret (.int 1))))
    (jn (vL (op2 (km (jb (op2 (op2 (var 0) (ret (.int 1)) atT) (ret (.int 907)) WC) noA) Js) (var 1) Wu))
    kq)))
def vh (ad : String → Addr) : MC := KY 2 3 (b_m__law_dip ad)
def b_m__law_any (ad : String → Addr) : MS := (jn (vL (op2 (var 1) (Jx 0 (jb (km (jb (var 1) noA) Kq) noA) (vh ad)) atT))
    kq)
def wF (ad : String → Addr) : MC := KY 2 2 (b_m__law_any ad)
def b_m__law_shared (ad : String → Addr) : MS := (jn (WB 0 1 (jb (km (jb (var 0) noA) JC) (jb (km (jb (var 1) noA) JC) noA)))
    (jn (Kf (op2 (var 1) (ret (.int 0)) fGt) (jn (WB 0 1 (jb (var 1) (jb (op2 (km (jb (var 0) noA) Js) (var 1) Wu) noA)))
    kq) lots)
    (jn (vL (var 0))
    kq)))
def m__law_shared (ad : String → Addr) : MF := vH 2 2 (b_m__law_shared ad)
def b_m__law_low_v1 (ad : String → Addr) : MS := (jn (wp false (jK (jb (var 0) (jb (var 1) noA)) (m__law_shared ad)) (jB false 2))
    (jn (vL (jj (jb (op2 (var 0) (var 2) WC) (jb (op2 (var 1) (var 2) WC) noA))))
    kq))
def vI (ad : String → Addr) : MF := vH 2 3 (b_m__law_low_v1 ad)
def b_m__law_is_less (ad : String → Addr) : MS := (jn (vL (op2 (op2 (op2 (var 0) (ret (.int 0)) atT) (op2 (var 1) (ret (.int 1)) atT) vK) (op2 (op2 (var 1) (ret (.int 0)) atT) (op2 (var 0) (ret (.int 1)) atT) vK) fLt))
    kq)
def wX (ad : String → Addr) : MF := vH 2 2 (b_m__law_is_less ad)
def b_m__law_min (ad : String → Addr) : MS := (jn (wp false (op2 (var 0) (ret (.int 0)) atT) (jB false 1))
    (jn (KZ (JT (var 0)) (jB false 2) (jn (wp false (ifE (Kr (jK (jb (var 2) (jb (var 1) noA)) (wX ad))) (var 2) (var 1)) (jB false 1))
    kq))
    (jn (vL (var 1))
    kq)))
def m__law_min (ad : String → Addr) : MF := vH 1 3 (b_m__law_min ad)
def b_m__law_max (ad : String → Addr) : MS := (jn (wp false (op2 (var 0) (ret (.int 0)) atT) (jB false 1))
    (jn (KZ (JT (var 0)) (jB false 2) (jn (wp false (ifE (Kr (jK (jb (var 1) (jb (var 2) noA)) (wX ad))) (var 2) (var 1)) (jB false 1))
    kq))
    (jn (vL (var 1))
    kq)))
def m__law_max (ad : String → Addr) : MF := vH 1 3 (b_m__law_max ad)
def b_m__law_urn (ad : String → Addr) : MS := (jn (wp false (ifE (op2 (var 1) (km (jb (var 0) noA) Kq) fLt) (op2 (var 0) (var 1) atT) (op2 (ret (.int 52027)) (op2 (var 1) (ret (.int 5)) kg) vK)) (jB false 2))
    (jn (wp false (op2 (ret (.int 31013)) (op2 (ret (.int 7027)) (var 1) vK) kg) (jB false 3))
    (jn (KZ (JT (op2 (Wy (var 0) none (some (ret (.int 5)))) (vD (jb (var 2) noA)) kg)) (jB false 4) (jn (wp false (op2 (km (jb (op2 (op2 (op2 (var 3) (ret (.int 41011)) vK) (op2 (km (jb (var 4) noA) Js) (ret (.int 2147482873)) Wu) kg) (ret (.int 53)) kg) noA) Js) (ret (.int 2147482873)) Wu) (jB false 3))
    kq))
    (jn (vL (vD (jb (ifE (orT (op2 (var 2) (ret (.int 0)) fLt) (op2 (var 2) (op2 (ret (.int 10)) (ret (.int 18)) WH) fGe)) (km (jb (var 2) noA) JC) (ret (.int 0))) (jb (var 3) noA))))
    kq))))
def m__law_urn (ad : String → Addr) : MF := vH 2 5 (b_m__law_urn ad)
def b_m_is_table (ad : String → Addr) : MS := (jn (vL (Wf (jK (jb (var 1) noA) (Je ad)) (Wf (op2 (km (jb (var 1) noA) Kq) (km (jb (var 0) noA) Kq) fEq) (Wl (km (jb (lcM (JT (var 1)) (jB false 2) (fun ρ => some (.ok (.bl true) .va ρ)) (jK (jb (var 2) noA) (vM ad)) [2]) noA) KJ)))))
    kq)
def m_is_table (ad : String → Addr) : MF := vH 2 3 (b_m_is_table ad)
def b_m_middle (ad : String → Addr) : MS := (jn (wp false (ret (.int 1)) (jB false 1))
    (jn (KZ (JT (var 0)) (jB false 2) (jn (wp false (km (jb (var 1) (jb (op2 (var 2) (ret (.int 1)) atT) noA)) JE) (jB false 1))
    kq))
    (jn (wp false (lcM (JT (var 0)) (KM (vd (jB false 4) (vd (jB false 5) KI))) (fun ρ => some (.ok (.bl true) .va ρ)) (op2 (var 4) (op2 (var 1) (var 5) WC) vK) [4, 5]) (jB false 3))
    (jn (vL (jK (jb (op2 (km (jb (var 3) noA) KW) (km (jb (var 3) noA) KS) kg) (jb (op2 (ret (.int 2)) (var 1) vK) noA)) (JZ ad)))
    kq))))
def m_middle (ad : String → Addr) : MF := vH 1 6 (b_m_middle ad)
def b_m_total (ad : String → Addr) : MS := (jn (vL (jK (jb (op2 (op2 (op2 (var 0) (ret (.int 0)) atT) (op2 (var 1) (ret (.int 1)) atT) vK) (op2 (op2 (var 1) (ret (.int 0)) atT) (op2 (var 0) (ret (.int 1)) atT) vK) kg) (jb (op2 (op2 (var 0) (ret (.int 1)) atT) (op2 (var 1) (ret (.int 1)) atT) vK) noA)) (JZ ad)))
    kq)
def m_total (ad : String → Addr) : MF := vH 2 2 (b_m_total ad)
def b_m_keeps_the_win (ad : String → Addr) : MS := (jn (wp false (var 0) (KM (vd (jB false 2) (vd (jB false 3) (vd (jB false 4) (vd (jB false 5) (vd (jB false 6) (vd (jB false 7) KI))))))))
    (jn (wp false (jK (jb (Kn (km (jb (var 3) noA) Wd) (var 4)) noA) (Jn ad)) (jB false 8))
    (jn (ifS (orT (op2 (var 7) (var 8) fNotIn) (KU (Kr (jK (jb (Kn (var 1) (var 7)) (jb (jK (jb (var 5) (jb (var 6) noA)) (m_difference ad)) noA)) (m_is_below ad))))) (jn (vL (ret (.bl false)))
    kq) kq)
    (jn (vL (km (jb (lcM (JT (var 8)) (jB false 9) (fun ρ => some (.ok (.bl true) .va ρ)) (jK (jb (Kn (var 1) (var 9)) (jb (jK (jb (var 5) (jb (var 6) noA)) (m_total ad)) noA)) (m_is_below ad)) [9]) noA) KJ))
    kq))))
def m_keeps_the_win (ad : String → Addr) : MF := vH 2 10 (b_m_keeps_the_win ad)
def b_m_is_true (ad : String → Addr) : MS := (jn (ifS (op2 (op2 (var 0) (ret (.int 0)) atT) (ret (.str [115, 97, 102, 101])) fEq) (jn (vL (jK (jb (var 0) (jb (var 1) noA)) (m_keeps_the_win ad)))
    kq) kq)
    (jn (wp false (Kn (var 1) (op2 (var 0) (ret (.int 2)) atT)) (jB false 2))
    (jn (ifS (op2 (op2 (var 0) (ret (.int 0)) atT) (ret (.str [97, 98, 111, 118, 101])) fEq) (jn (vL (jK (jb (op2 (var 0) (ret (.int 3)) atT) (jb (var 2) noA)) (m_is_below ad)))
    kq) kq)
    (jn (ifS (op2 (op2 (var 0) (ret (.int 0)) atT) (ret (.str [98, 101, 108, 111, 119])) fEq) (jn (vL (jK (jb (var 2) (jb (op2 (var 0) (ret (.int 3)) atT) noA)) (m_is_below ad)))
    kq) kq)
    (jn (vL (op2 (var 2) (op2 (var 0) (ret (.int 3)) atT) fEq))
    kq)))))
def m_is_true (ad : String → Addr) : MF := vH 2 3 (b_m_is_true ad)
end Tr
end F_MP
section F_MK
set_option Elab.async false
set_option maxRecDepth 1000000
set_option maxHeartbeats 4000000
set_option linter.all false
namespace Tr
open PySem PySem.Spec PyProof.Rows L2 LamX Vf
open SX (S)
def b_m_has_form_ck (ad : String → Addr) : MS := (jn (ifS (orT (KU (Kr (jK (jb (var 0) noA) (Je ad)))) (orT (op2 (km (jb (var 0) noA) Kq) (ret (.int 0)) fEq) (KU (Kr (jK (jb (op2 (var 0) (ret (.int 0)) atT) noA) (m_is_string ad)))))) (jn (vL (ret (.bl false)))
    kq) kq)
    (jn (vL (op2 (jj (jb (op2 (var 0) (ret (.int 0)) atT) (jb (km (jb (var 0) noA) Kq) noA))) (var 1) fInP))
    kq))
def m_has_form_ck (ad : String → Addr) : MF := vH 2 2 (b_m_has_form_ck ad)
def b_m_is_checker_claim_ck (ad : String → Addr) : MS := (jn (ifS (orT (KU (Kr (jK (jb (var 0) (jb (ret (.tpu [.tpu [.str [110, 101, 101, 100, 115], .int 4], .tpu [.str [97, 98, 111, 118, 101], .int 4], .tpu [.str [98, 101, 108, 111, 119], .int 4], .tpu [.str [119, 105, 116, 104, 105, 110], .int 5], .tpu [.str [115, 97, 102, 101], .int 6]])) noA)) (m_has_form_ck ad)))) (KU (Kr (jK (jb (op2 (var 0) (ret (.int 1)) atT) noA) (m_are_rows ad))))) (jn (vL (ret (.bl false)))
    kq) kq)
    (jn (wp false (lcM (JT (op2 (var 0) (ret (.int 1)) atT)) (jB false 2) (fun ρ => some (.ok (.bl true) .va ρ)) (op2 (var 2) (ret (.int 0)) atT) [2]) (jB false 1))
    (jn (ifS (KU (Kr (jK (jb (op2 (var 0) (ret (.int 2)) atT) (jb (var 1) noA)) (m_is_one_of ad)))) (jn (vL (ret (.bl false)))
    kq) kq)
    (jn (ifS (op2 (op2 (var 0) (ret (.int 0)) atT) (ret (.str [119, 105, 116, 104, 105, 110])) fEq) (jn (vL (Wf (jK (jb (op2 (var 0) (ret (.int 3)) atT) noA) (m_is_moves ad)) (Wl (jK (jb (op2 (var 0) (ret (.int 4)) atT) noA) (vM ad)))))
    kq) kq)
    (jn (ifS (op2 (op2 (var 0) (ret (.int 0)) atT) (ret (.str [115, 97, 102, 101])) fEq) (jn (vL (Wf (jK (jb (op2 (var 0) (ret (.int 3)) atT) noA) (m_is_share ad)) (Wf (jK (jb (op2 (var 0) (ret (.int 4)) atT) noA) (m_is_share ad)) (Wl (jK (jb (op2 (var 0) (ret (.int 5)) atT) (jb (var 1) noA)) (m_is_one_of ad))))))
    kq) kq)
    (jn (vL (jK (jb (op2 (var 0) (ret (.int 3)) atT) noA) (vM ad)))
    kq))))))
def kj (ad : String → Addr) : MF := vH 1 3 (b_m_is_checker_claim_ck ad)
def b_m_numbers_of_ck (ad : String → Addr) : MS := (jn (vL (dcM (zipAI (jb (var 0) (jb (var 1) noA))) (KM (vd (jB false 2) (vd (jB false 3) KI))) (fun ρ => some (.ok (.bl true) .va ρ)) (op2 (var 2) (ret (.int 0)) atT) (var 3) [2, 3]))
    kq)
def m_numbers_of_ck (ad : String → Addr) : MF := vH 2 4 (b_m_numbers_of_ck ad)
def b_m_follows_ck (ad : String → Addr) : MS := (jn (wp false (jK (jb (var 0) (jb (var 1) noA)) (m_numbers_of_ck ad)) (jB false 3))
    (jn (KZ (zipAI (jb (var 0) (jb (var 2) noA))) (KM (vd (KM (vd (jB false 4) (vd (jB false 5) KI))) (vd (jB false 6) KI))) (jn (ifS (op2 (var 6) (ifE (Kr (jK (jb (var 5) noA) (Jc ad))) (var 5) (jK (jb (lcM (JT (var 5)) (jB false 7) (fun ρ => some (.ok (.bl true) .va ρ)) (Kn (var 3) (var 7)) [7]) noA) (m_middle ad))) fNe) (jn (vL (ret (.bl false)))
    kq) kq)
    kq))
    (jn (vL (ret (.bl true)))
    kq)))
def m_follows_ck (ad : String → Addr) : MF := vH 3 8 (b_m_follows_ck ad)
def b_m_are_needs_ck (ad : String → Addr) : MS := (jn (vL (Wf (jK (jb (var 0) (jb (var 1) noA)) (m_is_table ad)) (Wl (jK (jb (var 0) (jb (var 1) (jb (var 1) noA))) (m_follows_ck ad)))))
    kq)
def m_are_needs_ck (ad : String → Addr) : MF := vH 2 2 (b_m_are_needs_ck ad)
def b_m_are_needs_within_ck (ad : String → Addr) : MS := (jn (ifS (orT (KU (Kr (jK (jb (var 2) noA) (Je ad)))) (orT (op2 (km (jb (var 2) noA) Kq) (op2 (var 1) (ret (.int 1)) kg) fNe) (KU (Kr (km (jb (lcM (JT (var 2)) (jB false 3) (fun ρ => some (.ok (.bl true) .va ρ)) (jK (jb (var 0) (jb (var 3) noA)) (m_is_table ad)) [3]) noA) KJ))))) (jn (vL (ret (.bl false)))
    kq) kq)
    (jn (ifS (op2 (op2 (var 2) (ret (.int 0)) atT) (km (jb (lcM (JT (var 0)) (KM (vd (jB false 4) (vd (jB false 5) KI))) (fun ρ => some (.ok (.bl true) .va ρ)) (ifE (Kr (jK (jb (var 5) noA) (Jc ad))) (var 5) (jj (jb (ret (.int 1)) (jb (ret (.int 1)) noA)))) [4, 5]) noA) Jf) fNe) (jn (vL (ret (.bl false)))
    kq) kq)
    (jn (vL (km (jb (lcM (Wm (jb (var 1) noA)) (jB false 6) (fun ρ => some (.ok (.bl true) .va ρ)) (jK (jb (var 0) (jb (op2 (var 2) (var 6) atT) (jb (op2 (var 2) (op2 (var 6) (ret (.int 1)) kg) atT) noA))) (m_follows_ck ad)) [6]) noA) KJ))
    kq)))
def m_are_needs_within_ck (ad : String → Addr) : MF := vH 3 7 (b_m_are_needs_within_ck ad)
def b_m_accepts_ck (ad : String → Addr) : MS := (jn (ifS (KU (Kr (jK (jb (var 0) noA) (kj ad)))) (jn (vL (ret (.bl false)))
    kq) kq)
    (jn (wp false (op2 (var 0) (ret (.int 1)) atT) (jB false 2))
    (jn (ifS (op2 (op2 (var 0) (ret (.int 0)) atT) (ret (.str [119, 105, 116, 104, 105, 110])) fEq) (jn (vL (Wf (jK (jb (var 2) (jb (op2 (var 0) (ret (.int 3)) atT) (jb (var 1) noA))) (m_are_needs_within_ck ad)) (Wl (op2 (Kn (jK (jb (var 2) (jb (op2 (var 1) (Ws (ret (.int 1))) atT) noA)) (m_numbers_of_ck ad)) (op2 (var 0) (ret (.int 2)) atT)) (op2 (var 0) (ret (.int 4)) atT) fEq))))
    kq) kq)
    (jn (vL (Wf (jK (jb (var 2) (jb (var 1) noA)) (m_are_needs_ck ad)) (Wl (jK (jb (var 0) (jb (jK (jb (var 2) (jb (var 1) noA)) (m_numbers_of_ck ad)) noA)) (m_is_true ad)))))
    kq))))
def jC (ad : String → Addr) : MF := vH 2 3 (b_m_accepts_ck ad)
end Tr
end F_MK
section F_G77
set_option Elab.async false
set_option maxRecDepth 1000000
set_option maxHeartbeats 4000000
set_option linter.all false
namespace Tr
open PySem PySem.Spec PyProof.Rows L2 LamX Vf
open SX (S)
def top (i : Nat) : Stmt := PySem.Challenge.pw_biddingmoves_k77_claims_that_are_none.main.body.getD i (.Pass ⟨0, 0, 0, 0⟩)
section
variable {P : Program} {w : World} {K : PySem.W.Frag} {mg : Str → Option Value} {base : Heap} {ad : String → Addr} {cs : List String}
abbrev st_m__law_dip : Stmt := top 40
abbrev n_m__law_dip : List Str := ["urn", "size", "digit"]
theorem sc_m__law_dip : FnScope n_m__law_dip ["urn", "size"] (defScope st_m__law_dip) := ⟨rfl, rfl, rfl, by decide +kernel, rfl, by decide +kernel, by decide +kernel⟩
theorem ok_m__law_dip {f : Addr} {fd : FuncData} (Z : Fy K mg ad cs) (F : Fun K "_law_dip" "_law_dip" st_m__law_dip f fd) :
    FnOk P w K mg base (L2.CX P w) 1 f fd ["urn", "size"] (spC K (vh ad)) := by
  show FnOk P w K mg base (L2.CX P w) (0 + 1) f fd ["urn", "size"] (spC K (KY (["urn", "size"] : List Str).length n_m__law_dip.length (b_m__law_dip ad)))
  refine ok_defC F sc_m__law_dip fun cdv A outer s H E hr => ?_
  have nd := sc_m__law_dip.nd
  have tk := takes_of (X := cxOf (L2.CX P w) P w K mg base n_m__law_dip "_law_dip" (defScope st_m__law_dip) f cdv A outer s H E) rfl rfl rfl rfl
  exact (jf (JR (Kk bin_gt (wx (jd 0 rfl (by first | exact Or.inl rfl | exact Or.inr (Or.inl rfl) | exact Or.inr (Or.inr rfl))) je) je) (jf (ss_asg false (jD (fun h => eb_divmod Z.nm.divmod h) (cv_divmod) (ja (wx (jd 0 rfl (by first | exact Or.inl rfl | exact Or.inr (Or.inl rfl) | exact Or.inr (Or.inr rfl))) je) (ja (jd 1 rfl (by first | exact Or.inl rfl | exact Or.inr (Or.inl rfl) | exact Or.inr (Or.inr rfl))) jc))) (Ks (wv (sg_sub (k := 0) hr.units1 rfl (by first | exact Or.inl rfl | exact Or.inr (Or.inl rfl) | exact Or.inr (Or.inr rfl)) je) (wv (kh false nd (i := 2) rfl (by first | exact Or.inl rfl | exact Or.inr rfl) (by first | exact .inl rfl | exact .inr rfl)) JU)) (ww (ww JV))))
    (jf (kl (jd 2 rfl (by first | exact Or.inl rfl | exact Or.inr (Or.inl rfl) | exact Or.inr (Or.inr rfl))))
    jp)) jp)
    (jf (ss_asg false (jE bin_mod (jD (fun h => eb_int Z.nm.int h) (cv_int) (ja (jE jA (jE Jj (wx (jd 0 rfl (by first | exact Or.inl rfl | exact Or.inr (Or.inl rfl) | exact Or.inr (Or.inr rfl))) je) je) je) jc)) je) (sg_sub (k := 0) hr.units1 rfl (by first | exact Or.inl rfl | exact Or.inr (Or.inl rfl) | exact Or.inr (Or.inr rfl)) je))
    (jf (kl (jE bin_mod (jD (fun h => eb_int Z.nm.int h) (cv_int) (ja (jE bin_div (wx (jd 0 rfl (by first | exact Or.inl rfl | exact Or.inr (Or.inl rfl) | exact Or.inr (Or.inr rfl))) je) je) jc)) (jd 1 rfl (by first | exact Or.inl rfl | exact Or.inr (Or.inl rfl) | exact Or.inr (Or.inr rfl)))))
    jp)))
abbrev st_m__law_any : Stmt := top 41
abbrev n_m__law_any : List Str := ["urn", "some"]
theorem sc_m__law_any : FnScope n_m__law_any ["urn", "some"] (defScope st_m__law_any) := ⟨rfl, rfl, rfl, by decide +kernel, rfl, by decide +kernel, by decide +kernel⟩
theorem ok_m__law_any {f : Addr} {fd : FuncData} (Z : Fy K mg ad cs) (F : Fun K "_law_any" "_law_any" st_m__law_any f fd)
    (c_m__law_dip : Df P w K mg base "_law_dip" 1 (spC K (vh ad))) :
    FnOk P w K mg base (L2.CX P w) 2 f fd ["urn", "some"] (spC K (wF ad)) := by
  show FnOk P w K mg base (L2.CX P w) (1 + 1) f fd ["urn", "some"] (spC K (KY (["urn", "some"] : List Str).length n_m__law_any.length (b_m__law_any ad)))
  refine ok_defC F sc_m__law_any fun cdv A outer s H E hr => ?_
  have nd := sc_m__law_any.nd
  have tk := takes_of (X := cxOf (L2.CX P w) P w K mg base n_m__law_any "_law_any" (defScope st_m__law_any) f cdv A outer s H E) rfl rfl rfl rfl
  exact (jf (kl (wx (jd 1 rfl (by first | exact Or.inl rfl | exact Or.inr (Or.inl rfl) | exact Or.inr (Or.inr rfl))) (JY c_m__law_dip (hr.mono (by decide)) tk (i := 0) rfl (by first | exact Or.inl rfl | exact Or.inr (Or.inl rfl) | exact Or.inr (Or.inr rfl)) (ja (jD (fun h => Ke Z.nm.len h) (Kh) (ja (jd 1 rfl (by first | exact Or.inl rfl | exact Or.inr (Or.inl rfl) | exact Or.inr (Or.inr rfl))) jc)) jc))))
    jp)
def b_m__law_none (ad : String → Addr) : MS := (jn (wp false (vD (jb (jj (jb (ret (.str [110, 101, 101, 100, 115])) (jb (var 1) (jb (ret (.str [97])) noA)))) (jb (jj (jb (ret (.str [110, 101, 101, 100, 115])) (jb (var 1) (jb (ret (.str [97])) (jb (jj (jb (ret (.int 1)) (jb (ret (.int 2)) noA))) (jb (ret (.int 0)) noA)))))) (jb (vD (jb (ret (.str [110, 101, 101, 100, 115])) (jb (var 1) (jb (ret (.str [97])) (jb (jj (jb (ret (.int 1)) (jb (ret (.int 2)) noA))) noA))))) noA)))) (jB false 2))
    (jn (wp false (op2 (var 2) (vD (jb (jj (jb (ret (.str [110, 101, 101, 100])) (jb (var 1) (jb (ret (.str [97])) (jb (jj (jb (ret (.int 1)) (jb (ret (.int 2)) noA))) noA))))) noA)) kg) (jB false 2))
    (jn (wp false (op2 (var 2) (vD (jb (jj (jb (ret (.str [110, 101, 101, 100, 115])) (jb (var 1) (jb (ret (.str [122])) (jb (jj (jb (ret (.int 1)) (jb (ret (.int 2)) noA))) noA))))) (jb (jj (jb (ret (.str [110, 101, 101, 100, 115])) (jb (var 1) (jb (ret .non) (jb (jj (jb (ret (.int 1)) (jb (ret (.int 2)) noA))) noA))))) (jb (jj (jb (ret (.str [110, 101, 101, 100, 115])) (jb (var 1) (jb (ret (.str [97])) (jb (jj (jb (ret (.int 2)) (jb (ret (.int 4)) noA))) noA))))) noA)))) kg) (jB false 2))
    (jn (wp false (op2 (var 2) (vD (jb (jj (jb (ret (.str [110, 101, 101, 100, 115])) (jb (var 1) (jb (ret (.str [97])) (jb (ret (.int 1)) noA))))) noA)) kg) (jB false 2))
    (jn (wp false (op2 (var 2) (vD (jb (jj (jb (ret (.str [97, 98, 111, 118, 101])) (jb (var 1) (jb (ret (.str [97])) (jb (jj (jb (ret (.int 1)) (jb (ret (.int 0)) noA))) noA))))) (jb (jj (jb (ret (.str [98, 101, 108, 111, 119])) (jb (var 1) (jb (ret (.str [97])) (jb (vD (jb (ret (.int 2)) (jb (ret (.int 3)) noA))) noA))))) noA))) kg) (jB false 2))
    (jn (wp false (op2 (var 2) (vD (jb (jj (jb (ret (.str [97, 98, 111, 118, 101])) (jb (var 1) (jb (jj (jb (ret (.str [97])) noA)) (jb (jj (jb (ret (.int 0)) (jb (ret (.int 1)) noA))) noA))))) (jb (jj (jb (ret (.str [110, 101, 101, 100, 115])) (jb (ret (.str [97])) (jb (var 1) (jb (jj (jb (ret (.int 1)) (jb (ret (.int 2)) noA))) noA))))) noA))) kg) (jB false 2))
    (jn (wp false (op2 (var 2) (vD (jb (jj (jb (ret (.str [119, 105, 116, 104, 105, 110])) (jb (var 1) (jb (ret (.str [97])) (jb (ret (.int 1)) noA))))) (jb (jj (jb (ret (.str [119, 105, 116, 104, 105, 110])) (jb (var 1) (jb (ret (.str [97])) (jb (Ws (ret (.int 1))) (jb (jj (jb (ret (.int 1)) (jb (ret (.int 1)) noA))) noA)))))) noA))) kg) (jB false 2))
    (jn (wp false (op2 (var 2) (vD (jb (jj (jb (ret (.str [119, 105, 116, 104, 105, 110])) (jb (var 1) (jb (ret (.str [97])) (jb (ret (.int 61)) (jb (jj (jb (ret (.int 1)) (jb (ret (.int 2)) noA))) noA)))))) (jb (jj (jb (ret (.str [119, 105, 116, 104, 105, 110])) (jb (var 1) (jb (ret (.str [97])) (jb (ret (.bl true)) (jb (jj (jb (ret (.int 1)) (jb (ret (.int 2)) noA))) noA)))))) noA))) kg) (jB false 2))
    (jn (wp false (op2 (var 2) (vD (jb (jj (jb (ret (.str [119, 105, 116, 104, 105, 110])) (jb (var 1) (jb (ret (.str [97])) (jb (ret (.int 0)) (jb (ret (.int 1)) noA)))))) (jb (jj (jb (ret (.str [119, 105, 116, 104, 105, 110])) (jb (var 1) (jb (ret (.str [97])) (jb (ret (.str [48])) (jb (jj (jb (ret (.int 1)) (jb (ret (.int 1)) noA))) noA)))))) noA))) kg) (jB false 2))
    (jn (wp false (op2 (var 2) (vD (jb (jj (jb (ret (.str [119, 105, 116, 104, 105, 110])) (jb (var 1) (jb (ret (.str [97])) (jb (jj (jb (ret (.int 1)) (jb (ret (.int 1)) noA))) (jb (ret (.int 0)) noA)))))) (jb (jj (jb (ret (.str [78, 101, 101, 100, 115])) (jb (var 1) (jb (ret (.str [97])) (jb (jj (jb (ret (.int 1)) (jb (ret (.int 2)) noA))) noA))))) noA))) kg) (jB false 2))
    (jn (wp false (op2 (var 2) (vD (jb (jj (jb (ret (.str [115, 97, 102, 101])) (jb (var 1) (jb (ret (.str [97])) (jb (jj (jb (ret (.int 3)) (jb (ret (.int 4)) noA))) (jb (jj (jb (ret (.int 1)) (jb (ret (.int 2)) noA))) noA)))))) (jb (jj (jb (ret (.str [115, 97, 102, 101])) (jb (var 1) (jb (ret (.str [97])) (jb (jj (jb (ret (.int 3)) (jb (ret (.int 2)) noA))) (jb (jj (jb (ret (.int 1)) (jb (ret (.int 2)) noA))) (jb (ret (.str [98])) noA))))))) noA))) kg) (jB false 2))
    (jn (wp false (op2 (var 2) (vD (jb (jj (jb (ret (.str [115, 97, 102, 101])) (jb (var 1) (jb (ret (.str [97])) (jb (jj (jb (ret (.int 3)) (jb (ret (.int 4)) noA))) (jb (jj (jb (Ws (ret (.int 1))) (jb (ret (.int 2)) noA))) (jb (ret (.str [98])) noA))))))) noA)) kg) (jB false 2))
    (jn (wp false (op2 (var 2) (vD (jb (jj (jb (ret (.str [115, 97, 102, 101])) (jb (var 1) (jb (ret (.str [97])) (jb (jj (jb (ret (.int 3)) (jb (ret (.int 4)) noA))) (jb (jj (jb (ret (.int 1)) (jb (ret (.int 2)) noA))) (jb (ret (.str [122])) noA))))))) (jb (jj (jb (ret (.str [115, 97, 102, 101])) (jb (var 1) (jb (ret (.str [97])) (jb (jj (jb (ret (.int 3)) (jb (ret (.int 4)) noA))) (jb (jj (jb (ret (.int 1)) (jb (ret (.int 2)) noA))) (jb (ret .non) noA))))))) noA))) kg) (jB false 2))
    (jn (wp false (op2 (var 2) (vD (jb (jj (jb (ret (.str [115, 97, 102, 101])) (jb (var 1) (jb (ret (.str [97])) (jb (ret (.int 1)) (jb (jj (jb (ret (.int 1)) (jb (ret (.int 2)) noA))) (jb (ret (.str [98])) noA))))))) noA)) kg) (jB false 2))
    (jn (wp false (op2 (var 2) (vD (jb (ret .non) (jb (ret (.int 5)) (jb (ret (.str [110, 101, 101, 100, 115])) (jb (jj noA) (jb (vD noA) (jb (fun ρ => some (.ok (.dct []) .ow ρ)) (jb (jj (jb (jj (jb (ret (.str [110, 101, 101, 100, 115])) noA)) (jb (var 1) (jb (ret (.str [97])) (jb (jj (jb (ret (.int 1)) (jb (ret (.int 2)) noA))) noA))))) (jb (jj (jb (ret (.str [110, 101, 101, 100, 115])) noA)) (jb (var 1) (jb (ret (.bl true)) noA))))))))))) kg) (jB false 2))
    (jn (wp false (op2 (var 2) (vD (jb (jj (jb (ret (.str [])) (jb (var 1) (jb (ret (.str [97])) (jb (jj (jb (ret (.int 1)) (jb (ret (.int 2)) noA))) noA))))) noA)) kg) (jB false 2))
    (jn (vL (Jx 0 (jb (var 2) noA) (wF ad)))
    kq)))))))))))))))))
def Jo (ad : String → Addr) : MC := KY 2 3 (b_m__law_none ad)
abbrev st_m__law_none : Stmt := top 45
abbrev n_m__law_none : List Str := ["urn", "f", "some"]
theorem sc_m__law_none : FnScope n_m__law_none ["urn", "f"] (defScope st_m__law_none) := ⟨rfl, rfl, rfl, by decide +kernel, rfl, by decide +kernel, by decide +kernel⟩
theorem ok_m__law_none {f : Addr} {fd : FuncData} (Z : Fy K mg ad cs) (F : Fun K "_law_none" "_law_none" st_m__law_none f fd)
    (c_m__law_any : Df P w K mg base "_law_any" 2 (spC K (wF ad))) :
    FnOk P w K mg base (L2.CX P w) 3 f fd ["urn", "f"] (spC K (Jo ad)) := by
  show FnOk P w K mg base (L2.CX P w) (2 + 1) f fd ["urn", "f"] (spC K (KY (["urn", "f"] : List Str).length n_m__law_none.length (b_m__law_none ad)))
  refine ok_defC F sc_m__law_none fun cdv A outer s H E hr => ?_
  have nd := sc_m__law_none.nd
  have tk := takes_of (X := cxOf (L2.CX P w) P w K mg base n_m__law_none "_law_none" (defScope st_m__law_none) f cdv A outer s H E) rfl rfl rfl rfl
  exact (jf (wo false (i := 2) (wt (ja (jg (ja (ji (l := [110, 101, 101, 100, 115]) (by decide +kernel)) (ja (jd 1 rfl (by first | exact Or.inl rfl | exact Or.inr (Or.inl rfl) | exact Or.inr (Or.inr rfl))) (ja (ji (l := [97]) (by decide +kernel)) jc)))) (ja (jg (ja (ji (l := [110, 101, 101, 100, 115]) (by decide +kernel)) (ja (jd 1 rfl (by first | exact Or.inl rfl | exact Or.inr (Or.inl rfl) | exact Or.inr (Or.inr rfl))) (ja (ji (l := [97]) (by decide +kernel)) (ja (jg (ja je (ja je jc))) (ja je jc)))))) (ja (wt (ja (ji (l := [110, 101, 101, 100, 115]) (by decide +kernel)) (ja (jd 1 rfl (by first | exact Or.inl rfl | exact Or.inr (Or.inl rfl) | exact Or.inr (Or.inr rfl))) (ja (ji (l := [97]) (by decide +kernel)) (ja (jg (ja je (ja je jc))) jc))))) jc)))) nd rfl (by first | exact Or.inl rfl | exact Or.inr rfl))
    (jf (wo false (i := 2) (jE jA (jd 2 rfl (by first | exact Or.inl rfl | exact Or.inr (Or.inl rfl) | exact Or.inr (Or.inr rfl))) (wt (ja (jg (ja (ji (l := [110, 101, 101, 100]) (by decide +kernel)) (ja (jd 1 rfl (by first | exact Or.inl rfl | exact Or.inr (Or.inl rfl) | exact Or.inr (Or.inr rfl))) (ja (ji (l := [97]) (by decide +kernel)) (ja (jg (ja je (ja je jc))) jc))))) jc))) nd rfl (by first | exact Or.inl rfl | exact Or.inr rfl))
    (jf (wo false (i := 2) (jE jA (jd 2 rfl (by first | exact Or.inl rfl | exact Or.inr (Or.inl rfl) | exact Or.inr (Or.inr rfl))) (wt (ja (jg (ja (ji (l := [110, 101, 101, 100, 115]) (by decide +kernel)) (ja (jd 1 rfl (by first | exact Or.inl rfl | exact Or.inr (Or.inl rfl) | exact Or.inr (Or.inr rfl))) (ja (ji (l := [122]) (by decide +kernel)) (ja (jg (ja je (ja je jc))) jc))))) (ja (jg (ja (ji (l := [110, 101, 101, 100, 115]) (by decide +kernel)) (ja (jd 1 rfl (by first | exact Or.inl rfl | exact Or.inr (Or.inl rfl) | exact Or.inr (Or.inr rfl))) (ja se_non (ja (jg (ja je (ja je jc))) jc))))) (ja (jg (ja (ji (l := [110, 101, 101, 100, 115]) (by decide +kernel)) (ja (jd 1 rfl (by first | exact Or.inl rfl | exact Or.inr (Or.inl rfl) | exact Or.inr (Or.inr rfl))) (ja (ji (l := [97]) (by decide +kernel)) (ja (jg (ja je (ja je jc))) jc))))) jc))))) nd rfl (by first | exact Or.inl rfl | exact Or.inr rfl))
    (jf (wo false (i := 2) (jE jA (jd 2 rfl (by first | exact Or.inl rfl | exact Or.inr (Or.inl rfl) | exact Or.inr (Or.inr rfl))) (wt (ja (jg (ja (ji (l := [110, 101, 101, 100, 115]) (by decide +kernel)) (ja (jd 1 rfl (by first | exact Or.inl rfl | exact Or.inr (Or.inl rfl) | exact Or.inr (Or.inr rfl))) (ja (ji (l := [97]) (by decide +kernel)) (ja je jc))))) jc))) nd rfl (by first | exact Or.inl rfl | exact Or.inr rfl))
    (jf (wo false (i := 2) (jE jA (jd 2 rfl (by first | exact Or.inl rfl | exact Or.inr (Or.inl rfl) | exact Or.inr (Or.inr rfl))) (wt (ja (jg (ja (ji (l := [97, 98, 111, 118, 101]) (by decide +kernel)) (ja (jd 1 rfl (by first | exact Or.inl rfl | exact Or.inr (Or.inl rfl) | exact Or.inr (Or.inr rfl))) (ja (ji (l := [97]) (by decide +kernel)) (ja (jg (ja je (ja je jc))) jc))))) (ja (jg (ja (ji (l := [98, 101, 108, 111, 119]) (by decide +kernel)) (ja (jd 1 rfl (by first | exact Or.inl rfl | exact Or.inr (Or.inl rfl) | exact Or.inr (Or.inr rfl))) (ja (ji (l := [97]) (by decide +kernel)) (ja (wt (ja je (ja je jc))) jc))))) jc)))) nd rfl (by first | exact Or.inl rfl | exact Or.inr rfl))
    (jf (wo false (i := 2) (jE jA (jd 2 rfl (by first | exact Or.inl rfl | exact Or.inr (Or.inl rfl) | exact Or.inr (Or.inr rfl))) (wt (ja (jg (ja (ji (l := [97, 98, 111, 118, 101]) (by decide +kernel)) (ja (jd 1 rfl (by first | exact Or.inl rfl | exact Or.inr (Or.inl rfl) | exact Or.inr (Or.inr rfl))) (ja (jg (ja (ji (l := [97]) (by decide +kernel)) jc)) (ja (jg (ja je (ja je jc))) jc))))) (ja (jg (ja (ji (l := [110, 101, 101, 100, 115]) (by decide +kernel)) (ja (ji (l := [97]) (by decide +kernel)) (ja (jd 1 rfl (by first | exact Or.inl rfl | exact Or.inr (Or.inl rfl) | exact Or.inr (Or.inr rfl))) (ja (jg (ja je (ja je jc))) jc))))) jc)))) nd rfl (by first | exact Or.inl rfl | exact Or.inr rfl))
    (jf (wo false (i := 2) (jE jA (jd 2 rfl (by first | exact Or.inl rfl | exact Or.inr (Or.inl rfl) | exact Or.inr (Or.inr rfl))) (wt (ja (jg (ja (ji (l := [119, 105, 116, 104, 105, 110]) (by decide +kernel)) (ja (jd 1 rfl (by first | exact Or.inl rfl | exact Or.inr (Or.inl rfl) | exact Or.inr (Or.inr rfl))) (ja (ji (l := [97]) (by decide +kernel)) (ja je jc))))) (ja (jg (ja (ji (l := [119, 105, 116, 104, 105, 110]) (by decide +kernel)) (ja (jd 1 rfl (by first | exact Or.inl rfl | exact Or.inr (Or.inl rfl) | exact Or.inr (Or.inr rfl))) (ja (ji (l := [97]) (by decide +kernel)) (ja (se_neg je) (ja (jg (ja je (ja je jc))) jc)))))) jc)))) nd rfl (by first | exact Or.inl rfl | exact Or.inr rfl))
    (jf (wo false (i := 2) (jE jA (jd 2 rfl (by first | exact Or.inl rfl | exact Or.inr (Or.inl rfl) | exact Or.inr (Or.inr rfl))) (wt (ja (jg (ja (ji (l := [119, 105, 116, 104, 105, 110]) (by decide +kernel)) (ja (jd 1 rfl (by first | exact Or.inl rfl | exact Or.inr (Or.inl rfl) | exact Or.inr (Or.inr rfl))) (ja (ji (l := [97]) (by decide +kernel)) (ja je (ja (jg (ja je (ja je jc))) jc)))))) (ja (jg (ja (ji (l := [119, 105, 116, 104, 105, 110]) (by decide +kernel)) (ja (jd 1 rfl (by first | exact Or.inl rfl | exact Or.inr (Or.inl rfl) | exact Or.inr (Or.inr rfl))) (ja (ji (l := [97]) (by decide +kernel)) (ja JX (ja (jg (ja je (ja je jc))) jc)))))) jc)))) nd rfl (by first | exact Or.inl rfl | exact Or.inr rfl))
    (jf (wo false (i := 2) (jE jA (jd 2 rfl (by first | exact Or.inl rfl | exact Or.inr (Or.inl rfl) | exact Or.inr (Or.inr rfl))) (wt (ja (jg (ja (ji (l := [119, 105, 116, 104, 105, 110]) (by decide +kernel)) (ja (jd 1 rfl (by first | exact Or.inl rfl | exact Or.inr (Or.inl rfl) | exact Or.inr (Or.inr rfl))) (ja (ji (l := [97]) (by decide +kernel)) (ja je (ja je jc)))))) (ja (jg (ja (ji (l := [119, 105, 116, 104, 105, 110]) (by decide +kernel)) (ja (jd 1 rfl (by first | exact Or.inl rfl | exact Or.inr (Or.inl rfl) | exact Or.inr (Or.inr rfl))) (ja (ji (l := [97]) (by decide +kernel)) (ja (ji (l := [48]) (by decide +kernel)) (ja (jg (ja je (ja je jc))) jc)))))) jc)))) nd rfl (by first | exact Or.inl rfl | exact Or.inr rfl))
    (jf (wo false (i := 2) (jE jA (jd 2 rfl (by first | exact Or.inl rfl | exact Or.inr (Or.inl rfl) | exact Or.inr (Or.inr rfl))) (wt (ja (jg (ja (ji (l := [119, 105, 116, 104, 105, 110]) (by decide +kernel)) (ja (jd 1 rfl (by first | exact Or.inl rfl | exact Or.inr (Or.inl rfl) | exact Or.inr (Or.inr rfl))) (ja (ji (l := [97]) (by decide +kernel)) (ja (jg (ja je (ja je jc))) (ja je jc)))))) (ja (jg (ja (ji (l := [78, 101, 101, 100, 115]) (by decide +kernel)) (ja (jd 1 rfl (by first | exact Or.inl rfl | exact Or.inr (Or.inl rfl) | exact Or.inr (Or.inr rfl))) (ja (ji (l := [97]) (by decide +kernel)) (ja (jg (ja je (ja je jc))) jc))))) jc)))) nd rfl (by first | exact Or.inl rfl | exact Or.inr rfl))
    (jf (wo false (i := 2) (jE jA (jd 2 rfl (by first | exact Or.inl rfl | exact Or.inr (Or.inl rfl) | exact Or.inr (Or.inr rfl))) (wt (ja (jg (ja (ji (l := [115, 97, 102, 101]) (by decide +kernel)) (ja (jd 1 rfl (by first | exact Or.inl rfl | exact Or.inr (Or.inl rfl) | exact Or.inr (Or.inr rfl))) (ja (ji (l := [97]) (by decide +kernel)) (ja (jg (ja je (ja je jc))) (ja (jg (ja je (ja je jc))) jc)))))) (ja (jg (ja (ji (l := [115, 97, 102, 101]) (by decide +kernel)) (ja (jd 1 rfl (by first | exact Or.inl rfl | exact Or.inr (Or.inl rfl) | exact Or.inr (Or.inr rfl))) (ja (ji (l := [97]) (by decide +kernel)) (ja (jg (ja je (ja je jc))) (ja (jg (ja je (ja je jc))) (ja (ji (l := [98]) (by decide +kernel)) jc))))))) jc)))) nd rfl (by first | exact Or.inl rfl | exact Or.inr rfl))
    (jf (wo false (i := 2) (jE jA (jd 2 rfl (by first | exact Or.inl rfl | exact Or.inr (Or.inl rfl) | exact Or.inr (Or.inr rfl))) (wt (ja (jg (ja (ji (l := [115, 97, 102, 101]) (by decide +kernel)) (ja (jd 1 rfl (by first | exact Or.inl rfl | exact Or.inr (Or.inl rfl) | exact Or.inr (Or.inr rfl))) (ja (ji (l := [97]) (by decide +kernel)) (ja (jg (ja je (ja je jc))) (ja (jg (ja (se_neg je) (ja je jc))) (ja (ji (l := [98]) (by decide +kernel)) jc))))))) jc))) nd rfl (by first | exact Or.inl rfl | exact Or.inr rfl))
    (jf (wo false (i := 2) (jE jA (jd 2 rfl (by first | exact Or.inl rfl | exact Or.inr (Or.inl rfl) | exact Or.inr (Or.inr rfl))) (wt (ja (jg (ja (ji (l := [115, 97, 102, 101]) (by decide +kernel)) (ja (jd 1 rfl (by first | exact Or.inl rfl | exact Or.inr (Or.inl rfl) | exact Or.inr (Or.inr rfl))) (ja (ji (l := [97]) (by decide +kernel)) (ja (jg (ja je (ja je jc))) (ja (jg (ja je (ja je jc))) (ja (ji (l := [122]) (by decide +kernel)) jc))))))) (ja (jg (ja (ji (l := [115, 97, 102, 101]) (by decide +kernel)) (ja (jd 1 rfl (by first | exact Or.inl rfl | exact Or.inr (Or.inl rfl) | exact Or.inr (Or.inr rfl))) (ja (ji (l := [97]) (by decide +kernel)) (ja (jg (ja je (ja je jc))) (ja (jg (ja je (ja je jc))) (ja se_non jc))))))) jc)))) nd rfl (by first | exact Or.inl rfl | exact Or.inr rfl))
    (jf (wo false (i := 2) (jE jA (jd 2 rfl (by first | exact Or.inl rfl | exact Or.inr (Or.inl rfl) | exact Or.inr (Or.inr rfl))) (wt (ja (jg (ja (ji (l := [115, 97, 102, 101]) (by decide +kernel)) (ja (jd 1 rfl (by first | exact Or.inl rfl | exact Or.inr (Or.inl rfl) | exact Or.inr (Or.inr rfl))) (ja (ji (l := [97]) (by decide +kernel)) (ja je (ja (jg (ja je (ja je jc))) (ja (ji (l := [98]) (by decide +kernel)) jc))))))) jc))) nd rfl (by first | exact Or.inl rfl | exact Or.inr rfl))
    (jf (wo false (i := 2) (jE jA (jd 2 rfl (by first | exact Or.inl rfl | exact Or.inr (Or.inl rfl) | exact Or.inr (Or.inr rfl))) (wt (ja se_non (ja je (ja (ji (l := [110, 101, 101, 100, 115]) (by decide +kernel)) (ja (jg jc) (ja (wt jc) (ja se_dict0 (ja (jg (ja (jg (ja (ji (l := [110, 101, 101, 100, 115]) (by decide +kernel)) jc)) (ja (jd 1 rfl (by first | exact Or.inl rfl | exact Or.inr (Or.inl rfl) | exact Or.inr (Or.inr rfl))) (ja (ji (l := [97]) (by decide +kernel)) (ja (jg (ja je (ja je jc))) jc))))) (ja (jg (ja (ji (l := [110, 101, 101, 100, 115]) (by decide +kernel)) jc)) (ja (jd 1 rfl (by first | exact Or.inl rfl | exact Or.inr (Or.inl rfl) | exact Or.inr (Or.inr rfl))) (ja JX jc)))))))))))) nd rfl (by first | exact Or.inl rfl | exact Or.inr rfl))
    (jf (wo false (i := 2) (jE jA (jd 2 rfl (by first | exact Or.inl rfl | exact Or.inr (Or.inl rfl) | exact Or.inr (Or.inr rfl))) (wt (ja (jg (ja (ji (l := []) (by decide +kernel)) (ja (jd 1 rfl (by first | exact Or.inl rfl | exact Or.inr (Or.inl rfl) | exact Or.inr (Or.inr rfl))) (ja (ji (l := [97]) (by decide +kernel)) (ja (jg (ja je (ja je jc))) jc))))) jc))) nd rfl (by first | exact Or.inl rfl | exact Or.inr rfl))
    (jf (kl (JY c_m__law_any (hr.mono (by decide)) tk (i := 0) rfl (by first | exact Or.inl rfl | exact Or.inr (Or.inl rfl) | exact Or.inr (Or.inr rfl)) (ja (jd 2 rfl (by first | exact Or.inl rfl | exact Or.inr (Or.inl rfl) | exact Or.inr (Or.inr rfl))) jc)))
    jp)))))))))))))))))
abbrev st_m__law_shared : Stmt := top 42
abbrev n_m__law_shared : List Str := ["a", "b"]
theorem sc_m__law_shared : FnScope n_m__law_shared ["a", "b"] (defScope st_m__law_shared) := ⟨rfl, rfl, rfl, by decide +kernel, rfl, by decide +kernel, by decide +kernel⟩
theorem ok_m__law_shared {f : Addr} {fd : FuncData} (Z : Fy K mg ad cs) (F : Fun K "_law_shared" "_law_shared" st_m__law_shared f fd) :
    FnOk P w K mg base (L2.CX P w) 1 f fd ["a", "b"] (spM K (m__law_shared ad)) := by
  show FnOk P w K mg base (L2.CX P w) (0 + 1) f fd ["a", "b"] (spM K (vH (["a", "b"] : List Str).length n_m__law_shared.length (b_m__law_shared ad)))
  refine vF F sc_m__law_shared fun cdv A outer s H E hr => ?_
  have nd := sc_m__law_shared.nd
  have tk := takes_of (X := cxOf (L2.CX P w) P w K mg base n_m__law_shared "_law_shared" (defScope st_m__law_shared) f cdv A outer s H E) rfl rfl rfl rfl
  exact (jf (ss_par (i := 0) (j := 1) (ja (jD (fun h => eb_abs Z.nm.abs h) (cv_abs) (ja (jd 0 rfl (by first | exact Or.inl rfl | exact Or.inr (Or.inl rfl) | exact Or.inr (Or.inr rfl))) jc)) (ja (jD (fun h => eb_abs Z.nm.abs h) (cv_abs) (ja (jd 1 rfl (by first | exact Or.inl rfl | exact Or.inr (Or.inl rfl) | exact Or.inr (Or.inr rfl))) jc)) jc)) nd rfl rfl (by decide) rfl rfl)
    (jf (ss_while lots (passes_of rfl) (Kk bin_gt (jd 1 rfl (by first | exact Or.inl rfl | exact Or.inr (Or.inl rfl) | exact Or.inr (Or.inr rfl))) je) (jf (ss_par (i := 0) (j := 1) (ja (jd 1 rfl (by first | exact Or.inl rfl | exact Or.inr (Or.inl rfl) | exact Or.inr (Or.inr rfl))) (ja (jE bin_mod (jD (fun h => eb_int Z.nm.int h) (cv_int) (ja (jd 0 rfl (by first | exact Or.inl rfl | exact Or.inr (Or.inl rfl) | exact Or.inr (Or.inr rfl))) jc)) (jd 1 rfl (by first | exact Or.inl rfl | exact Or.inr (Or.inl rfl) | exact Or.inr (Or.inr rfl)))) jc)) nd rfl rfl (by decide) rfl rfl)
    jp))
    (jf (kl (jd 0 rfl (by first | exact Or.inl rfl | exact Or.inr (Or.inl rfl) | exact Or.inr (Or.inr rfl))))
    jp)))
abbrev st_m__law_low_v1 : Stmt := top 43
abbrev n_m__law_low_v1 : List Str := ["top", "bottom", "own"]
theorem sc_m__law_low_v1 : FnScope n_m__law_low_v1 ["top", "bottom"] (defScope st_m__law_low_v1) := ⟨rfl, rfl, rfl, by decide +kernel, rfl, by decide +kernel, by decide +kernel⟩
theorem ok_m__law_low_v1 {f : Addr} {fd : FuncData} (Z : Fy K mg ad cs) (F : Fun K "_law_low" "_law_low" st_m__law_low_v1 f fd)
    (c_m__law_shared : Df P w K mg base "_law_shared" 1 (spM K (m__law_shared ad))) :
    FnOk P w K mg base (L2.CX P w) 2 f fd ["top", "bottom"] (spM K (vI ad)) := by
  show FnOk P w K mg base (L2.CX P w) (1 + 1) f fd ["top", "bottom"] (spM K (vH (["top", "bottom"] : List Str).length n_m__law_low_v1.length (b_m__law_low_v1 ad)))
  refine vF F sc_m__law_low_v1 fun cdv A outer s H E hr => ?_
  have nd := sc_m__law_low_v1.nd
  have tk := takes_of (X := cxOf (L2.CX P w) P w K mg base n_m__law_low_v1 "_law_low" (defScope st_m__law_low_v1) f cdv A outer s H E) rfl rfl rfl rfl
  exact (jf (wo false (i := 2) (jq c_m__law_shared (hr.mono (by decide)) tk (ja (jd 0 rfl (by first | exact Or.inl rfl | exact Or.inr (Or.inl rfl) | exact Or.inr (Or.inr rfl))) (ja (jd 1 rfl (by first | exact Or.inl rfl | exact Or.inr (Or.inl rfl) | exact Or.inr (Or.inr rfl))) jc))) nd rfl (by first | exact Or.inl rfl | exact Or.inr rfl))
    (jf (kl (jg (ja (jE bin_div (jd 0 rfl (by first | exact Or.inl rfl | exact Or.inr (Or.inl rfl) | exact Or.inr (Or.inr rfl))) (jd 2 rfl (by first | exact Or.inl rfl | exact Or.inr (Or.inl rfl) | exact Or.inr (Or.inr rfl)))) (ja (jE bin_div (jd 1 rfl (by first | exact Or.inl rfl | exact Or.inr (Or.inl rfl) | exact Or.inr (Or.inr rfl))) (jd 2 rfl (by first | exact Or.inl rfl | exact Or.inr (Or.inl rfl) | exact Or.inr (Or.inr rfl)))) jc))))
    jp))
def b_m__law_bad_rows (ad : String → Addr) : MS := (jn (wp false (vD (jb (jj noA) (jb (ret .non) (jb (vD (jb (jj (jb (ret (.str [97])) (jb (jj (jb (ret (.int 0)) (jb (ret (.int 1)) noA))) noA))) noA)) (jb (jj (jb (jj (jb (ret (.str [97])) (jb (jj (jb (ret (.int 0)) (jb (ret (.int 1)) noA))) noA))) (jb (jj (jb (ret (.str [97])) (jb (jj (jb (ret (.int 1)) (jb (ret (.int 1)) noA))) noA))) noA))) noA))))) (jB false 1))
    (jn (wp false (op2 (var 1) (vD (jb (jj (jb (jj (jb (ret (.str [98])) (jb (jj (jb (ret (.int 0)) (jb (ret (.int 1)) noA))) noA))) (jb (jj (jb (ret (.str [97])) (jb (jj (jb (ret (.int 0)) (jb (ret (.int 1)) noA))) noA))) noA))) noA)) kg) (jB false 1))
    (jn (wp false (op2 (var 1) (vD (jb (jj (jb (jj (jb (ret (.str [97])) (jb (jj (jb (ret (.str [98])) noA)) noA))) (jb (jj (jb (ret (.str [98])) (jb (jj (jb (ret (.str [97])) noA)) noA))) noA))) (jb (jj (jb (jj (jb (ret (.str [97])) (jb (jj (jb (ret (.str [99])) noA)) noA))) (jb (jj (jb (ret (.str [98])) (jb (jj (jb (ret (.int 0)) (jb (ret (.int 1)) noA))) noA))) noA))) (jb (jj (jb (jj (jb (ret (.str [97])) (jb (jj (jb (ret (.int 2)) (jb (ret (.int 4)) noA))) noA))) noA)) noA)))) kg) (jB false 1))
    (jn (wp false (op2 (var 1) (vD (jb (jj (jb (jj (jb (ret (.str [97])) (jb (jj (jb (ret (.int 3)) (jb (ret (.int 2)) noA))) noA))) noA)) noA)) kg) (jB false 1))
    (jn (wp false (op2 (var 1) (vD (jb (jj (jb (jj (jb (ret (.str [97])) (jb (jj (jb (ret (.int 1)) (jb (op2 (op2 (ret (.int 10)) (ret (.int 12)) WH) (ret (.int 1)) kg) noA))) noA))) noA)) (jb (jj (jb (jj (jb (ret (.str [97])) (jb (jj noA) noA))) noA)) (jb (jj (jb (jj (jb (ret (.str [97])) (jb (vD (jb (ret (.str [98])) noA)) noA))) (jb (jj (jb (ret (.str [98])) (jb (jj (jb (ret (.int 0)) (jb (ret (.int 1)) noA))) noA))) noA))) noA)))) kg) (jB false 1))
    (jn (wp false (op2 (var 1) (vD (jb (jj (jb (jj (jb (ret (.str [65])) (jb (jj (jb (ret (.int 0)) (jb (ret (.int 1)) noA))) noA))) noA)) noA)) kg) (jB false 1))
    (jn (wp false (op2 (var 1) (vD (jb (jj (jb (jj (jb (ret (.str [97])) (jb (jj (jb (ret (.str [98])) (jb (ret (.str [98])) noA))) noA))) (jb (jj (jb (ret (.str [98])) (jb (jj (jb (ret (.int 0)) (jb (ret (.int 1)) noA))) noA))) noA))) (jb (jj (jb (jj (jb (ret (.str [97])) (jb (jj (jb (ret (.int 0)) (jb (ret (.int 1)) noA))) (jb (ret (.int 0)) noA)))) noA)) (jb (jj (jb (vD (jb (ret (.str [97])) (jb (jj (jb (ret (.int 0)) (jb (ret (.int 1)) noA))) noA))) noA)) noA)))) kg) (jB false 1))
    (jn (wp false (op2 (var 1) (vD (jb (jj (jb (jj (jb (ret (.str [97, 98])) (jb (jj (jb (ret (.int 0)) (jb (ret (.int 1)) noA))) noA))) noA)) noA)) kg) (jB false 1))
    (jn (wp false (op2 (var 1) (vD (jb (jj (jb (jj (jb (ret (.str [97])) (jb (jj (jb (ret (.str [99])) (jb (ret (.str [98])) noA))) noA))) (jb (jj (jb (ret (.str [98])) (jb (jj (jb (ret (.int 0)) (jb (ret (.int 1)) noA))) noA))) (jb (jj (jb (ret (.str [99])) (jb (jj (jb (ret (.int 1)) (jb (ret (.int 1)) noA))) noA))) noA)))) (jb (jj (jb (jj (jb (ret (.str [97])) (jb (jj (jb (ret (.bl true)) (jb (ret (.int 1)) noA))) noA))) noA)) noA))) kg) (jB false 1))
    (jn (wp false (op2 (var 1) (vD (jb (jj (jb (jj (jb (ret (.str [97])) (jb (ret (.str [98])) noA))) (jb (jj (jb (ret (.str [98])) (jb (jj (jb (ret (.int 0)) (jb (ret (.int 1)) noA))) noA))) noA))) noA)) kg) (jB false 1))
    (jn (vL (Jx 0 (jb (op2 (var 1) (vD (jb (km (jb (lcM (JT (ret (.str [97, 98, 99, 100, 101, 102, 103, 104, 105, 106, 107]))) (jB false 2) (fun ρ => some (.ok (.bl true) .va ρ)) (jj (jb (var 2) (jb (jj (jb (ret (.int 0)) (jb (ret (.int 1)) noA))) noA))) [2]) noA) Jf) (jb (ret (.str [97, 32, 61, 32, 48, 47, 49])) (jb (jj (jb (jj (jb (ret (.str [97])) (jb (jj (jb (ret (.int 0)) noA)) noA))) noA)) noA)))) kg) noA) (wF ad)))
    kq)))))))))))
def wY (ad : String → Addr) : MC := KY 1 3 (b_m__law_bad_rows ad)
abbrev wz : Stmt := top 44
abbrev n_m__law_bad_rows : List Str := ["urn", "some", "each"]
theorem sc_m__law_bad_rows : FnScope n_m__law_bad_rows ["urn"] (defScope wz) := ⟨rfl, rfl, rfl, by decide +kernel, rfl, by decide +kernel, by decide +kernel⟩
theorem ok_m__law_bad_rows {f : Addr} {fd : FuncData} (Z : Fy K mg ad cs) (F : Fun K "_law_bad_rows" "_law_bad_rows" wz f fd)
    (c_m__law_any : Df P w K mg base "_law_any" 2 (spC K (wF ad))) :
    FnOk P w K mg base (L2.CX P w) 3 f fd ["urn"] (spC K (wY ad)) := by
  show FnOk P w K mg base (L2.CX P w) (2 + 1) f fd ["urn"] (spC K (KY (["urn"] : List Str).length n_m__law_bad_rows.length (b_m__law_bad_rows ad)))
  refine ok_defC F sc_m__law_bad_rows fun cdv A outer s H E hr => ?_
  have nd := sc_m__law_bad_rows.nd
  have tk := takes_of (X := cxOf (L2.CX P w) P w K mg base n_m__law_bad_rows "_law_bad_rows" (defScope wz) f cdv A outer s H E) rfl rfl rfl rfl
  exact (jf (wo false (i := 1) (wt (ja (jg jc) (ja se_non (ja (wt (ja (jg (ja (ji (l := [97]) (by decide +kernel)) (ja (jg (ja je (ja je jc))) jc))) jc)) (ja (jg (ja (jg (ja (ji (l := [97]) (by decide +kernel)) (ja (jg (ja je (ja je jc))) jc))) (ja (jg (ja (ji (l := [97]) (by decide +kernel)) (ja (jg (ja je (ja je jc))) jc))) jc))) jc))))) nd rfl (by first | exact Or.inl rfl | exact Or.inr rfl))
    (jf (wo false (i := 1) (jE jA (jd 1 rfl (by first | exact Or.inl rfl | exact Or.inr (Or.inl rfl) | exact Or.inr (Or.inr rfl))) (wt (ja (jg (ja (jg (ja (ji (l := [98]) (by decide +kernel)) (ja (jg (ja je (ja je jc))) jc))) (ja (jg (ja (ji (l := [97]) (by decide +kernel)) (ja (jg (ja je (ja je jc))) jc))) jc))) jc))) nd rfl (by first | exact Or.inl rfl | exact Or.inr rfl))
    (jf (wo false (i := 1) (jE jA (jd 1 rfl (by first | exact Or.inl rfl | exact Or.inr (Or.inl rfl) | exact Or.inr (Or.inr rfl))) (wt (ja (jg (ja (jg (ja (ji (l := [97]) (by decide +kernel)) (ja (jg (ja (ji (l := [98]) (by decide +kernel)) jc)) jc))) (ja (jg (ja (ji (l := [98]) (by decide +kernel)) (ja (jg (ja (ji (l := [97]) (by decide +kernel)) jc)) jc))) jc))) (ja (jg (ja (jg (ja (ji (l := [97]) (by decide +kernel)) (ja (jg (ja (ji (l := [99]) (by decide +kernel)) jc)) jc))) (ja (jg (ja (ji (l := [98]) (by decide +kernel)) (ja (jg (ja je (ja je jc))) jc))) jc))) (ja (jg (ja (jg (ja (ji (l := [97]) (by decide +kernel)) (ja (jg (ja je (ja je jc))) jc))) jc)) jc))))) nd rfl (by first | exact Or.inl rfl | exact Or.inr rfl))
    (jf (wo false (i := 1) (jE jA (jd 1 rfl (by first | exact Or.inl rfl | exact Or.inr (Or.inl rfl) | exact Or.inr (Or.inr rfl))) (wt (ja (jg (ja (jg (ja (ji (l := [97]) (by decide +kernel)) (ja (jg (ja je (ja je jc))) jc))) jc)) jc))) nd rfl (by first | exact Or.inl rfl | exact Or.inr rfl))
    (jf (wo false (i := 1) (jE jA (jd 1 rfl (by first | exact Or.inl rfl | exact Or.inr (Or.inl rfl) | exact Or.inr (Or.inr rfl))) (wt (ja (jg (ja (jg (ja (ji (l := [97]) (by decide +kernel)) (ja (jg (ja je (ja (jE jA (jE bin_pow je je) je) jc))) jc))) jc)) (ja (jg (ja (jg (ja (ji (l := [97]) (by decide +kernel)) (ja (jg jc) jc))) jc)) (ja (jg (ja (jg (ja (ji (l := [97]) (by decide +kernel)) (ja (wt (ja (ji (l := [98]) (by decide +kernel)) jc)) jc))) (ja (jg (ja (ji (l := [98]) (by decide +kernel)) (ja (jg (ja je (ja je jc))) jc))) jc))) jc))))) nd rfl (by first | exact Or.inl rfl | exact Or.inr rfl))
    (jf (wo false (i := 1) (jE jA (jd 1 rfl (by first | exact Or.inl rfl | exact Or.inr (Or.inl rfl) | exact Or.inr (Or.inr rfl))) (wt (ja (jg (ja (jg (ja (ji (l := [65]) (by decide +kernel)) (ja (jg (ja je (ja je jc))) jc))) jc)) jc))) nd rfl (by first | exact Or.inl rfl | exact Or.inr rfl))
    (jf (wo false (i := 1) (jE jA (jd 1 rfl (by first | exact Or.inl rfl | exact Or.inr (Or.inl rfl) | exact Or.inr (Or.inr rfl))) (wt (ja (jg (ja (jg (ja (ji (l := [97]) (by decide +kernel)) (ja (jg (ja (ji (l := [98]) (by decide +kernel)) (ja (ji (l := [98]) (by decide +kernel)) jc))) jc))) (ja (jg (ja (ji (l := [98]) (by decide +kernel)) (ja (jg (ja je (ja je jc))) jc))) jc))) (ja (jg (ja (jg (ja (ji (l := [97]) (by decide +kernel)) (ja (jg (ja je (ja je jc))) (ja je jc)))) jc)) (ja (jg (ja (wt (ja (ji (l := [97]) (by decide +kernel)) (ja (jg (ja je (ja je jc))) jc))) jc)) jc))))) nd rfl (by first | exact Or.inl rfl | exact Or.inr rfl))
    (jf (wo false (i := 1) (jE jA (jd 1 rfl (by first | exact Or.inl rfl | exact Or.inr (Or.inl rfl) | exact Or.inr (Or.inr rfl))) (wt (ja (jg (ja (jg (ja (ji (l := [97, 98]) (by decide +kernel)) (ja (jg (ja je (ja je jc))) jc))) jc)) jc))) nd rfl (by first | exact Or.inl rfl | exact Or.inr rfl))
    (jf (wo false (i := 1) (jE jA (jd 1 rfl (by first | exact Or.inl rfl | exact Or.inr (Or.inl rfl) | exact Or.inr (Or.inr rfl))) (wt (ja (jg (ja (jg (ja (ji (l := [97]) (by decide +kernel)) (ja (jg (ja (ji (l := [99]) (by decide +kernel)) (ja (ji (l := [98]) (by decide +kernel)) jc))) jc))) (ja (jg (ja (ji (l := [98]) (by decide +kernel)) (ja (jg (ja je (ja je jc))) jc))) (ja (jg (ja (ji (l := [99]) (by decide +kernel)) (ja (jg (ja je (ja je jc))) jc))) jc)))) (ja (jg (ja (jg (ja (ji (l := [97]) (by decide +kernel)) (ja (jg (ja JX (ja je jc))) jc))) jc)) jc)))) nd rfl (by first | exact Or.inl rfl | exact Or.inr rfl))
    (jf (wo false (i := 1) (jE jA (jd 1 rfl (by first | exact Or.inl rfl | exact Or.inr (Or.inl rfl) | exact Or.inr (Or.inr rfl))) (wt (ja (jg (ja (jg (ja (ji (l := [97]) (by decide +kernel)) (ja (ji (l := [98]) (by decide +kernel)) jc))) (ja (jg (ja (ji (l := [98]) (by decide +kernel)) (ja (jg (ja je (ja je jc))) jc))) jc))) jc))) nd rfl (by first | exact Or.inl rfl | exact Or.inr rfl))
    (jf (kl (JY c_m__law_any (hr.mono (by decide)) tk (i := 0) rfl (by first | exact Or.inl rfl | exact Or.inr (Or.inl rfl) | exact Or.inr (Or.inr rfl)) (ja (jE jA (jd 1 rfl (by first | exact Or.inl rfl | exact Or.inr (Or.inl rfl) | exact Or.inr (Or.inr rfl))) (wt (ja (jD (fun h => eb_tuple Z.nm.tuple h) (cv_tuple) (ja (Kv (own := [("each", 2)]) (U := [2]) nd (blkOk_by (N := n_m__law_bad_rows) (sc := defScope wz) (by decide +kernel)) (Jm (ji (l := [97, 98, 99, 100, 101, 102, 103, 104, 105, 106, 107]) (by decide +kernel))) (fun s0 H0 C cl fp => (kh false nd (i := 2) rfl (by first | exact Or.inl rfl | exact Or.inr rfl) (by first | exact .inl rfl | exact .inr rfl))) (fun s0 H0 C cl fp => rfl) (fun s0 H0 C cl fp => (jg (ja (jd 2 rfl (by first | exact Or.inl rfl | exact Or.inr (Or.inl rfl) | exact Or.inr (Or.inr rfl))) (ja (jg (ja je (ja je jc))) jc))))) jc)) (ja (ji (l := [97, 32, 61, 32, 48, 47, 49]) (by decide +kernel)) (ja (jg (ja (jg (ja (ji (l := [97]) (by decide +kernel)) (ja (jg (ja je jc)) jc))) jc)) jc))))) jc)))
    jp)))))))))))
abbrev st_m_is_row : Stmt := top 7
abbrev n_m_is_row : List Str := ["value"]
theorem sc_m_is_row : FnScope n_m_is_row ["value"] (defScope st_m_is_row) := ⟨rfl, rfl, rfl, by decide +kernel, rfl, by decide +kernel, by decide +kernel⟩
theorem ok_m_is_row {f : Addr} {fd : FuncData} (Z : Fy K mg ad cs) (F : Fun K "is_row" "is_row" st_m_is_row f fd) :
    FnOk P w K mg base (L2.CX P w) 1 f fd ["value"] (spM K (Je ad)) := by
  show FnOk P w K mg base (L2.CX P w) (0 + 1) f fd ["value"] (spM K (vH (["value"] : List Str).length n_m_is_row.length (b_m_is_row ad)))
  refine vF F sc_m_is_row fun cdv A outer s H E hr => ?_
  have nd := sc_m_is_row.nd
  have tk := takes_of (X := cxOf (L2.CX P w) P w K mg base n_m_is_row "is_row" (defScope st_m_is_row) f cdv A outer s H E) rfl rfl rfl rfl
  exact (jf (kl (JQ bin_isC (jD (fun h => eb_type Z.nm.type h) (cv_type) (ja (jd 0 rfl (by first | exact Or.inl rfl | exact Or.inr (Or.inl rfl) | exact Or.inr (Or.inr rfl))) jc)) (se_ty (n := "tuple") (fun q => en_tuple Z.nm.tuple q))))
    jp)
abbrev st_m_is_integer : Stmt := top 5
abbrev n_m_is_integer : List Str := ["value"]
theorem sc_m_is_integer : FnScope n_m_is_integer ["value"] (defScope st_m_is_integer) := ⟨rfl, rfl, rfl, by decide +kernel, rfl, by decide +kernel, by decide +kernel⟩
theorem ok_m_is_integer {f : Addr} {fd : FuncData} (Z : Fy K mg ad cs) (F : Fun K "is_integer" "is_integer" st_m_is_integer f fd) :
    FnOk P w K mg base (L2.CX P w) 1 f fd ["value"] (spM K (m_is_integer ad)) := by
  show FnOk P w K mg base (L2.CX P w) (0 + 1) f fd ["value"] (spM K (vH (["value"] : List Str).length n_m_is_integer.length (b_m_is_integer ad)))
  refine vF F sc_m_is_integer fun cdv A outer s H E hr => ?_
  have nd := sc_m_is_integer.nd
  have tk := takes_of (X := cxOf (L2.CX P w) P w K mg base n_m_is_integer "is_integer" (defScope st_m_is_integer) f cdv A outer s H E) rfl rfl rfl rfl
  exact (jf (kl (JQ bin_isC (jD (fun h => eb_type Z.nm.type h) (cv_type) (ja (jd 0 rfl (by first | exact Or.inl rfl | exact Or.inr (Or.inl rfl) | exact Or.inr (Or.inr rfl))) jc)) (se_ty (n := "int") (fun q => en_int Z.nm.int q))))
    jp)
abbrev st_m_is_fraction : Stmt := top 11
abbrev n_m_is_fraction : List Str := ["value", "top", "bottom"]
theorem sc_m_is_fraction : FnScope n_m_is_fraction ["value"] (defScope st_m_is_fraction) := ⟨rfl, rfl, rfl, by decide +kernel, rfl, by decide +kernel, by decide +kernel⟩
theorem ok_m_is_fraction {f : Addr} {fd : FuncData} (Z : Fy K mg ad cs) (F : Fun K "is_fraction" "is_fraction" st_m_is_fraction f fd)
    (c_m_is_integer : Df P w K mg base "is_integer" 1 (spM K (m_is_integer ad)))
    (c_m_is_row : Df P w K mg base "is_row" 1 (spM K (Je ad))) :
    FnOk P w K mg base (L2.CX P w) 2 f fd ["value"] (spM K (vM ad)) := by
  show FnOk P w K mg base (L2.CX P w) (1 + 1) f fd ["value"] (spM K (vH (["value"] : List Str).length n_m_is_fraction.length (b_m_is_fraction ad)))
  refine vF F sc_m_is_fraction fun cdv A outer s H E hr => ?_
  have nd := sc_m_is_fraction.nd
  have tk := takes_of (X := cxOf (L2.CX P w) P w K mg base n_m_is_fraction "is_fraction" (defScope st_m_is_fraction) f cdv A outer s H E) rfl rfl rfl rfl
  exact (jf (JR (WD (KH (JB (Jl (jq c_m_is_row (hr.mono (by decide)) tk (ja (jd 0 rfl (by first | exact Or.inl rfl | exact Or.inr (Or.inl rfl) | exact Or.inr (Or.inr rfl))) jc)))) (Kz (Kk (bin_ne hr.units) (jD (fun h => Ke Z.nm.len h) (Kh) (ja (jd 0 rfl (by first | exact Or.inl rfl | exact Or.inr (Or.inl rfl) | exact Or.inr (Or.inr rfl))) jc)) je)))) (jf (kl JX)
    jp) jp)
    (jf (ss_asg false (jd 0 rfl (by first | exact Or.inl rfl | exact Or.inr (Or.inl rfl) | exact Or.inr (Or.inr rfl))) (Ks (wv (kh false nd (i := 1) rfl (by first | exact Or.inl rfl | exact Or.inr rfl) (by first | exact .inl rfl | exact .inr rfl)) (wv (kh false nd (i := 2) rfl (by first | exact Or.inl rfl | exact Or.inr rfl) (by first | exact .inl rfl | exact .inr rfl)) JU)) (ww (ww JV))))
    (jf (JR (WD (KH (JB (Jl (jq c_m_is_integer (hr.mono (by decide)) tk (ja (jd 1 rfl (by first | exact Or.inl rfl | exact Or.inr (Or.inl rfl) | exact Or.inr (Or.inr rfl))) jc)))) (Kz (JB (Jl (jq c_m_is_integer (hr.mono (by decide)) tk (ja (jd 2 rfl (by first | exact Or.inl rfl | exact Or.inr (Or.inl rfl) | exact Or.inr (Or.inr rfl))) jc))))))) (jf (kl JX)
    jp) jp)
    (jf (kl (JP (JQ bin_gt (jd 2 rfl (by first | exact Or.inl rfl | exact Or.inr (Or.inl rfl) | exact Or.inr (Or.inr rfl))) je) (Kb (JQ (Ka hr.units) (jD (fun h => e_gcd Z.gcd h) cv_gcd (ja (jd 1 rfl (by first | exact Or.inl rfl | exact Or.inr (Or.inl rfl) | exact Or.inr (Or.inr rfl))) (ja (jd 2 rfl (by first | exact Or.inl rfl | exact Or.inr (Or.inl rfl) | exact Or.inr (Or.inr rfl))) jc))) je))))
    jp))))
abbrev st_m_is_string : Stmt := top 6
abbrev n_m_is_string : List Str := ["value"]
theorem sc_m_is_string : FnScope n_m_is_string ["value"] (defScope st_m_is_string) := ⟨rfl, rfl, rfl, by decide +kernel, rfl, by decide +kernel, by decide +kernel⟩
theorem ok_m_is_string {f : Addr} {fd : FuncData} (Z : Fy K mg ad cs) (F : Fun K "is_string" "is_string" st_m_is_string f fd) :
    FnOk P w K mg base (L2.CX P w) 1 f fd ["value"] (spM K (m_is_string ad)) := by
  show FnOk P w K mg base (L2.CX P w) (0 + 1) f fd ["value"] (spM K (vH (["value"] : List Str).length n_m_is_string.length (b_m_is_string ad)))
  refine vF F sc_m_is_string fun cdv A outer s H E hr => ?_
  have nd := sc_m_is_string.nd
  have tk := takes_of (X := cxOf (L2.CX P w) P w K mg base n_m_is_string "is_string" (defScope st_m_is_string) f cdv A outer s H E) rfl rfl rfl rfl
  exact (jf (kl (JQ bin_isC (jD (fun h => eb_type Z.nm.type h) (cv_type) (ja (jd 0 rfl (by first | exact Or.inl rfl | exact Or.inr (Or.inl rfl) | exact Or.inr (Or.inr rfl))) jc)) (se_ty (n := "str") (fun q => en_str Z.nm.str q))))
    jp)
abbrev st_m_is_one_of : Stmt := top 9
abbrev n_m_is_one_of : List Str := ["value", "words"]
theorem sc_m_is_one_of : FnScope n_m_is_one_of ["value", "words"] (defScope st_m_is_one_of) := ⟨rfl, rfl, rfl, by decide +kernel, rfl, by decide +kernel, by decide +kernel⟩
theorem ok_m_is_one_of {f : Addr} {fd : FuncData} (Z : Fy K mg ad cs) (F : Fun K "is_one_of" "is_one_of" st_m_is_one_of f fd)
    (c_m_is_string : Df P w K mg base "is_string" 1 (spM K (m_is_string ad))) :
    FnOk P w K mg base (L2.CX P w) 2 f fd ["value", "words"] (spM K (m_is_one_of ad)) := by
  show FnOk P w K mg base (L2.CX P w) (1 + 1) f fd ["value", "words"] (spM K (vH (["value", "words"] : List Str).length n_m_is_one_of.length (b_m_is_one_of ad)))
  refine vF F sc_m_is_one_of fun cdv A outer s H E hr => ?_
  have nd := sc_m_is_one_of.nd
  have tk := takes_of (X := cxOf (L2.CX P w) P w K mg base n_m_is_one_of "is_one_of" (defScope st_m_is_one_of) f cdv A outer s H E) rfl rfl rfl rfl
  exact (jf (kl (JP (jq c_m_is_string (hr.mono (by decide)) tk (ja (jd 0 rfl (by first | exact Or.inl rfl | exact Or.inr (Or.inl rfl) | exact Or.inr (Or.inr rfl))) jc)) (Kb (JQ bin_in (jd 0 rfl (by first | exact Or.inl rfl | exact Or.inr (Or.inl rfl) | exact Or.inr (Or.inr rfl))) (jd 1 rfl (by first | exact Or.inl rfl | exact Or.inr (Or.inl rfl) | exact Or.inr (Or.inr rfl)))))))
    jp)
abbrev st_m_has_form_ck : Stmt := top 10
abbrev n_m_has_form_ck : List Str := ["value", "forms"]
theorem sc_m_has_form_ck : FnScope n_m_has_form_ck ["value", "forms"] (defScope st_m_has_form_ck) := ⟨rfl, rfl, rfl, by decide +kernel, rfl, by decide +kernel, by decide +kernel⟩
theorem ok_m_has_form_ck {f : Addr} {fd : FuncData} (Z : Fy K mg ad cs) (F : Fun K "has_form" "has_form" st_m_has_form_ck f fd)
    (c_m_is_row : Df P w K mg base "is_row" 1 (spM K (Je ad)))
    (c_m_is_string : Df P w K mg base "is_string" 1 (spM K (m_is_string ad))) :
    FnOk P w K mg base (L2.CX P w) 2 f fd ["value", "forms"] (spM K (m_has_form_ck ad)) := by
  show FnOk P w K mg base (L2.CX P w) (1 + 1) f fd ["value", "forms"] (spM K (vH (["value", "forms"] : List Str).length n_m_has_form_ck.length (b_m_has_form_ck ad)))
  refine vF F sc_m_has_form_ck fun cdv A outer s H E hr => ?_
  have nd := sc_m_has_form_ck.nd
  have tk := takes_of (X := cxOf (L2.CX P w) P w K mg base n_m_has_form_ck "has_form" (defScope st_m_has_form_ck) f cdv A outer s H E) rfl rfl rfl rfl
  exact (jf (JR (WD (KH (JB (Jl (jq c_m_is_row (hr.mono (by decide)) tk (ja (jd 0 rfl (by first | exact Or.inl rfl | exact Or.inr (Or.inl rfl) | exact Or.inr (Or.inr rfl))) jc)))) (KH (Kk (Ka hr.units) (jD (fun h => Ke Z.nm.len h) (Kh) (ja (jd 0 rfl (by first | exact Or.inl rfl | exact Or.inr (Or.inl rfl) | exact Or.inr (Or.inr rfl))) jc)) je) (Kz (JB (Jl (jq c_m_is_string (hr.mono (by decide)) tk (ja (wx (jd 0 rfl (by first | exact Or.inl rfl | exact Or.inr (Or.inl rfl) | exact Or.inr (Or.inr rfl))) je) jc)))))))) (jf (kl JX)
    jp) jp)
    (jf (kl (JQ (bin_inP hr.units) (jg (ja (wx (jd 0 rfl (by first | exact Or.inl rfl | exact Or.inr (Or.inl rfl) | exact Or.inr (Or.inr rfl))) je) (ja (jD (fun h => Ke Z.nm.len h) (Kh) (ja (jd 0 rfl (by first | exact Or.inl rfl | exact Or.inr (Or.inl rfl) | exact Or.inr (Or.inr rfl))) jc)) jc))) (jd 1 rfl (by first | exact Or.inl rfl | exact Or.inr (Or.inl rfl) | exact Or.inr (Or.inr rfl)))))
    jp))
abbrev wR : Stmt := top 15
abbrev n_m_is_ascending : List Str := ["values", "k"]
theorem sc_m_is_ascending : FnScope n_m_is_ascending ["values"] (defScope wR) := ⟨rfl, rfl, rfl, by decide +kernel, rfl, by decide +kernel, by decide +kernel⟩
theorem ok_m_is_ascending {f : Addr} {fd : FuncData} (Z : Fy K mg ad cs) (F : Fun K "is_ascending" "is_ascending" wR f fd) :
    FnOk P w K mg base (L2.CX P w) 1 f fd ["values"] (spM K (m_is_ascending ad)) := by
  show FnOk P w K mg base (L2.CX P w) (0 + 1) f fd ["values"] (spM K (vH (["values"] : List Str).length n_m_is_ascending.length (b_m_is_ascending ad)))
  refine vF F sc_m_is_ascending fun cdv A outer s H E hr => ?_
  have nd := sc_m_is_ascending.nd
  have tk := takes_of (X := cxOf (L2.CX P w) P w K mg base n_m_is_ascending "is_ascending" (defScope wR) f cdv A outer s H E) rfl rfl rfl rfl
  exact (jf (kl (jD (fun h => KC Z.nm.all h) (KF rfl) (ja (Kv (own := [("k", 1)]) (U := [1]) nd (blkOk_by (N := n_m_is_ascending) (sc := defScope wR) (by decide +kernel)) (si_range1 Z.nm.range (ja (jE bin_sub (jD (fun h => Ke Z.nm.len h) (Kh) (ja (jd 0 rfl (by first | exact Or.inl rfl | exact Or.inr (Or.inl rfl) | exact Or.inr (Or.inr rfl))) jc)) je) jc)) (fun s0 H0 C cl fp => (kh false nd (i := 1) rfl (by first | exact Or.inl rfl | exact Or.inr rfl) (by first | exact .inl rfl | exact .inr rfl))) (fun s0 H0 C cl fp => rfl) (fun s0 H0 C cl fp => (JQ bin_lt (wx (jd 0 rfl (by first | exact Or.inl rfl | exact Or.inr (Or.inl rfl) | exact Or.inr (Or.inr rfl))) (jd 1 rfl (by first | exact Or.inl rfl | exact Or.inr (Or.inl rfl) | exact Or.inr (Or.inr rfl)))) (wx (jd 0 rfl (by first | exact Or.inl rfl | exact Or.inr (Or.inl rfl) | exact Or.inr (Or.inr rfl))) (jE jA (jd 1 rfl (by first | exact Or.inl rfl | exact Or.inr (Or.inl rfl) | exact Or.inr (Or.inr rfl))) je))))) jc)))
    jp)
abbrev st_m_is_share : Stmt := top 12
abbrev n_m_is_share : List Str := ["value"]
theorem sc_m_is_share : FnScope n_m_is_share ["value"] (defScope st_m_is_share) := ⟨rfl, rfl, rfl, by decide +kernel, rfl, by decide +kernel, by decide +kernel⟩
theorem ok_m_is_share {f : Addr} {fd : FuncData} (Z : Fy K mg ad cs) (F : Fun K "is_share" "is_share" st_m_is_share f fd)
    (c_m_is_fraction : Df P w K mg base "is_fraction" 2 (spM K (vM ad))) :
    FnOk P w K mg base (L2.CX P w) 3 f fd ["value"] (spM K (m_is_share ad)) := by
  show FnOk P w K mg base (L2.CX P w) (2 + 1) f fd ["value"] (spM K (vH (["value"] : List Str).length n_m_is_share.length (b_m_is_share ad)))
  refine vF F sc_m_is_share fun cdv A outer s H E hr => ?_
  have nd := sc_m_is_share.nd
  have tk := takes_of (X := cxOf (L2.CX P w) P w K mg base n_m_is_share "is_share" (defScope st_m_is_share) f cdv A outer s H E) rfl rfl rfl rfl
  exact (jf (kl (JP (jq c_m_is_fraction (hr.mono (by decide)) tk (ja (jd 0 rfl (by first | exact Or.inl rfl | exact Or.inr (Or.inl rfl) | exact Or.inr (Or.inr rfl))) jc)) (Kb (se_chain KD KD je (wx (jd 0 rfl (by first | exact Or.inl rfl | exact Or.inr (Or.inl rfl) | exact Or.inr (Or.inr rfl))) je) (wx (jd 0 rfl (by first | exact Or.inl rfl | exact Or.inr (Or.inl rfl) | exact Or.inr (Or.inr rfl))) je)))))
    jp)
abbrev st_m_is_part : Stmt := top 13
abbrev n_m_is_part : List Str := ["value"]
theorem sc_m_is_part : FnScope n_m_is_part ["value"] (defScope st_m_is_part) := ⟨rfl, rfl, rfl, by decide +kernel, rfl, by decide +kernel, by decide +kernel⟩
theorem ok_m_is_part {f : Addr} {fd : FuncData} (Z : Fy K mg ad cs) (F : Fun K "is_part" "is_part" st_m_is_part f fd)
    {tk_MOST_BOTTOM : Tok} (g_MOST_BOTTOM : mg "MOST_BOTTOM" = some (.int (1000000000000) tk_MOST_BOTTOM))
    (c_m_is_share : Df P w K mg base "is_share" 3 (spM K (m_is_share ad))) :
    FnOk P w K mg base (L2.CX P w) 4 f fd ["value"] (spM K (Jc ad)) := by
  show FnOk P w K mg base (L2.CX P w) (3 + 1) f fd ["value"] (spM K (vH (["value"] : List Str).length n_m_is_part.length (b_m_is_part ad)))
  refine vF F sc_m_is_part fun cdv A outer s H E hr => ?_
  have nd := sc_m_is_part.nd
  have tk := takes_of (X := cxOf (L2.CX P w) P w K mg base n_m_is_part "is_part" (defScope st_m_is_part) f cdv A outer s H E) rfl rfl rfl rfl
  exact (jf (kl (JP (jq c_m_is_share (hr.mono (by decide)) tk (ja (jd 0 rfl (by first | exact Or.inl rfl | exact Or.inr (Or.inl rfl) | exact Or.inr (Or.inr rfl))) jc)) (Kb (JQ KD (wx (jd 0 rfl (by first | exact Or.inl rfl | exact Or.inr (Or.inl rfl) | exact Or.inr (Or.inr rfl))) je) (se_globI rfl g_MOST_BOTTOM)))))
    jp)
abbrev st_m_arrows_of : Stmt := top 23
abbrev n_m_arrows_of : List Str := ["what"]
theorem sc_m_arrows_of : FnScope n_m_arrows_of ["what"] (defScope st_m_arrows_of) := ⟨rfl, rfl, rfl, by decide +kernel, rfl, by decide +kernel, by decide +kernel⟩
theorem ok_m_arrows_of {f : Addr} {fd : FuncData} (Z : Fy K mg ad cs) (F : Fun K "arrows_of" "arrows_of" st_m_arrows_of f fd)
    (c_m_is_part : Df P w K mg base "is_part" 4 (spM K (Jc ad))) :
    FnOk P w K mg base (L2.CX P w) 5 f fd ["what"] (spM K (Jn ad)) := by
  show FnOk P w K mg base (L2.CX P w) (4 + 1) f fd ["what"] (spM K (vH (["what"] : List Str).length n_m_arrows_of.length (b_m_arrows_of ad)))
  refine vF F sc_m_arrows_of fun cdv A outer s H E hr => ?_
  have nd := sc_m_arrows_of.nd
  have tk := takes_of (X := cxOf (L2.CX P w) P w K mg base n_m_arrows_of "arrows_of" (defScope st_m_arrows_of) f cdv A outer s H E) rfl rfl rfl rfl
  exact (jf (kl (se_if (Jl (jq c_m_is_part (hr.mono (by decide)) tk (ja (jd 0 rfl (by first | exact Or.inl rfl | exact Or.inr (Or.inl rfl) | exact Or.inr (Or.inr rfl))) jc))) (jg jc) (jd 0 rfl (by first | exact Or.inl rfl | exact Or.inr (Or.inl rfl) | exact Or.inr (Or.inr rfl)))))
    jp)
abbrev wM : Stmt := top 24
abbrev n_m_first_stuck : List Str := ["rows", "led", "_", "place", "what", "pair", "to"]
theorem sc_m_first_stuck : FnScope n_m_first_stuck ["rows"] (defScope wM) := ⟨rfl, rfl, rfl, by decide +kernel, rfl, by decide +kernel, by decide +kernel⟩
theorem ok_m_first_stuck {f : Addr} {fd : FuncData} (Z : Fy K mg ad cs) (F : Fun K "first_stuck" "first_stuck" wM f fd)
    (c_m_arrows_of : Df P w K mg base "arrows_of" 5 (spM K (Jn ad)))
    (c_m_is_part : Df P w K mg base "is_part" 4 (spM K (Jc ad))) :
    FnOk P w K mg base (L2.CX P w) 6 f fd ["rows"] (spM K (m_first_stuck ad)) := by
  show FnOk P w K mg base (L2.CX P w) (5 + 1) f fd ["rows"] (spM K (vH (["rows"] : List Str).length n_m_first_stuck.length (b_m_first_stuck ad)))
  refine vF F sc_m_first_stuck fun cdv A outer s H E hr => ?_
  have nd := sc_m_first_stuck.nd
  have tk := takes_of (X := cxOf (L2.CX P w) P w K mg base n_m_first_stuck "first_stuck" (defScope wM) f cdv A outer s H E) rfl rfl rfl rfl
  exact (jf (wo true (i := 1) (se_dc (own := [("place", 3), ("what", 4)]) (U := [3, 4]) nd (blkOk_by (N := n_m_first_stuck) (sc := defScope wM) (by decide +kernel)) (Jm (jd 0 rfl (by first | exact Or.inl rfl | exact Or.inr (Or.inl rfl) | exact Or.inr (Or.inr rfl)))) (fun s0 H0 C cl fp => (Ks (wv (kh false nd (i := 3) rfl (by first | exact Or.inl rfl | exact Or.inr rfl) (by first | exact .inl rfl | exact .inr rfl)) (wv (kh false nd (i := 4) rfl (by first | exact Or.inl rfl | exact Or.inr rfl) (by first | exact .inl rfl | exact .inr rfl)) JU)) (ww (ww JV)))) (bt_one fun s0 H0 C cl fp => (Jl (jq c_m_is_part (hr.mono (by decide)) Kd (ja (jd 4 rfl (by first | exact Or.inl rfl | exact Or.inr (Or.inl rfl) | exact Or.inr (Or.inr rfl))) jc)))) (fun s0 H0 C cl fp => (jd 3 rfl (by first | exact Or.inl rfl | exact Or.inr (Or.inl rfl) | exact Or.inr (Or.inr rfl)))) (fun s0 H0 C cl fp => JX)) nd rfl (by first | exact Or.inl rfl | exact Or.inr rfl))
    (jf (KN (passes_of rfl) (Jm (jd 0 rfl (by first | exact Or.inl rfl | exact Or.inr (Or.inl rfl) | exact Or.inr (Or.inr rfl)))) (kh false nd (i := 2) rfl (by first | exact Or.inl rfl | exact Or.inr rfl) (by first | exact .inl rfl | exact .inr rfl)) (jf (KN (passes_of rfl) (Jm (jd 0 rfl (by first | exact Or.inl rfl | exact Or.inr (Or.inl rfl) | exact Or.inr (Or.inr rfl)))) (Ks (wv (kh false nd (i := 3) rfl (by first | exact Or.inl rfl | exact Or.inr rfl) (by first | exact .inl rfl | exact .inr rfl)) (wv (kh false nd (i := 4) rfl (by first | exact Or.inl rfl | exact Or.inr rfl) (by first | exact .inl rfl | exact .inr rfl)) JU)) (ww (ww JV))) (jf (JR (Jl (jD (fun h => eb_any Z.nm.any h) (cv_any rfl) (ja (Kv (own := [("to", 6)]) (U := [6]) nd (blkOk_by (N := n_m_first_stuck) (sc := defScope wM) (by decide +kernel)) (Jm (jq c_m_arrows_of (hr.mono (by decide)) tk (ja (jd 4 rfl (by first | exact Or.inl rfl | exact Or.inr (Or.inl rfl) | exact Or.inr (Or.inr rfl))) jc))) (fun s0 H0 C cl fp => (kh false nd (i := 6) rfl (by first | exact Or.inl rfl | exact Or.inr rfl) (by first | exact .inl rfl | exact .inr rfl))) (fun s0 H0 C cl fp => rfl) (fun s0 H0 C cl fp => (se_inD hr.units1 (jd 6 rfl (by first | exact Or.inl rfl | exact Or.inr (Or.inl rfl) | exact Or.inr (Or.inr rfl))) (jd 1 rfl (by first | exact Or.inl rfl | exact Or.inr (Or.inl rfl) | exact Or.inr (Or.inr rfl)))))) jc))) (jf (ss_asg false JX (sg_sub (k := 1) hr.units1 rfl (by first | exact Or.inl rfl | exact Or.inr (Or.inl rfl) | exact Or.inr (Or.inr rfl)) (jd 3 rfl (by first | exact Or.inl rfl | exact Or.inr (Or.inl rfl) | exact Or.inr (Or.inr rfl)))))
    jp) jp)
    jp))
    jp))
    (jf (KN (passes_of rfl) (Jm (jd 0 rfl (by first | exact Or.inl rfl | exact Or.inr (Or.inl rfl) | exact Or.inr (Or.inr rfl)))) (kh false nd (i := 5) rfl (by first | exact Or.inl rfl | exact Or.inr rfl) (by first | exact .inl rfl | exact .inr rfl)) (jf (JR (st_notinD hr.units1 (wx (jd 5 rfl (by first | exact Or.inl rfl | exact Or.inr (Or.inl rfl) | exact Or.inr (Or.inr rfl))) je) (jd 1 rfl (by first | exact Or.inl rfl | exact Or.inr (Or.inl rfl) | exact Or.inr (Or.inr rfl)))) (jf (kl (wx (jd 5 rfl (by first | exact Or.inl rfl | exact Or.inr (Or.inl rfl) | exact Or.inr (Or.inr rfl))) je))
    jp) jp)
    jp))
    (jf (kl se_non)
    jp))))
abbrev st_m_is_letter : Stmt := top 8
abbrev n_m_is_letter : List Str := ["value"]
theorem sc_m_is_letter : FnScope n_m_is_letter ["value"] (defScope st_m_is_letter) := ⟨rfl, rfl, rfl, by decide +kernel, rfl, by decide +kernel, by decide +kernel⟩
theorem ok_m_is_letter {f : Addr} {fd : FuncData} (Z : Fy K mg ad cs) (F : Fun K "is_letter" "is_letter" st_m_is_letter f fd)
    (c_m_is_string : Df P w K mg base "is_string" 1 (spM K (m_is_string ad))) :
    FnOk P w K mg base (L2.CX P w) 2 f fd ["value"] (spM K (m_is_letter ad)) := by
  show FnOk P w K mg base (L2.CX P w) (1 + 1) f fd ["value"] (spM K (vH (["value"] : List Str).length n_m_is_letter.length (b_m_is_letter ad)))
  refine vF F sc_m_is_letter fun cdv A outer s H E hr => ?_
  have nd := sc_m_is_letter.nd
  have tk := takes_of (X := cxOf (L2.CX P w) P w K mg base n_m_is_letter "is_letter" (defScope st_m_is_letter) f cdv A outer s H E) rfl rfl rfl rfl
  exact (jf (kl (JP (jq c_m_is_string (hr.mono (by decide)) tk (ja (jd 0 rfl (by first | exact Or.inl rfl | exact Or.inr (Or.inl rfl) | exact Or.inr (Or.inr rfl))) jc)) (JP (JQ (Ka hr.units) (jD (fun h => Ke Z.nm.len h) (Kh) (ja (jd 0 rfl (by first | exact Or.inl rfl | exact Or.inr (Or.inl rfl) | exact Or.inr (Or.inr rfl))) jc)) je) (Kb (se_chain KD KD (ji (l := [97]) (by decide +kernel)) (jd 0 rfl (by first | exact Or.inl rfl | exact Or.inr (Or.inl rfl) | exact Or.inr (Or.inr rfl))) (ji (l := [122]) (by decide +kernel)))))))
    jp)
abbrev vJ : Stmt := top 21
abbrev n_m_is_arrows : List Str := ["what", "to"]
theorem sc_m_is_arrows : FnScope n_m_is_arrows ["what"] (defScope vJ) := ⟨rfl, rfl, rfl, by decide +kernel, rfl, by decide +kernel, by decide +kernel⟩
theorem ok_m_is_arrows {f : Addr} {fd : FuncData} (Z : Fy K mg ad cs) (F : Fun K "is_arrows" "is_arrows" vJ f fd)
    (c_m_is_letter : Df P w K mg base "is_letter" 2 (spM K (m_is_letter ad)))
    (c_m_is_ascending : Df P w K mg base "is_ascending" 1 (spM K (m_is_ascending ad)))
    (c_m_is_row : Df P w K mg base "is_row" 1 (spM K (Je ad))) :
    FnOk P w K mg base (L2.CX P w) 3 f fd ["what"] (spM K (m_is_arrows ad)) := by
  show FnOk P w K mg base (L2.CX P w) (2 + 1) f fd ["what"] (spM K (vH (["what"] : List Str).length n_m_is_arrows.length (b_m_is_arrows ad)))
  refine vF F sc_m_is_arrows fun cdv A outer s H E hr => ?_
  have nd := sc_m_is_arrows.nd
  have tk := takes_of (X := cxOf (L2.CX P w) P w K mg base n_m_is_arrows "is_arrows" (defScope vJ) f cdv A outer s H E) rfl rfl rfl rfl
  exact (jf (JR (WD (KH (JB (Jl (jq c_m_is_row (hr.mono (by decide)) tk (ja (jd 0 rfl (by first | exact Or.inl rfl | exact Or.inr (Or.inl rfl) | exact Or.inr (Or.inr rfl))) jc)))) (Kz (Kk (Ka hr.units) (jD (fun h => Ke Z.nm.len h) (Kh) (ja (jd 0 rfl (by first | exact Or.inl rfl | exact Or.inr (Or.inl rfl) | exact Or.inr (Or.inr rfl))) jc)) je)))) (jf (kl JX)
    jp) jp)
    (jf (kl (JP (jD (fun h => KC Z.nm.all h) (KF rfl) (ja (Kv (own := [("to", 1)]) (U := [1]) nd (blkOk_by (N := n_m_is_arrows) (sc := defScope vJ) (by decide +kernel)) (Jm (jd 0 rfl (by first | exact Or.inl rfl | exact Or.inr (Or.inl rfl) | exact Or.inr (Or.inr rfl)))) (fun s0 H0 C cl fp => (kh false nd (i := 1) rfl (by first | exact Or.inl rfl | exact Or.inr rfl) (by first | exact .inl rfl | exact .inr rfl))) (fun s0 H0 C cl fp => rfl) (fun s0 H0 C cl fp => (jq c_m_is_letter (hr.mono (by decide)) Kd (ja (jd 1 rfl (by first | exact Or.inl rfl | exact Or.inr (Or.inl rfl) | exact Or.inr (Or.inr rfl))) jc)))) jc)) (Kb (jq c_m_is_ascending (hr.mono (by decide)) tk (ja (jd 0 rfl (by first | exact Or.inl rfl | exact Or.inr (Or.inl rfl) | exact Or.inr (Or.inr rfl))) jc)))))
    jp))
abbrev st_m_is_pair : Stmt := top 22
abbrev n_m_is_pair : List Str := ["pair"]
theorem sc_m_is_pair : FnScope n_m_is_pair ["pair"] (defScope st_m_is_pair) := ⟨rfl, rfl, rfl, by decide +kernel, rfl, by decide +kernel, by decide +kernel⟩
theorem ok_m_is_pair {f : Addr} {fd : FuncData} (Z : Fy K mg ad cs) (F : Fun K "is_pair" "is_pair" st_m_is_pair f fd)
    (c_m_is_part : Df P w K mg base "is_part" 4 (spM K (Jc ad)))
    (c_m_is_arrows : Df P w K mg base "is_arrows" 3 (spM K (m_is_arrows ad)))
    (c_m_is_row : Df P w K mg base "is_row" 1 (spM K (Je ad)))
    (c_m_is_letter : Df P w K mg base "is_letter" 2 (spM K (m_is_letter ad))) :
    FnOk P w K mg base (L2.CX P w) 5 f fd ["pair"] (spM K (m_is_pair ad)) := by
  show FnOk P w K mg base (L2.CX P w) (4 + 1) f fd ["pair"] (spM K (vH (["pair"] : List Str).length n_m_is_pair.length (b_m_is_pair ad)))
  refine vF F sc_m_is_pair fun cdv A outer s H E hr => ?_
  have nd := sc_m_is_pair.nd
  have tk := takes_of (X := cxOf (L2.CX P w) P w K mg base n_m_is_pair "is_pair" (defScope st_m_is_pair) f cdv A outer s H E) rfl rfl rfl rfl
  exact (jf (JR (WD (KH (JB (Jl (jq c_m_is_row (hr.mono (by decide)) tk (ja (jd 0 rfl (by first | exact Or.inl rfl | exact Or.inr (Or.inl rfl) | exact Or.inr (Or.inr rfl))) jc)))) (KH (Kk (bin_ne hr.units) (jD (fun h => Ke Z.nm.len h) (Kh) (ja (jd 0 rfl (by first | exact Or.inl rfl | exact Or.inr (Or.inl rfl) | exact Or.inr (Or.inr rfl))) jc)) je) (Kz (JB (Jl (jq c_m_is_letter (hr.mono (by decide)) tk (ja (wx (jd 0 rfl (by first | exact Or.inl rfl | exact Or.inr (Or.inl rfl) | exact Or.inr (Or.inr rfl))) je) jc)))))))) (jf (kl JX)
    jp) jp)
    (jf (kl (se_or (jq c_m_is_part (hr.mono (by decide)) tk (ja (wx (jd 0 rfl (by first | exact Or.inl rfl | exact Or.inr (Or.inl rfl) | exact Or.inr (Or.inr rfl))) je) jc)) (Kb (jq c_m_is_arrows (hr.mono (by decide)) tk (ja (wx (jd 0 rfl (by first | exact Or.inl rfl | exact Or.inr (Or.inl rfl) | exact Or.inr (Or.inr rfl))) je) jc)))))
    jp))
abbrev wZ : Stmt := top 25
abbrev n_m_are_rows : List Str := ["rows", "places", "leads", "pair", "to"]
theorem sc_m_are_rows : FnScope n_m_are_rows ["rows"] (defScope wZ) := ⟨rfl, rfl, rfl, by decide +kernel, rfl, by decide +kernel, by decide +kernel⟩
theorem ok_m_are_rows {f : Addr} {fd : FuncData} (Z : Fy K mg ad cs) (F : Fun K "are_rows" "are_rows" wZ f fd)
    {tk_MOST_PLACES : Tok} (g_MOST_PLACES : mg "MOST_PLACES" = some (.int (10) tk_MOST_PLACES))
    (c_m_first_stuck : Df P w K mg base "first_stuck" 6 (spM K (m_first_stuck ad)))
    (c_m_arrows_of : Df P w K mg base "arrows_of" 5 (spM K (Jn ad)))
    (c_m_is_ascending : Df P w K mg base "is_ascending" 1 (spM K (m_is_ascending ad)))
    (c_m_is_pair : Df P w K mg base "is_pair" 5 (spM K (m_is_pair ad)))
    (c_m_is_row : Df P w K mg base "is_row" 1 (spM K (Je ad))) :
    FnOk P w K mg base (L2.CX P w) 7 f fd ["rows"] (spM K (m_are_rows ad)) := by
  show FnOk P w K mg base (L2.CX P w) (6 + 1) f fd ["rows"] (spM K (vH (["rows"] : List Str).length n_m_are_rows.length (b_m_are_rows ad)))
  refine vF F sc_m_are_rows fun cdv A outer s H E hr => ?_
  have nd := sc_m_are_rows.nd
  have tk := takes_of (X := cxOf (L2.CX P w) P w K mg base n_m_are_rows "are_rows" (defScope wZ) f cdv A outer s H E) rfl rfl rfl rfl
  exact (jf (JR (WD (KH (JB (Jl (jq c_m_is_row (hr.mono (by decide)) tk (ja (jd 0 rfl (by first | exact Or.inl rfl | exact Or.inr (Or.inl rfl) | exact Or.inr (Or.inr rfl))) jc)))) (Kz (JB (st_chain KD KD je (jD (fun h => Ke Z.nm.len h) (Kh) (ja (jd 0 rfl (by first | exact Or.inl rfl | exact Or.inr (Or.inl rfl) | exact Or.inr (Or.inr rfl))) jc)) (se_globI rfl g_MOST_PLACES)))))) (jf (kl JX)
    jp) jp)
    (jf (JR (JB (Jl (jD (fun h => KC Z.nm.all h) (KF rfl) (ja (Kv (own := [("pair", 3)]) (U := [3]) nd (blkOk_by (N := n_m_are_rows) (sc := defScope wZ) (by decide +kernel)) (Jm (jd 0 rfl (by first | exact Or.inl rfl | exact Or.inr (Or.inl rfl) | exact Or.inr (Or.inr rfl)))) (fun s0 H0 C cl fp => (kh false nd (i := 3) rfl (by first | exact Or.inl rfl | exact Or.inr rfl) (by first | exact .inl rfl | exact .inr rfl))) (fun s0 H0 C cl fp => rfl) (fun s0 H0 C cl fp => (jq c_m_is_pair (hr.mono (by decide)) Kd (ja (jd 3 rfl (by first | exact Or.inl rfl | exact Or.inr (Or.inl rfl) | exact Or.inr (Or.inr rfl))) jc)))) jc)))) (jf (kl JX)
    jp) jp)
    (jf (wo false (i := 1) (Kv (own := [("pair", 3)]) (U := [3]) nd (blkOk_by (N := n_m_are_rows) (sc := defScope wZ) (by decide +kernel)) (Jm (jd 0 rfl (by first | exact Or.inl rfl | exact Or.inr (Or.inl rfl) | exact Or.inr (Or.inr rfl)))) (fun s0 H0 C cl fp => (kh false nd (i := 3) rfl (by first | exact Or.inl rfl | exact Or.inr rfl) (by first | exact .inl rfl | exact .inr rfl))) (fun s0 H0 C cl fp => rfl) (fun s0 H0 C cl fp => (wx (jd 3 rfl (by first | exact Or.inl rfl | exact Or.inr (Or.inl rfl) | exact Or.inr (Or.inr rfl))) je))) nd rfl (by first | exact Or.inl rfl | exact Or.inr rfl))
    (jf (JR (JB (Jl (jq c_m_is_ascending (hr.mono (by decide)) tk (ja (jd 1 rfl (by first | exact Or.inl rfl | exact Or.inr (Or.inl rfl) | exact Or.inr (Or.inr rfl))) jc)))) (jf (kl JX)
    jp) jp)
    (jf (ss_setLc2 false (i := 2) (own := [("pair", 3), ("to", 4)]) (U := [3]) (U1 := [4]) nd rfl rfl rfl (blkOk_by (N := n_m_are_rows) (sc := defScope wZ) (by decide +kernel)) (Jm (jd 0 rfl (by first | exact Or.inl rfl | exact Or.inr (Or.inl rfl) | exact Or.inr (Or.inr rfl)))) (fun s0 H0 C cl fp => (kh false nd (i := 3) rfl (by first | exact Or.inl rfl | exact Or.inr rfl) (by first | exact .inl rfl | exact .inr rfl))) (fun s0 H0 C cl fp => (Jm (jq c_m_arrows_of (hr.mono (by decide)) Kd (ja (wx (jd 3 rfl (by first | exact Or.inl rfl | exact Or.inr (Or.inl rfl) | exact Or.inr (Or.inr rfl))) je) jc)))) (fun s0 H0 C cl fp => (kh false nd (i := 4) rfl (by first | exact Or.inl rfl | exact Or.inr rfl) (by first | exact .inl rfl | exact .inr rfl))) (fun s0 H0 C cl fp => (jd 4 rfl (by first | exact Or.inl rfl | exact Or.inr (Or.inl rfl) | exact Or.inr (Or.inr rfl)))))
    (jf (kl (JP (jD (fun h => KC Z.nm.all h) (KF rfl) (ja (Kv (own := [("to", 4)]) (U := [4]) nd (blkOk_by (N := n_m_are_rows) (sc := defScope wZ) (by decide +kernel)) (Jm (jd 2 rfl (by first | exact Or.inl rfl | exact Or.inr (Or.inl rfl) | exact Or.inr (Or.inr rfl)))) (fun s0 H0 C cl fp => (kh false nd (i := 4) rfl (by first | exact Or.inl rfl | exact Or.inr rfl) (by first | exact .inl rfl | exact .inr rfl))) (fun s0 H0 C cl fp => rfl) (fun s0 H0 C cl fp => (JQ bin_in (jd 4 rfl (by first | exact Or.inl rfl | exact Or.inr (Or.inl rfl) | exact Or.inr (Or.inr rfl))) (jd 1 rfl (by first | exact Or.inl rfl | exact Or.inr (Or.inl rfl) | exact Or.inr (Or.inr rfl)))))) jc)) (Kb (JQ bin_is (jq c_m_first_stuck (hr.mono (by decide)) tk (ja (jd 0 rfl (by first | exact Or.inl rfl | exact Or.inr (Or.inl rfl) | exact Or.inr (Or.inr rfl))) jc)) se_non))))
    jp))))))
abbrev st_m_is_moves : Stmt := top 14
abbrev n_m_is_moves : List Str := ["value"]
theorem sc_m_is_moves : FnScope n_m_is_moves ["value"] (defScope st_m_is_moves) := ⟨rfl, rfl, rfl, by decide +kernel, rfl, by decide +kernel, by decide +kernel⟩
theorem ok_m_is_moves {f : Addr} {fd : FuncData} (Z : Fy K mg ad cs) (F : Fun K "is_moves" "is_moves" st_m_is_moves f fd)
    {tk_MOST_MOVES : Tok} (g_MOST_MOVES : mg "MOST_MOVES" = some (.int (60) tk_MOST_MOVES))
    (c_m_is_integer : Df P w K mg base "is_integer" 1 (spM K (m_is_integer ad))) :
    FnOk P w K mg base (L2.CX P w) 2 f fd ["value"] (spM K (m_is_moves ad)) := by
  show FnOk P w K mg base (L2.CX P w) (1 + 1) f fd ["value"] (spM K (vH (["value"] : List Str).length n_m_is_moves.length (b_m_is_moves ad)))
  refine vF F sc_m_is_moves fun cdv A outer s H E hr => ?_
  have nd := sc_m_is_moves.nd
  have tk := takes_of (X := cxOf (L2.CX P w) P w K mg base n_m_is_moves "is_moves" (defScope st_m_is_moves) f cdv A outer s H E) rfl rfl rfl rfl
  exact (jf (kl (JP (jq c_m_is_integer (hr.mono (by decide)) tk (ja (jd 0 rfl (by first | exact Or.inl rfl | exact Or.inr (Or.inl rfl) | exact Or.inr (Or.inr rfl))) jc)) (Kb (se_chain KD KD je (jd 0 rfl (by first | exact Or.inl rfl | exact Or.inr (Or.inl rfl) | exact Or.inr (Or.inr rfl))) (se_globI rfl g_MOST_MOVES)))))
    jp)
abbrev kn : Stmt := top 28
abbrev n_m_is_checker_claim_ck : List Str := ["claim", "places", "pair"]
theorem sc_m_is_checker_claim_ck : FnScope n_m_is_checker_claim_ck ["claim"] (defScope kn) := ⟨rfl, rfl, rfl, by decide +kernel, rfl, by decide +kernel, by decide +kernel⟩
theorem ok_m_is_checker_claim_ck {f : Addr} {fd : FuncData} (Z : Fy K mg ad cs) (F : Fun K "is_checker_claim" "is_checker_claim" kn f fd)
    (g__FORMS : GT K mg "_FORMS" [.tpu [.str [110, 101, 101, 100, 115], .int 4], .tpu [.str [97, 98, 111, 118, 101], .int 4], .tpu [.str [98, 101, 108, 111, 119], .int 4], .tpu [.str [119, 105, 116, 104, 105, 110], .int 5], .tpu [.str [115, 97, 102, 101], .int 6]])
    (c_m_is_fraction : Df P w K mg base "is_fraction" 2 (spM K (vM ad)))
    (c_m_is_share : Df P w K mg base "is_share" 3 (spM K (m_is_share ad)))
    (c_m_is_one_of : Df P w K mg base "is_one_of" 2 (spM K (m_is_one_of ad)))
    (c_m_is_moves : Df P w K mg base "is_moves" 2 (spM K (m_is_moves ad)))
    (c_m_has_form_ck : Df P w K mg base "has_form" 2 (spM K (m_has_form_ck ad)))
    (c_m_are_rows : Df P w K mg base "are_rows" 7 (spM K (m_are_rows ad))) :
    FnOk P w K mg base (L2.CX P w) 8 f fd ["claim"] (spM K (kj ad)) := by
  show FnOk P w K mg base (L2.CX P w) (7 + 1) f fd ["claim"] (spM K (vH (["claim"] : List Str).length n_m_is_checker_claim_ck.length (b_m_is_checker_claim_ck ad)))
  refine vF F sc_m_is_checker_claim_ck fun cdv A outer s H E hr => ?_
  have nd := sc_m_is_checker_claim_ck.nd
  have tk := takes_of (X := cxOf (L2.CX P w) P w K mg base n_m_is_checker_claim_ck "is_checker_claim" (defScope kn) f cdv A outer s H E) rfl rfl rfl rfl
  exact (jf (JR (WD (KH (JB (Jl (jq c_m_has_form_ck (hr.mono (by decide)) tk (ja (jd 0 rfl (by first | exact Or.inl rfl | exact Or.inr (Or.inl rfl) | exact Or.inr (Or.inr rfl))) (ja (se_globT rfl g__FORMS) jc))))) (Kz (JB (Jl (jq c_m_are_rows (hr.mono (by decide)) tk (ja (wx (jd 0 rfl (by first | exact Or.inl rfl | exact Or.inr (Or.inl rfl) | exact Or.inr (Or.inr rfl))) je) jc))))))) (jf (kl JX)
    jp) jp)
    (jf (ss_setLc false (i := 1) (own := [("pair", 2)]) (U := [2]) nd rfl rfl rfl (blkOk_by (N := n_m_is_checker_claim_ck) (sc := defScope kn) (by decide +kernel)) (Jm (wx (jd 0 rfl (by first | exact Or.inl rfl | exact Or.inr (Or.inl rfl) | exact Or.inr (Or.inr rfl))) je)) (fun s0 H0 C cl fp => (kh false nd (i := 2) rfl (by first | exact Or.inl rfl | exact Or.inr rfl) (by first | exact .inl rfl | exact .inr rfl))) (fun s0 H0 C cl fp => rfl) (fun s0 H0 C cl fp => (wx (jd 2 rfl (by first | exact Or.inl rfl | exact Or.inr (Or.inl rfl) | exact Or.inr (Or.inr rfl))) je)))
    (jf (JR (JB (Jl (jq c_m_is_one_of (hr.mono (by decide)) tk (ja (wx (jd 0 rfl (by first | exact Or.inl rfl | exact Or.inr (Or.inl rfl) | exact Or.inr (Or.inr rfl))) je) (ja (jd 1 rfl (by first | exact Or.inl rfl | exact Or.inr (Or.inl rfl) | exact Or.inr (Or.inr rfl))) jc))))) (jf (kl JX)
    jp) jp)
    (jf (JR (Kk (Ka hr.units) (wx (jd 0 rfl (by first | exact Or.inl rfl | exact Or.inr (Or.inl rfl) | exact Or.inr (Or.inr rfl))) je) (ji (l := [119, 105, 116, 104, 105, 110]) (by decide +kernel))) (jf (kl (JP (jq c_m_is_moves (hr.mono (by decide)) tk (ja (wx (jd 0 rfl (by first | exact Or.inl rfl | exact Or.inr (Or.inl rfl) | exact Or.inr (Or.inr rfl))) je) jc)) (Kb (jq c_m_is_fraction (hr.mono (by decide)) tk (ja (wx (jd 0 rfl (by first | exact Or.inl rfl | exact Or.inr (Or.inl rfl) | exact Or.inr (Or.inr rfl))) je) jc)))))
    jp) jp)
    (jf (JR (Kk (Ka hr.units) (wx (jd 0 rfl (by first | exact Or.inl rfl | exact Or.inr (Or.inl rfl) | exact Or.inr (Or.inr rfl))) je) (ji (l := [115, 97, 102, 101]) (by decide +kernel))) (jf (kl (JP (jq c_m_is_share (hr.mono (by decide)) tk (ja (wx (jd 0 rfl (by first | exact Or.inl rfl | exact Or.inr (Or.inl rfl) | exact Or.inr (Or.inr rfl))) je) jc)) (JP (jq c_m_is_share (hr.mono (by decide)) tk (ja (wx (jd 0 rfl (by first | exact Or.inl rfl | exact Or.inr (Or.inl rfl) | exact Or.inr (Or.inr rfl))) je) jc)) (Kb (jq c_m_is_one_of (hr.mono (by decide)) tk (ja (wx (jd 0 rfl (by first | exact Or.inl rfl | exact Or.inr (Or.inl rfl) | exact Or.inr (Or.inr rfl))) je) (ja (jd 1 rfl (by first | exact Or.inl rfl | exact Or.inr (Or.inl rfl) | exact Or.inr (Or.inr rfl))) jc)))))))
    jp) jp)
    (jf (kl (jq c_m_is_fraction (hr.mono (by decide)) tk (ja (wx (jd 0 rfl (by first | exact Or.inl rfl | exact Or.inr (Or.inl rfl) | exact Or.inr (Or.inr rfl))) je) jc)))
    jp))))))
abbrev vN : Stmt := top 29
abbrev n_m_is_table : List Str := ["rows", "table", "told"]
theorem sc_m_is_table : FnScope n_m_is_table ["rows", "table"] (defScope vN) := ⟨rfl, rfl, rfl, by decide +kernel, rfl, by decide +kernel, by decide +kernel⟩
theorem ok_m_is_table {f : Addr} {fd : FuncData} (Z : Fy K mg ad cs) (F : Fun K "is_table" "is_table" vN f fd)
    (c_m_is_row : Df P w K mg base "is_row" 1 (spM K (Je ad)))
    (c_m_is_fraction : Df P w K mg base "is_fraction" 2 (spM K (vM ad))) :
    FnOk P w K mg base (L2.CX P w) 3 f fd ["rows", "table"] (spM K (m_is_table ad)) := by
  show FnOk P w K mg base (L2.CX P w) (2 + 1) f fd ["rows", "table"] (spM K (vH (["rows", "table"] : List Str).length n_m_is_table.length (b_m_is_table ad)))
  refine vF F sc_m_is_table fun cdv A outer s H E hr => ?_
  have nd := sc_m_is_table.nd
  have tk := takes_of (X := cxOf (L2.CX P w) P w K mg base n_m_is_table "is_table" (defScope vN) f cdv A outer s H E) rfl rfl rfl rfl
  exact (jf (kl (JP (jq c_m_is_row (hr.mono (by decide)) tk (ja (jd 1 rfl (by first | exact Or.inl rfl | exact Or.inr (Or.inl rfl) | exact Or.inr (Or.inr rfl))) jc)) (JP (JQ (Ka hr.units) (jD (fun h => Ke Z.nm.len h) (Kh) (ja (jd 1 rfl (by first | exact Or.inl rfl | exact Or.inr (Or.inl rfl) | exact Or.inr (Or.inr rfl))) jc)) (jD (fun h => Ke Z.nm.len h) (Kh) (ja (jd 0 rfl (by first | exact Or.inl rfl | exact Or.inr (Or.inl rfl) | exact Or.inr (Or.inr rfl))) jc))) (Kb (jD (fun h => KC Z.nm.all h) (KF rfl) (ja (Kv (own := [("told", 2)]) (U := [2]) nd (blkOk_by (N := n_m_is_table) (sc := defScope vN) (by decide +kernel)) (Jm (jd 1 rfl (by first | exact Or.inl rfl | exact Or.inr (Or.inl rfl) | exact Or.inr (Or.inr rfl)))) (fun s0 H0 C cl fp => (kh false nd (i := 2) rfl (by first | exact Or.inl rfl | exact Or.inr rfl) (by first | exact .inl rfl | exact .inr rfl))) (fun s0 H0 C cl fp => rfl) (fun s0 H0 C cl fp => (jq c_m_is_fraction (hr.mono (by decide)) Kd (ja (jd 2 rfl (by first | exact Or.inl rfl | exact Or.inr (Or.inl rfl) | exact Or.inr (Or.inr rfl))) jc)))) jc))))))
    jp)
abbrev wC : Stmt := top 30
abbrev n_m_numbers_of_ck : List Str := ["rows", "table", "pair", "told"]
theorem sc_m_numbers_of_ck : FnScope n_m_numbers_of_ck ["rows", "table"] (defScope wC) := ⟨rfl, rfl, rfl, by decide +kernel, rfl, by decide +kernel, by decide +kernel⟩
theorem ok_m_numbers_of_ck {f : Addr} {fd : FuncData} (Z : Fy K mg ad cs) (F : Fun K "numbers_of" "numbers_of" wC f fd) :
    FnOk P w K mg base (L2.CX P w) 1 f fd ["rows", "table"] (spM K (m_numbers_of_ck ad)) := by
  show FnOk P w K mg base (L2.CX P w) (0 + 1) f fd ["rows", "table"] (spM K (vH (["rows", "table"] : List Str).length n_m_numbers_of_ck.length (b_m_numbers_of_ck ad)))
  refine vF F sc_m_numbers_of_ck fun cdv A outer s H E hr => ?_
  have nd := sc_m_numbers_of_ck.nd
  have tk := takes_of (X := cxOf (L2.CX P w) P w K mg base n_m_numbers_of_ck "numbers_of" (defScope wC) f cdv A outer s H E) rfl rfl rfl rfl
  exact (jf (kl (se_dc (own := [("pair", 2), ("told", 3)]) (U := [2, 3]) nd (blkOk_by (N := n_m_numbers_of_ck) (sc := defScope wC) (by decide +kernel)) (si_zipA Z.nm.zip (ja (jd 0 rfl (by first | exact Or.inl rfl | exact Or.inr (Or.inl rfl) | exact Or.inr (Or.inr rfl))) (ja (jd 1 rfl (by first | exact Or.inl rfl | exact Or.inr (Or.inl rfl) | exact Or.inr (Or.inr rfl))) jc))) (fun s0 H0 C cl fp => (Ks (wv (kh false nd (i := 2) rfl (by first | exact Or.inl rfl | exact Or.inr rfl) (by first | exact .inl rfl | exact .inr rfl)) (wv (kh false nd (i := 3) rfl (by first | exact Or.inl rfl | exact Or.inr rfl) (by first | exact .inl rfl | exact .inr rfl)) JU)) (ww (ww JV)))) (fun s0 H0 C cl fp => rfl) (fun s0 H0 C cl fp => (wx (jd 2 rfl (by first | exact Or.inl rfl | exact Or.inr (Or.inl rfl) | exact Or.inr (Or.inr rfl))) je)) (fun s0 H0 C cl fp => (jd 3 rfl (by first | exact Or.inl rfl | exact Or.inr (Or.inl rfl) | exact Or.inr (Or.inr rfl))))))
    jp)
abbrev st_m_lowest : Stmt := top 16
abbrev n_m_lowest : List Str := ["top", "bottom", "shared"]
theorem sc_m_lowest : FnScope n_m_lowest ["top", "bottom"] (defScope st_m_lowest) := ⟨rfl, rfl, rfl, by decide +kernel, rfl, by decide +kernel, by decide +kernel⟩
theorem ok_m_lowest {f : Addr} {fd : FuncData} (Z : Fy K mg ad cs) (F : Fun K "lowest" "lowest" st_m_lowest f fd) :
    FnOk P w K mg base (L2.CX P w) 1 f fd ["top", "bottom"] (spM K (JZ ad)) := by
  show FnOk P w K mg base (L2.CX P w) (0 + 1) f fd ["top", "bottom"] (spM K (vH (["top", "bottom"] : List Str).length n_m_lowest.length (b_m_lowest ad)))
  refine vF F sc_m_lowest fun cdv A outer s H E hr => ?_
  have nd := sc_m_lowest.nd
  have tk := takes_of (X := cxOf (L2.CX P w) P w K mg base n_m_lowest "lowest" (defScope st_m_lowest) f cdv A outer s H E) rfl rfl rfl rfl
  exact (jf (wo false (i := 2) (jD (fun h => e_gcd Z.gcd h) cv_gcd (ja (jd 0 rfl (by first | exact Or.inl rfl | exact Or.inr (Or.inl rfl) | exact Or.inr (Or.inr rfl))) (ja (jd 1 rfl (by first | exact Or.inl rfl | exact Or.inr (Or.inl rfl) | exact Or.inr (Or.inr rfl))) jc))) nd rfl (by first | exact Or.inl rfl | exact Or.inr rfl))
    (jf (kl (jg (ja (jE bin_div (jd 0 rfl (by first | exact Or.inl rfl | exact Or.inr (Or.inl rfl) | exact Or.inr (Or.inr rfl))) (jd 2 rfl (by first | exact Or.inl rfl | exact Or.inr (Or.inl rfl) | exact Or.inr (Or.inr rfl)))) (ja (jE bin_div (jd 1 rfl (by first | exact Or.inl rfl | exact Or.inr (Or.inl rfl) | exact Or.inr (Or.inr rfl))) (jd 2 rfl (by first | exact Or.inl rfl | exact Or.inr (Or.inl rfl) | exact Or.inr (Or.inr rfl)))) jc))))
    jp))
abbrev Jp : Stmt := top 31
abbrev n_m_middle : List Str := ["fractions", "bottom", "each", "tops", "n", "d"]
theorem sc_m_middle : FnScope n_m_middle ["fractions"] (defScope Jp) := ⟨rfl, rfl, rfl, by decide +kernel, rfl, by decide +kernel, by decide +kernel⟩
theorem ok_m_middle {f : Addr} {fd : FuncData} (Z : Fy K mg ad cs) (F : Fun K "middle" "middle" Jp f fd)
    (b_lcm : mg "lcm" = some (.builtin "math.lcm"))
    (c_m_lowest : Df P w K mg base "lowest" 1 (spM K (JZ ad))) :
    FnOk P w K mg base (L2.CX P w) 2 f fd ["fractions"] (spM K (m_middle ad)) := by
  show FnOk P w K mg base (L2.CX P w) (1 + 1) f fd ["fractions"] (spM K (vH (["fractions"] : List Str).length n_m_middle.length (b_m_middle ad)))
  refine vF F sc_m_middle fun cdv A outer s H E hr => ?_
  have nd := sc_m_middle.nd
  have tk := takes_of (X := cxOf (L2.CX P w) P w K mg base n_m_middle "middle" (defScope Jp) f cdv A outer s H E) rfl rfl rfl rfl
  exact (jf (wo false (i := 1) je nd rfl (by first | exact Or.inl rfl | exact Or.inr rfl))
    (jf (KN (passes_of rfl) (Jm (jd 0 rfl (by first | exact Or.inl rfl | exact Or.inr (Or.inl rfl) | exact Or.inr (Or.inr rfl)))) (kh false nd (i := 2) rfl (by first | exact Or.inl rfl | exact Or.inr rfl) (by first | exact .inl rfl | exact .inr rfl)) (jf (wo false (i := 1) (jD (fun h => e_lcm b_lcm h) cv_lcm (ja (jd 1 rfl (by first | exact Or.inl rfl | exact Or.inr (Or.inl rfl) | exact Or.inr (Or.inr rfl))) (ja (wx (jd 2 rfl (by first | exact Or.inl rfl | exact Or.inr (Or.inl rfl) | exact Or.inr (Or.inr rfl))) je) jc))) nd rfl (by first | exact Or.inl rfl | exact Or.inr rfl))
    jp))
    (jf (ss_setLc false (i := 3) (own := [("n", 4), ("d", 5)]) (U := [4, 5]) nd rfl rfl rfl (blkOk_by (N := n_m_middle) (sc := defScope Jp) (by decide +kernel)) (Jm (jd 0 rfl (by first | exact Or.inl rfl | exact Or.inr (Or.inl rfl) | exact Or.inr (Or.inr rfl)))) (fun s0 H0 C cl fp => (Ks (wv (kh false nd (i := 4) rfl (by first | exact Or.inl rfl | exact Or.inr rfl) (by first | exact .inl rfl | exact .inr rfl)) (wv (kh false nd (i := 5) rfl (by first | exact Or.inl rfl | exact Or.inr rfl) (by first | exact .inl rfl | exact .inr rfl)) JU)) (ww (ww JV)))) (fun s0 H0 C cl fp => rfl) (fun s0 H0 C cl fp => (jE Jj (jd 4 rfl (by first | exact Or.inl rfl | exact Or.inr (Or.inl rfl) | exact Or.inr (Or.inr rfl))) (jE bin_div (jd 1 rfl (by first | exact Or.inl rfl | exact Or.inr (Or.inl rfl) | exact Or.inr (Or.inr rfl))) (jd 5 rfl (by first | exact Or.inl rfl | exact Or.inr (Or.inl rfl) | exact Or.inr (Or.inr rfl)))))))
    (jf (kl (jq c_m_lowest (hr.mono (by decide)) tk (ja (jE jA (jD (fun h => eb_min Z.nm.min h) (cv_min rfl) (ja (jd 3 rfl (by first | exact Or.inl rfl | exact Or.inr (Or.inl rfl) | exact Or.inr (Or.inr rfl))) jc)) (jD (fun h => eb_max Z.nm.max h) (cv_max rfl) (ja (jd 3 rfl (by first | exact Or.inl rfl | exact Or.inr (Or.inl rfl) | exact Or.inr (Or.inr rfl))) jc))) (ja (jE Jj je (jd 1 rfl (by first | exact Or.inl rfl | exact Or.inr (Or.inl rfl) | exact Or.inr (Or.inr rfl)))) jc))))
    jp))))
abbrev vC : Stmt := top 32
abbrev n_m_follows_ck : List Str := ["rows", "table", "behind", "numbers", "_", "what", "told", "to"]
theorem sc_m_follows_ck : FnScope n_m_follows_ck ["rows", "table", "behind"] (defScope vC) := ⟨rfl, rfl, rfl, by decide +kernel, rfl, by decide +kernel, by decide +kernel⟩
theorem ok_m_follows_ck {f : Addr} {fd : FuncData} (Z : Fy K mg ad cs) (F : Fun K "follows" "follows" vC f fd)
    (c_m_is_part : Df P w K mg base "is_part" 4 (spM K (Jc ad)))
    (c_m_middle : Df P w K mg base "middle" 2 (spM K (m_middle ad)))
    (c_m_numbers_of_ck : Df P w K mg base "numbers_of" 1 (spM K (m_numbers_of_ck ad))) :
    FnOk P w K mg base (L2.CX P w) 5 f fd ["rows", "table", "behind"] (spM K (m_follows_ck ad)) := by
  show FnOk P w K mg base (L2.CX P w) (4 + 1) f fd ["rows", "table", "behind"] (spM K (vH (["rows", "table", "behind"] : List Str).length n_m_follows_ck.length (b_m_follows_ck ad)))
  refine vF F sc_m_follows_ck fun cdv A outer s H E hr => ?_
  have nd := sc_m_follows_ck.nd
  have tk := takes_of (X := cxOf (L2.CX P w) P w K mg base n_m_follows_ck "follows" (defScope vC) f cdv A outer s H E) rfl rfl rfl rfl
  exact (jf (wo false (i := 3) (jq c_m_numbers_of_ck (hr.mono (by decide)) tk (ja (jd 0 rfl (by first | exact Or.inl rfl | exact Or.inr (Or.inl rfl) | exact Or.inr (Or.inr rfl))) (ja (jd 1 rfl (by first | exact Or.inl rfl | exact Or.inr (Or.inl rfl) | exact Or.inr (Or.inr rfl))) jc))) nd rfl (by first | exact Or.inl rfl | exact Or.inr rfl))
    (jf (KN (passes_of rfl) (si_zipA Z.nm.zip (ja (jd 0 rfl (by first | exact Or.inl rfl | exact Or.inr (Or.inl rfl) | exact Or.inr (Or.inr rfl))) (ja (jd 2 rfl (by first | exact Or.inl rfl | exact Or.inr (Or.inl rfl) | exact Or.inr (Or.inr rfl))) jc))) (Ks (wv (Ks (wv (kh false nd (i := 4) rfl (by first | exact Or.inl rfl | exact Or.inr rfl) (by first | exact .inl rfl | exact .inr rfl)) (wv (kh false nd (i := 5) rfl (by first | exact Or.inl rfl | exact Or.inr rfl) (by first | exact .inl rfl | exact .inr rfl)) JU)) (ww (ww JV))) (wv (kh false nd (i := 6) rfl (by first | exact Or.inl rfl | exact Or.inr rfl) (by first | exact .inl rfl | exact .inr rfl)) JU)) (ww (ww JV))) (jf (JR (Kk (bin_ne hr.units) (jd 6 rfl (by first | exact Or.inl rfl | exact Or.inr (Or.inl rfl) | exact Or.inr (Or.inr rfl))) (se_if (Jl (jq c_m_is_part (hr.mono (by decide)) tk (ja (jd 5 rfl (by first | exact Or.inl rfl | exact Or.inr (Or.inl rfl) | exact Or.inr (Or.inr rfl))) jc))) (jd 5 rfl (by first | exact Or.inl rfl | exact Or.inr (Or.inl rfl) | exact Or.inr (Or.inr rfl))) (jq c_m_middle (hr.mono (by decide)) tk (ja (Kv (own := [("to", 7)]) (U := [7]) nd (blkOk_by (N := n_m_follows_ck) (sc := defScope vC) (by decide +kernel)) (Jm (jd 5 rfl (by first | exact Or.inl rfl | exact Or.inr (Or.inl rfl) | exact Or.inr (Or.inr rfl)))) (fun s0 H0 C cl fp => (kh false nd (i := 7) rfl (by first | exact Or.inl rfl | exact Or.inr rfl) (by first | exact .inl rfl | exact .inr rfl))) (fun s0 H0 C cl fp => rfl) (fun s0 H0 C cl fp => (se_dget hr.units1 (jd 3 rfl (by first | exact Or.inl rfl | exact Or.inr (Or.inl rfl) | exact Or.inr (Or.inr rfl))) (jd 7 rfl (by first | exact Or.inl rfl | exact Or.inr (Or.inl rfl) | exact Or.inr (Or.inr rfl)))))) jc)))) (jf (kl JX)
    jp) jp)
    jp))
    (jf (kl JX)
    jp)))
abbrev st_m_are_needs_ck : Stmt := top 33
abbrev n_m_are_needs_ck : List Str := ["rows", "paper"]
theorem sc_m_are_needs_ck : FnScope n_m_are_needs_ck ["rows", "paper"] (defScope st_m_are_needs_ck) := ⟨rfl, rfl, rfl, by decide +kernel, rfl, by decide +kernel, by decide +kernel⟩
theorem ok_m_are_needs_ck {f : Addr} {fd : FuncData} (Z : Fy K mg ad cs) (F : Fun K "are_needs" "are_needs" st_m_are_needs_ck f fd)
    (c_m_is_table : Df P w K mg base "is_table" 3 (spM K (m_is_table ad)))
    (c_m_follows_ck : Df P w K mg base "follows" 5 (spM K (m_follows_ck ad))) :
    FnOk P w K mg base (L2.CX P w) 6 f fd ["rows", "paper"] (spM K (m_are_needs_ck ad)) := by
  show FnOk P w K mg base (L2.CX P w) (5 + 1) f fd ["rows", "paper"] (spM K (vH (["rows", "paper"] : List Str).length n_m_are_needs_ck.length (b_m_are_needs_ck ad)))
  refine vF F sc_m_are_needs_ck fun cdv A outer s H E hr => ?_
  have nd := sc_m_are_needs_ck.nd
  have tk := takes_of (X := cxOf (L2.CX P w) P w K mg base n_m_are_needs_ck "are_needs" (defScope st_m_are_needs_ck) f cdv A outer s H E) rfl rfl rfl rfl
  exact (jf (kl (JP (jq c_m_is_table (hr.mono (by decide)) tk (ja (jd 0 rfl (by first | exact Or.inl rfl | exact Or.inr (Or.inl rfl) | exact Or.inr (Or.inr rfl))) (ja (jd 1 rfl (by first | exact Or.inl rfl | exact Or.inr (Or.inl rfl) | exact Or.inr (Or.inr rfl))) jc))) (Kb (jq c_m_follows_ck (hr.mono (by decide)) tk (ja (jd 0 rfl (by first | exact Or.inl rfl | exact Or.inr (Or.inl rfl) | exact Or.inr (Or.inr rfl))) (ja (jd 1 rfl (by first | exact Or.inl rfl | exact Or.inr (Or.inl rfl) | exact Or.inr (Or.inr rfl))) (ja (jd 1 rfl (by first | exact Or.inl rfl | exact Or.inr (Or.inl rfl) | exact Or.inr (Or.inr rfl))) jc)))))))
    jp)
abbrev st_m_is_below : Stmt := top 17
abbrev n_m_is_below : List Str := ["one", "other"]
theorem sc_m_is_below : FnScope n_m_is_below ["one", "other"] (defScope st_m_is_below) := ⟨rfl, rfl, rfl, by decide +kernel, rfl, by decide +kernel, by decide +kernel⟩
theorem ok_m_is_below {f : Addr} {fd : FuncData} (Z : Fy K mg ad cs) (F : Fun K "is_below" "is_below" st_m_is_below f fd) :
    FnOk P w K mg base (L2.CX P w) 1 f fd ["one", "other"] (spM K (m_is_below ad)) := by
  show FnOk P w K mg base (L2.CX P w) (0 + 1) f fd ["one", "other"] (spM K (vH (["one", "other"] : List Str).length n_m_is_below.length (b_m_is_below ad)))
  refine vF F sc_m_is_below fun cdv A outer s H E hr => ?_
  have nd := sc_m_is_below.nd
  have tk := takes_of (X := cxOf (L2.CX P w) P w K mg base n_m_is_below "is_below" (defScope st_m_is_below) f cdv A outer s H E) rfl rfl rfl rfl
  exact (jf (kl (JQ bin_lt (jE Jj (wx (jd 0 rfl (by first | exact Or.inl rfl | exact Or.inr (Or.inl rfl) | exact Or.inr (Or.inr rfl))) je) (wx (jd 1 rfl (by first | exact Or.inl rfl | exact Or.inr (Or.inl rfl) | exact Or.inr (Or.inr rfl))) je)) (jE Jj (wx (jd 1 rfl (by first | exact Or.inl rfl | exact Or.inr (Or.inl rfl) | exact Or.inr (Or.inr rfl))) je) (wx (jd 0 rfl (by first | exact Or.inl rfl | exact Or.inr (Or.inl rfl) | exact Or.inr (Or.inr rfl))) je))))
    jp)
abbrev st_m_difference : Stmt := top 18
abbrev n_m_difference : List Str := ["one", "other"]
theorem sc_m_difference : FnScope n_m_difference ["one", "other"] (defScope st_m_difference) := ⟨rfl, rfl, rfl, by decide +kernel, rfl, by decide +kernel, by decide +kernel⟩
theorem ok_m_difference {f : Addr} {fd : FuncData} (Z : Fy K mg ad cs) (F : Fun K "difference" "difference" st_m_difference f fd)
    (c_m_lowest : Df P w K mg base "lowest" 1 (spM K (JZ ad))) :
    FnOk P w K mg base (L2.CX P w) 2 f fd ["one", "other"] (spM K (m_difference ad)) := by
  show FnOk P w K mg base (L2.CX P w) (1 + 1) f fd ["one", "other"] (spM K (vH (["one", "other"] : List Str).length n_m_difference.length (b_m_difference ad)))
  refine vF F sc_m_difference fun cdv A outer s H E hr => ?_
  have nd := sc_m_difference.nd
  have tk := takes_of (X := cxOf (L2.CX P w) P w K mg base n_m_difference "difference" (defScope st_m_difference) f cdv A outer s H E) rfl rfl rfl rfl
  exact (jf (kl (jq c_m_lowest (hr.mono (by decide)) tk (ja (jE bin_sub (jE Jj (wx (jd 0 rfl (by first | exact Or.inl rfl | exact Or.inr (Or.inl rfl) | exact Or.inr (Or.inr rfl))) je) (wx (jd 1 rfl (by first | exact Or.inl rfl | exact Or.inr (Or.inl rfl) | exact Or.inr (Or.inr rfl))) je)) (jE Jj (wx (jd 1 rfl (by first | exact Or.inl rfl | exact Or.inr (Or.inl rfl) | exact Or.inr (Or.inr rfl))) je) (wx (jd 0 rfl (by first | exact Or.inl rfl | exact Or.inr (Or.inl rfl) | exact Or.inr (Or.inr rfl))) je))) (ja (jE Jj (wx (jd 0 rfl (by first | exact Or.inl rfl | exact Or.inr (Or.inl rfl) | exact Or.inr (Or.inr rfl))) je) (wx (jd 1 rfl (by first | exact Or.inl rfl | exact Or.inr (Or.inl rfl) | exact Or.inr (Or.inr rfl))) je)) jc))))
    jp)
abbrev st_m_total : Stmt := top 19
abbrev n_m_total : List Str := ["one", "other"]
theorem sc_m_total : FnScope n_m_total ["one", "other"] (defScope st_m_total) := ⟨rfl, rfl, rfl, by decide +kernel, rfl, by decide +kernel, by decide +kernel⟩
theorem ok_m_total {f : Addr} {fd : FuncData} (Z : Fy K mg ad cs) (F : Fun K "total" "total" st_m_total f fd)
    (c_m_lowest : Df P w K mg base "lowest" 1 (spM K (JZ ad))) :
    FnOk P w K mg base (L2.CX P w) 2 f fd ["one", "other"] (spM K (m_total ad)) := by
  show FnOk P w K mg base (L2.CX P w) (1 + 1) f fd ["one", "other"] (spM K (vH (["one", "other"] : List Str).length n_m_total.length (b_m_total ad)))
  refine vF F sc_m_total fun cdv A outer s H E hr => ?_
  have nd := sc_m_total.nd
  have tk := takes_of (X := cxOf (L2.CX P w) P w K mg base n_m_total "total" (defScope st_m_total) f cdv A outer s H E) rfl rfl rfl rfl
  exact (jf (kl (jq c_m_lowest (hr.mono (by decide)) tk (ja (jE jA (jE Jj (wx (jd 0 rfl (by first | exact Or.inl rfl | exact Or.inr (Or.inl rfl) | exact Or.inr (Or.inr rfl))) je) (wx (jd 1 rfl (by first | exact Or.inl rfl | exact Or.inr (Or.inl rfl) | exact Or.inr (Or.inr rfl))) je)) (jE Jj (wx (jd 1 rfl (by first | exact Or.inl rfl | exact Or.inr (Or.inl rfl) | exact Or.inr (Or.inr rfl))) je) (wx (jd 0 rfl (by first | exact Or.inl rfl | exact Or.inr (Or.inl rfl) | exact Or.inr (Or.inr rfl))) je))) (ja (jE Jj (wx (jd 0 rfl (by first | exact Or.inl rfl | exact Or.inr (Or.inl rfl) | exact Or.inr (Or.inr rfl))) je) (wx (jd 1 rfl (by first | exact Or.inl rfl | exact Or.inr (Or.inl rfl) | exact Or.inr (Or.inr rfl))) je)) jc))))
    jp)
abbrev wD : Stmt := top 35
abbrev n_m_keeps_the_win : List Str := ["claim", "numbers", "_", "rows", "place", "share", "bid", "to", "arrows", "spot"]
theorem sc_m_keeps_the_win : FnScope n_m_keeps_the_win ["claim", "numbers"] (defScope wD) := ⟨rfl, rfl, rfl, by decide +kernel, rfl, by decide +kernel, by decide +kernel⟩
theorem ok_m_keeps_the_win {f : Addr} {fd : FuncData} (Z : Fy K mg ad cs) (F : Fun K "keeps_the_win" "keeps_the_win" wD f fd)
    (c_m_is_below : Df P w K mg base "is_below" 1 (spM K (m_is_below ad)))
    (c_m_total : Df P w K mg base "total" 2 (spM K (m_total ad)))
    (c_m_difference : Df P w K mg base "difference" 2 (spM K (m_difference ad)))
    (c_m_arrows_of : Df P w K mg base "arrows_of" 5 (spM K (Jn ad))) :
    FnOk P w K mg base (L2.CX P w) 6 f fd ["claim", "numbers"] (spM K (m_keeps_the_win ad)) := by
  show FnOk P w K mg base (L2.CX P w) (5 + 1) f fd ["claim", "numbers"] (spM K (vH (["claim", "numbers"] : List Str).length n_m_keeps_the_win.length (b_m_keeps_the_win ad)))
  refine vF F sc_m_keeps_the_win fun cdv A outer s H E hr => ?_
  have nd := sc_m_keeps_the_win.nd
  have tk := takes_of (X := cxOf (L2.CX P w) P w K mg base n_m_keeps_the_win "keeps_the_win" (defScope wD) f cdv A outer s H E) rfl rfl rfl rfl
  exact (jf (ss_asg false (jd 0 rfl (by first | exact Or.inl rfl | exact Or.inr (Or.inl rfl) | exact Or.inr (Or.inr rfl))) (Ks (wv (kh false nd (i := 2) rfl (by first | exact Or.inl rfl | exact Or.inr rfl) (by first | exact .inl rfl | exact .inr rfl)) (wv (kh false nd (i := 3) rfl (by first | exact Or.inl rfl | exact Or.inr rfl) (by first | exact .inl rfl | exact .inr rfl)) (wv (kh false nd (i := 4) rfl (by first | exact Or.inl rfl | exact Or.inr rfl) (by first | exact .inl rfl | exact .inr rfl)) (wv (kh false nd (i := 5) rfl (by first | exact Or.inl rfl | exact Or.inr rfl) (by first | exact .inl rfl | exact .inr rfl)) (wv (kh false nd (i := 6) rfl (by first | exact Or.inl rfl | exact Or.inr rfl) (by first | exact .inl rfl | exact .inr rfl)) (wv (kh false nd (i := 7) rfl (by first | exact Or.inl rfl | exact Or.inr rfl) (by first | exact .inl rfl | exact .inr rfl)) JU)))))) (ww (ww (ww (ww (ww (ww JV))))))))
    (jf (wo false (i := 8) (jq c_m_arrows_of (hr.mono (by decide)) tk (ja (se_dget hr.units1 (jD (fun h => eb_dict Z.nm.dict h) (cv_dict rfl) (ja (jd 3 rfl (by first | exact Or.inl rfl | exact Or.inr (Or.inl rfl) | exact Or.inr (Or.inr rfl))) jc)) (jd 4 rfl (by first | exact Or.inl rfl | exact Or.inr (Or.inl rfl) | exact Or.inr (Or.inr rfl)))) jc)) nd rfl (by first | exact Or.inl rfl | exact Or.inr rfl))
    (jf (JR (WD (KH (Kk bin_notin (jd 7 rfl (by first | exact Or.inl rfl | exact Or.inr (Or.inl rfl) | exact Or.inr (Or.inr rfl))) (jd 8 rfl (by first | exact Or.inl rfl | exact Or.inr (Or.inl rfl) | exact Or.inr (Or.inr rfl)))) (Kz (JB (Jl (jq c_m_is_below (hr.mono (by decide)) tk (ja (se_dget hr.units1 (jd 1 rfl (by first | exact Or.inl rfl | exact Or.inr (Or.inl rfl) | exact Or.inr (Or.inr rfl))) (jd 7 rfl (by first | exact Or.inl rfl | exact Or.inr (Or.inl rfl) | exact Or.inr (Or.inr rfl)))) (ja (jq c_m_difference (hr.mono (by decide)) tk (ja (jd 5 rfl (by first | exact Or.inl rfl | exact Or.inr (Or.inl rfl) | exact Or.inr (Or.inr rfl))) (ja (jd 6 rfl (by first | exact Or.inl rfl | exact Or.inr (Or.inl rfl) | exact Or.inr (Or.inr rfl))) jc))) jc)))))))) (jf (kl JX)
    jp) jp)
    (jf (kl (jD (fun h => KC Z.nm.all h) (KF rfl) (ja (Kv (own := [("spot", 9)]) (U := [9]) nd (blkOk_by (N := n_m_keeps_the_win) (sc := defScope wD) (by decide +kernel)) (Jm (jd 8 rfl (by first | exact Or.inl rfl | exact Or.inr (Or.inl rfl) | exact Or.inr (Or.inr rfl)))) (fun s0 H0 C cl fp => (kh false nd (i := 9) rfl (by first | exact Or.inl rfl | exact Or.inr rfl) (by first | exact .inl rfl | exact .inr rfl))) (fun s0 H0 C cl fp => rfl) (fun s0 H0 C cl fp => (jq c_m_is_below (hr.mono (by decide)) Kd (ja (se_dget hr.units1 (jd 1 rfl (by first | exact Or.inl rfl | exact Or.inr (Or.inl rfl) | exact Or.inr (Or.inr rfl))) (jd 9 rfl (by first | exact Or.inl rfl | exact Or.inr (Or.inl rfl) | exact Or.inr (Or.inr rfl)))) (ja (jq c_m_total (hr.mono (by decide)) Kd (ja (jd 5 rfl (by first | exact Or.inl rfl | exact Or.inr (Or.inl rfl) | exact Or.inr (Or.inr rfl))) (ja (jd 6 rfl (by first | exact Or.inl rfl | exact Or.inr (Or.inl rfl) | exact Or.inr (Or.inr rfl))) jc))) jc))))) jc)))
    jp))))
abbrev st_m_is_true : Stmt := top 36
abbrev n_m_is_true : List Str := ["claim", "numbers", "told"]
theorem sc_m_is_true : FnScope n_m_is_true ["claim", "numbers"] (defScope st_m_is_true) := ⟨rfl, rfl, rfl, by decide +kernel, rfl, by decide +kernel, by decide +kernel⟩
theorem ok_m_is_true {f : Addr} {fd : FuncData} (Z : Fy K mg ad cs) (F : Fun K "is_true" "is_true" st_m_is_true f fd)
    (c_m_is_below : Df P w K mg base "is_below" 1 (spM K (m_is_below ad)))
    (c_m_keeps_the_win : Df P w K mg base "keeps_the_win" 6 (spM K (m_keeps_the_win ad))) :
    FnOk P w K mg base (L2.CX P w) 7 f fd ["claim", "numbers"] (spM K (m_is_true ad)) := by
  show FnOk P w K mg base (L2.CX P w) (6 + 1) f fd ["claim", "numbers"] (spM K (vH (["claim", "numbers"] : List Str).length n_m_is_true.length (b_m_is_true ad)))
  refine vF F sc_m_is_true fun cdv A outer s H E hr => ?_
  have nd := sc_m_is_true.nd
  have tk := takes_of (X := cxOf (L2.CX P w) P w K mg base n_m_is_true "is_true" (defScope st_m_is_true) f cdv A outer s H E) rfl rfl rfl rfl
  exact (jf (JR (Kk (Ka hr.units) (wx (jd 0 rfl (by first | exact Or.inl rfl | exact Or.inr (Or.inl rfl) | exact Or.inr (Or.inr rfl))) je) (ji (l := [115, 97, 102, 101]) (by decide +kernel))) (jf (kl (jq c_m_keeps_the_win (hr.mono (by decide)) tk (ja (jd 0 rfl (by first | exact Or.inl rfl | exact Or.inr (Or.inl rfl) | exact Or.inr (Or.inr rfl))) (ja (jd 1 rfl (by first | exact Or.inl rfl | exact Or.inr (Or.inl rfl) | exact Or.inr (Or.inr rfl))) jc))))
    jp) jp)
    (jf (wo false (i := 2) (se_dget hr.units1 (jd 1 rfl (by first | exact Or.inl rfl | exact Or.inr (Or.inl rfl) | exact Or.inr (Or.inr rfl))) (wx (jd 0 rfl (by first | exact Or.inl rfl | exact Or.inr (Or.inl rfl) | exact Or.inr (Or.inr rfl))) je)) nd rfl (by first | exact Or.inl rfl | exact Or.inr rfl))
    (jf (JR (Kk (Ka hr.units) (wx (jd 0 rfl (by first | exact Or.inl rfl | exact Or.inr (Or.inl rfl) | exact Or.inr (Or.inr rfl))) je) (ji (l := [97, 98, 111, 118, 101]) (by decide +kernel))) (jf (kl (jq c_m_is_below (hr.mono (by decide)) tk (ja (wx (jd 0 rfl (by first | exact Or.inl rfl | exact Or.inr (Or.inl rfl) | exact Or.inr (Or.inr rfl))) je) (ja (jd 2 rfl (by first | exact Or.inl rfl | exact Or.inr (Or.inl rfl) | exact Or.inr (Or.inr rfl))) jc))))
    jp) jp)
    (jf (JR (Kk (Ka hr.units) (wx (jd 0 rfl (by first | exact Or.inl rfl | exact Or.inr (Or.inl rfl) | exact Or.inr (Or.inr rfl))) je) (ji (l := [98, 101, 108, 111, 119]) (by decide +kernel))) (jf (kl (jq c_m_is_below (hr.mono (by decide)) tk (ja (jd 2 rfl (by first | exact Or.inl rfl | exact Or.inr (Or.inl rfl) | exact Or.inr (Or.inr rfl))) (ja (wx (jd 0 rfl (by first | exact Or.inl rfl | exact Or.inr (Or.inl rfl) | exact Or.inr (Or.inr rfl))) je) jc))))
    jp) jp)
    (jf (kl (JQ (Ka hr.units) (jd 2 rfl (by first | exact Or.inl rfl | exact Or.inr (Or.inl rfl) | exact Or.inr (Or.inr rfl))) (wx (jd 0 rfl (by first | exact Or.inl rfl | exact Or.inr (Or.inl rfl) | exact Or.inr (Or.inr rfl))) je)))
    jp)))))
abbrev jG : Stmt := top 34
abbrev n_m_are_needs_within_ck : List Str := ["rows", "moves", "paper", "table", "_", "what", "k"]
theorem sc_m_are_needs_within_ck : FnScope n_m_are_needs_within_ck ["rows", "moves", "paper"] (defScope jG) := ⟨rfl, rfl, rfl, by decide +kernel, rfl, by decide +kernel, by decide +kernel⟩
theorem ok_m_are_needs_within_ck {f : Addr} {fd : FuncData} (Z : Fy K mg ad cs) (F : Fun K "are_needs_within" "are_needs_within" jG f fd)
    (c_m_follows_ck : Df P w K mg base "follows" 5 (spM K (m_follows_ck ad)))
    (c_m_is_part : Df P w K mg base "is_part" 4 (spM K (Jc ad)))
    (c_m_is_row : Df P w K mg base "is_row" 1 (spM K (Je ad)))
    (c_m_is_table : Df P w K mg base "is_table" 3 (spM K (m_is_table ad))) :
    FnOk P w K mg base (L2.CX P w) 6 f fd ["rows", "moves", "paper"] (spM K (m_are_needs_within_ck ad)) := by
  show FnOk P w K mg base (L2.CX P w) (5 + 1) f fd ["rows", "moves", "paper"] (spM K (vH (["rows", "moves", "paper"] : List Str).length n_m_are_needs_within_ck.length (b_m_are_needs_within_ck ad)))
  refine vF F sc_m_are_needs_within_ck fun cdv A outer s H E hr => ?_
  have nd := sc_m_are_needs_within_ck.nd
  have tk := takes_of (X := cxOf (L2.CX P w) P w K mg base n_m_are_needs_within_ck "are_needs_within" (defScope jG) f cdv A outer s H E) rfl rfl rfl rfl
  exact (jf (JR (WD (KH (JB (Jl (jq c_m_is_row (hr.mono (by decide)) tk (ja (jd 2 rfl (by first | exact Or.inl rfl | exact Or.inr (Or.inl rfl) | exact Or.inr (Or.inr rfl))) jc)))) (KH (Kk (bin_ne hr.units) (jD (fun h => Ke Z.nm.len h) (Kh) (ja (jd 2 rfl (by first | exact Or.inl rfl | exact Or.inr (Or.inl rfl) | exact Or.inr (Or.inr rfl))) jc)) (jE jA (jd 1 rfl (by first | exact Or.inl rfl | exact Or.inr (Or.inl rfl) | exact Or.inr (Or.inr rfl))) je)) (Kz (JB (Jl (jD (fun h => KC Z.nm.all h) (KF rfl) (ja (Kv (own := [("table", 3)]) (U := [3]) nd (blkOk_by (N := n_m_are_needs_within_ck) (sc := defScope jG) (by decide +kernel)) (Jm (jd 2 rfl (by first | exact Or.inl rfl | exact Or.inr (Or.inl rfl) | exact Or.inr (Or.inr rfl)))) (fun s0 H0 C cl fp => (kh false nd (i := 3) rfl (by first | exact Or.inl rfl | exact Or.inr rfl) (by first | exact .inl rfl | exact .inr rfl))) (fun s0 H0 C cl fp => rfl) (fun s0 H0 C cl fp => (jq c_m_is_table (hr.mono (by decide)) Kd (ja (jd 0 rfl (by first | exact Or.inl rfl | exact Or.inr (Or.inl rfl) | exact Or.inr (Or.inr rfl))) (ja (jd 3 rfl (by first | exact Or.inl rfl | exact Or.inr (Or.inl rfl) | exact Or.inr (Or.inr rfl))) jc))))) jc)))))))) (jf (kl JX)
    jp) jp)
    (jf (JR (Kk (bin_ne hr.units) (wx (jd 2 rfl (by first | exact Or.inl rfl | exact Or.inr (Or.inl rfl) | exact Or.inr (Or.inr rfl))) je) (jD (fun h => eb_tuple Z.nm.tuple h) (cv_tuple) (ja (Kv (own := [("_", 4), ("what", 5)]) (U := [4, 5]) nd (blkOk_by (N := n_m_are_needs_within_ck) (sc := defScope jG) (by decide +kernel)) (Jm (jd 0 rfl (by first | exact Or.inl rfl | exact Or.inr (Or.inl rfl) | exact Or.inr (Or.inr rfl)))) (fun s0 H0 C cl fp => (Ks (wv (kh false nd (i := 4) rfl (by first | exact Or.inl rfl | exact Or.inr rfl) (by first | exact .inl rfl | exact .inr rfl)) (wv (kh false nd (i := 5) rfl (by first | exact Or.inl rfl | exact Or.inr rfl) (by first | exact .inl rfl | exact .inr rfl)) JU)) (ww (ww JV)))) (fun s0 H0 C cl fp => rfl) (fun s0 H0 C cl fp => (se_if (Jl (jq c_m_is_part (hr.mono (by decide)) Kd (ja (jd 5 rfl (by first | exact Or.inl rfl | exact Or.inr (Or.inl rfl) | exact Or.inr (Or.inr rfl))) jc))) (jd 5 rfl (by first | exact Or.inl rfl | exact Or.inr (Or.inl rfl) | exact Or.inr (Or.inr rfl))) (jg (ja je (ja je jc)))))) jc))) (jf (kl JX)
    jp) jp)
    (jf (kl (jD (fun h => KC Z.nm.all h) (KF rfl) (ja (Kv (own := [("k", 6)]) (U := [6]) nd (blkOk_by (N := n_m_are_needs_within_ck) (sc := defScope jG) (by decide +kernel)) (si_range1 Z.nm.range (ja (jd 1 rfl (by first | exact Or.inl rfl | exact Or.inr (Or.inl rfl) | exact Or.inr (Or.inr rfl))) jc)) (fun s0 H0 C cl fp => (kh false nd (i := 6) rfl (by first | exact Or.inl rfl | exact Or.inr rfl) (by first | exact .inl rfl | exact .inr rfl))) (fun s0 H0 C cl fp => rfl) (fun s0 H0 C cl fp => (jq c_m_follows_ck (hr.mono (by decide)) Kd (ja (jd 0 rfl (by first | exact Or.inl rfl | exact Or.inr (Or.inl rfl) | exact Or.inr (Or.inr rfl))) (ja (wx (jd 2 rfl (by first | exact Or.inl rfl | exact Or.inr (Or.inl rfl) | exact Or.inr (Or.inr rfl))) (jd 6 rfl (by first | exact Or.inl rfl | exact Or.inr (Or.inl rfl) | exact Or.inr (Or.inr rfl)))) (ja (wx (jd 2 rfl (by first | exact Or.inl rfl | exact Or.inr (Or.inl rfl) | exact Or.inr (Or.inr rfl))) (jE jA (jd 6 rfl (by first | exact Or.inl rfl | exact Or.inr (Or.inl rfl) | exact Or.inr (Or.inr rfl))) je)) jc)))))) jc)))
    jp)))
abbrev st_m_accepts_ck : Stmt := top 37
abbrev n_m_accepts_ck : List Str := ["claim", "paper", "rows"]
theorem sc_m_accepts_ck : FnScope n_m_accepts_ck ["claim", "paper"] (defScope st_m_accepts_ck) := ⟨rfl, rfl, rfl, by decide +kernel, rfl, by decide +kernel, by decide +kernel⟩
theorem ok_m_accepts_ck {f : Addr} {fd : FuncData} (Z : Fy K mg ad cs) (F : Fun K "accepts" "accepts" st_m_accepts_ck f fd)
    (c_m_are_needs_ck : Df P w K mg base "are_needs" 6 (spM K (m_are_needs_ck ad)))
    (c_m_is_true : Df P w K mg base "is_true" 7 (spM K (m_is_true ad)))
    (c_m_numbers_of_ck : Df P w K mg base "numbers_of" 1 (spM K (m_numbers_of_ck ad)))
    (c_m_are_needs_within_ck : Df P w K mg base "are_needs_within" 6 (spM K (m_are_needs_within_ck ad)))
    (c_m_is_checker_claim_ck : Df P w K mg base "is_checker_claim" 8 (spM K (kj ad))) :
    FnOk P w K mg base (L2.CX P w) 9 f fd ["claim", "paper"] (spM K (jC ad)) := by
  show FnOk P w K mg base (L2.CX P w) (8 + 1) f fd ["claim", "paper"] (spM K (vH (["claim", "paper"] : List Str).length n_m_accepts_ck.length (b_m_accepts_ck ad)))
  refine vF F sc_m_accepts_ck fun cdv A outer s H E hr => ?_
  have nd := sc_m_accepts_ck.nd
  have tk := takes_of (X := cxOf (L2.CX P w) P w K mg base n_m_accepts_ck "accepts" (defScope st_m_accepts_ck) f cdv A outer s H E) rfl rfl rfl rfl
  exact (jf (JR (JB (Jl (jq c_m_is_checker_claim_ck (hr.mono (by decide)) tk (ja (jd 0 rfl (by first | exact Or.inl rfl | exact Or.inr (Or.inl rfl) | exact Or.inr (Or.inr rfl))) jc)))) (jf (kl JX)
    jp) jp)
    (jf (wo false (i := 2) (wx (jd 0 rfl (by first | exact Or.inl rfl | exact Or.inr (Or.inl rfl) | exact Or.inr (Or.inr rfl))) je) nd rfl (by first | exact Or.inl rfl | exact Or.inr rfl))
    (jf (JR (Kk (Ka hr.units) (wx (jd 0 rfl (by first | exact Or.inl rfl | exact Or.inr (Or.inl rfl) | exact Or.inr (Or.inr rfl))) je) (ji (l := [119, 105, 116, 104, 105, 110]) (by decide +kernel))) (jf (kl (JP (jq c_m_are_needs_within_ck (hr.mono (by decide)) tk (ja (jd 2 rfl (by first | exact Or.inl rfl | exact Or.inr (Or.inl rfl) | exact Or.inr (Or.inr rfl))) (ja (wx (jd 0 rfl (by first | exact Or.inl rfl | exact Or.inr (Or.inl rfl) | exact Or.inr (Or.inr rfl))) je) (ja (jd 1 rfl (by first | exact Or.inl rfl | exact Or.inr (Or.inl rfl) | exact Or.inr (Or.inr rfl))) jc)))) (Kb (JQ (Ka hr.units) (se_dget hr.units1 (jq c_m_numbers_of_ck (hr.mono (by decide)) tk (ja (jd 2 rfl (by first | exact Or.inl rfl | exact Or.inr (Or.inl rfl) | exact Or.inr (Or.inr rfl))) (ja (wx (jd 1 rfl (by first | exact Or.inl rfl | exact Or.inr (Or.inl rfl) | exact Or.inr (Or.inr rfl))) (se_neg je)) jc))) (wx (jd 0 rfl (by first | exact Or.inl rfl | exact Or.inr (Or.inl rfl) | exact Or.inr (Or.inr rfl))) je)) (wx (jd 0 rfl (by first | exact Or.inl rfl | exact Or.inr (Or.inl rfl) | exact Or.inr (Or.inr rfl))) je)))))
    jp) jp)
    (jf (kl (JP (jq c_m_are_needs_ck (hr.mono (by decide)) tk (ja (jd 2 rfl (by first | exact Or.inl rfl | exact Or.inr (Or.inl rfl) | exact Or.inr (Or.inr rfl))) (ja (jd 1 rfl (by first | exact Or.inl rfl | exact Or.inr (Or.inl rfl) | exact Or.inr (Or.inr rfl))) jc))) (Kb (jq c_m_is_true (hr.mono (by decide)) tk (ja (jd 0 rfl (by first | exact Or.inl rfl | exact Or.inr (Or.inl rfl) | exact Or.inr (Or.inr rfl))) (ja (jq c_m_numbers_of_ck (hr.mono (by decide)) tk (ja (jd 2 rfl (by first | exact Or.inl rfl | exact Or.inr (Or.inl rfl) | exact Or.inr (Or.inr rfl))) (ja (jd 1 rfl (by first | exact Or.inl rfl | exact Or.inr (Or.inl rfl) | exact Or.inr (Or.inr rfl))) jc))) jc))))))
    jp))))
def b_m__law_path (ad : String → Addr) : MS := (jn (parSo 1 2 (jb (Wy (ret (.str [97, 98, 99, 100, 101, 102, 103, 104, 105, 106])) none (some (op2 (var 0) (ret (.int 2)) kg))) (jb (vD (jb (jj (jb (ret (.str [97])) (jb (jj (jb (ret (.int 0)) (jb (ret (.int 1)) noA))) noA))) noA)) noA)))
    (jn (KZ (rngI2 (jb (ret (.int 1)) (jb (op2 (var 0) (ret (.int 1)) kg) noA))) (jB false 3) (jn (appS 2 (jj (jb (op2 (var 1) (var 3) atT) (jb (jj (jb (op2 (var 1) (op2 (var 3) (ret (.int 1)) WG) atT) (jb (op2 (var 1) (op2 (var 3) (ret (.int 1)) kg) atT) noA))) noA))))
    kq))
    (jn (vL (km (jb (op2 (var 2) (vD (jb (jj (jb (op2 (var 1) (op2 (var 0) (ret (.int 1)) kg) atT) (jb (jj (jb (ret (.int 1)) (jb (ret (.int 1)) noA))) noA))) noA)) kg) noA) Jf))
    kq)))
def Jq (ad : String → Addr) : MF := vH 1 4 (b_m__law_path ad)
abbrev st_m__law_path : Stmt := top 46
abbrev n_m__law_path : List Str := ["n", "signs", "found", "k"]
theorem sc_m__law_path : FnScope n_m__law_path ["n"] (defScope st_m__law_path) := ⟨rfl, rfl, rfl, by decide +kernel, rfl, by decide +kernel, by decide +kernel⟩
theorem ok_m__law_path {f : Addr} {fd : FuncData} (Z : Fy K mg ad cs) (F : Fun K "_law_path" "_law_path" st_m__law_path f fd) :
    FnOk P w K mg base (L2.CX P w) 1 f fd ["n"] (spM K (Jq ad)) := by
  show FnOk P w K mg base (L2.CX P w) (0 + 1) f fd ["n"] (spM K (vH (["n"] : List Str).length n_m__law_path.length (b_m__law_path ad)))
  refine vF F sc_m__law_path fun cdv A outer s H E hr => ?_
  have nd := sc_m__law_path.nd
  have tk := takes_of (X := cxOf (L2.CX P w) P w K mg base n_m__law_path "_law_path" (defScope st_m__law_path) f cdv A outer s H E) rfl rfl rfl rfl
  exact (jf (ss_par_o (i := 1) (j := 2) (ja (se_sliceE (ji (l := [97, 98, 99, 100, 101, 102, 103, 104, 105, 106]) (by decide +kernel)) BdE.none (BdE.some (jE jA (jd 0 rfl (by first | exact Or.inl rfl | exact Or.inr (Or.inl rfl) | exact Or.inr (Or.inr rfl))) je))) (ja (wt (ja (jg (ja (ji (l := [97]) (by decide +kernel)) (ja (jg (ja je (ja je jc))) jc))) jc)) jc)) nd rfl rfl (by decide) rfl rfl)
    (jf (KN (passes_of rfl) (si_range2 Z.nm.range (ja je (ja (jE jA (jd 0 rfl (by first | exact Or.inl rfl | exact Or.inr (Or.inl rfl) | exact Or.inr (Or.inr rfl))) je) jc))) (kh false nd (i := 3) rfl (by first | exact Or.inl rfl | exact Or.inr rfl) (by first | exact .inl rfl | exact .inr rfl)) (jf (ss_append (k := 2) rfl (by first | exact Or.inl rfl | exact Or.inr (Or.inl rfl) | exact Or.inr (Or.inr rfl)) (jg (ja (wx (jd 1 rfl (by first | exact Or.inl rfl | exact Or.inr (Or.inl rfl) | exact Or.inr (Or.inr rfl))) (jd 3 rfl (by first | exact Or.inl rfl | exact Or.inr (Or.inl rfl) | exact Or.inr (Or.inr rfl)))) (ja (jg (ja (wx (jd 1 rfl (by first | exact Or.inl rfl | exact Or.inr (Or.inl rfl) | exact Or.inr (Or.inr rfl))) (jE bin_sub (jd 3 rfl (by first | exact Or.inl rfl | exact Or.inr (Or.inl rfl) | exact Or.inr (Or.inr rfl))) je)) (ja (wx (jd 1 rfl (by first | exact Or.inl rfl | exact Or.inr (Or.inl rfl) | exact Or.inr (Or.inr rfl))) (jE jA (jd 3 rfl (by first | exact Or.inl rfl | exact Or.inr (Or.inl rfl) | exact Or.inr (Or.inr rfl))) je)) jc))) jc))))
    jp))
    (jf (kl (jD (fun h => eb_tuple Z.nm.tuple h) (cv_tuple) (ja (jE jA (jd 2 rfl (by first | exact Or.inl rfl | exact Or.inr (Or.inl rfl) | exact Or.inr (Or.inr rfl))) (wt (ja (jg (ja (wx (jd 1 rfl (by first | exact Or.inl rfl | exact Or.inr (Or.inl rfl) | exact Or.inr (Or.inr rfl))) (jE jA (jd 0 rfl (by first | exact Or.inl rfl | exact Or.inr (Or.inl rfl) | exact Or.inr (Or.inr rfl))) je)) (ja (jg (ja je (ja je jc))) jc))) jc))) jc)))
    jp)))
def b_m__law_right (ad : String → Addr) : MS := (jn (wp false (jj (jb (jj (jb (ret (.str [97])) (jb (jj (jb (ret (.str [98])) (jb (ret (.str [99])) noA))) noA))) (jb (jj (jb (ret (.str [98])) (jb (jj (jb (ret (.int 0)) (jb (ret (.int 1)) noA))) noA))) (jb (jj (jb (ret (.str [99])) (jb (jj (jb (ret (.int 1)) (jb (ret (.int 1)) noA))) noA))) noA)))) (jB false 1))
    (jn (wp false (jj (jb (jj (jb (jj (jb (ret (.int 1)) (jb (ret (.int 2)) noA))) (jb (jj (jb (ret (.int 0)) (jb (ret (.int 1)) noA))) (jb (jj (jb (ret (.int 1)) (jb (ret (.int 1)) noA))) noA)))) (jb (jj (jb (jj (jb (jj (jb (ret (.int 1)) (jb (ret (.int 1)) noA))) (jb (jj (jb (ret (.int 0)) (jb (ret (.int 1)) noA))) (jb (jj (jb (ret (.int 1)) (jb (ret (.int 1)) noA))) noA)))) (jb (jj (jb (jj (jb (ret (.int 1)) (jb (ret (.int 2)) noA))) (jb (jj (jb (ret (.int 0)) (jb (ret (.int 1)) noA))) (jb (jj (jb (ret (.int 1)) (jb (ret (.int 1)) noA))) noA)))) noA))) noA))) (KM (vd (jB false 2) (vd (jB false 3) KI))))
    (jn (wp false (vD (jb (var 2) (jb (var 3) (jb (Wy (var 3) none (some (ret (.int 1)))) (jb (jj noA) (jb (ret .non) (jb (jj (jb (jj (jb (ret (.int 0)) (jb (ret (.int 1)) noA))) noA)) (jb (jj (jb (jj (jb (ret (.int 1)) (jb (ret (.int 1)) noA))) noA)) (jb (jj (jb (jj (jb (ret (.int 0)) (jb (ret (.int 1)) noA))) (jb (jj (jb (ret (.int 0)) (jb (ret (.int 1)) noA))) noA))) (jb (jj (jb (jj (jb (ret (.int 1)) (jb (ret (.int 2)) noA))) noA)) noA)))))))))) (jB false 4))
    (jn (KZ (Wm (jb (ret (.int 24)) noA)) (jB false 5) (jn (wp false (Jx 0 (jb (var 1) noA) (Jo ad)) (jB false 6))
    (jn (ifS (op2 (Jx 0 (jb (ret (.int 2)) noA) (vh ad)) (ret (.int 0)) fEq) (jn (WB 7 8 (jb (Jx 0 (jb (vD (jb (ret (.str [110, 101, 101, 100, 115])) (jb (ret (.str [97, 98, 111, 118, 101])) (jb (ret (.str [98, 101, 108, 111, 119])) noA)))) noA) (wF ad)) (jb (Jx 0 (jb (vD (jb (jj (jb (ret (.int 0)) (jb (ret (.int 1)) noA))) (jb (jj (jb (Ws (ret (.int 1))) (jb (ret (.int 1)) noA))) (jb (jj (jb (ret (.int 2)) (jb (ret (.int 1)) noA))) noA)))) noA) (wF ad)) noA)))
    (jn (wp false (jj (jb (var 7) (jb (Jx 0 noA (wY ad)) (jb (ret (.str [97])) (jb (var 8) noA))))) (jB false 6))
    kq)) kq)
    (jn (wp false (op2 (lcM (JT (var 4)) (jB false 13) (fun ρ => some (.ok (.bl true) .va ρ)) (jK (jb (var 6) (jb (var 13) noA)) (jC ad)) [13]) (vD (jb (callK [1, 0] (jb (var 2) (jb (var 6) noA)) (jC ad)) noA)) kg) (jB false 9))
    (jn (ifS (op2 (km (jb (var 9) noA) Kx) (km (jb (op2 (vD (jb (ret (.bl false)) noA)) (ret (.int 10)) vK) noA) Kx) fNe) (jn (vL (ret (.bl false)))
    kq) kq)
    kq)))))
    (jn (wp false (op2 (ret (.int 1)) (Jx 0 (jb (ret (.int 8)) noA) (vh ad)) kg) (jB false 10))
    (jn (wp false (km (jb (lcM (Wm (jb (op2 (var 10) (ret (.int 2)) kg) noA)) (jB false 14) (fun ρ => some (.ok (.bl true) .va ρ)) (jK (jb (var 14) (jb (op2 (var 10) (ret (.int 1)) kg) noA)) (vI ad)) [14]) noA) Jf) (jB false 11))
    (jn (wp false (vD (jb (jj (jb (jj (jb (ret (.str [110, 101, 101, 100, 115])) (jb (var 1) (jb (ret (.str [97])) (jb (jj (jb (ret (.int 1)) (jb (ret (.int 2)) noA))) noA))))) (jb (var 2) noA))) (jb (jj (jb (jj (jb (ret (.str [97, 98, 111, 118, 101])) (jb (var 1) (jb (ret (.str [97])) (jb (jj (jb (Ws (ret (.int 1))) (jb (ret (.int 2)) noA))) noA))))) (jb (var 2) noA))) noA))) (jB false 12))
    (jn (wp false (op2 (var 12) (vD (jb (jj (jb (jj (jb (ret (.str [98, 101, 108, 111, 119])) (jb (var 1) (jb (ret (.str [97])) (jb (jj (jb (ret (.int 3)) (jb (ret (.int 1)) noA))) noA))))) (jb (var 2) noA))) noA)) kg) (jB false 12))
    (jn (wp false (op2 (var 12) (vD (jb (jj (jb (jj (jb (ret (.str [119, 105, 116, 104, 105, 110])) (jb (var 1) (jb (ret (.str [97])) (jb (ret (.int 1)) (jb (jj (jb (ret (.int 1)) (jb (ret (.int 2)) noA))) noA)))))) (jb (var 3) noA))) noA)) kg) (jB false 12))
    (jn (wp false (op2 (var 12) (vD (jb (jj (jb (jj (jb (ret (.str [115, 97, 102, 101])) (jb (var 1) (jb (ret (.str [97])) (jb (jj (jb (ret (.int 3)) (jb (ret (.int 4)) noA))) (jb (jj (jb (ret (.int 1)) (jb (ret (.int 2)) noA))) (jb (ret (.str [98])) noA))))))) (jb (var 2) noA))) noA)) kg) (jB false 12))
    (jn (wp false (op2 (var 12) (vD (jb (jj (jb (jj (jb (ret (.str [119, 105, 116, 104, 105, 110])) (jb (var 1) (jb (ret (.str [97])) (jb (ret (.int 60)) (jb (jj (jb (ret (.int 1)) (jb (ret (.int 2)) noA))) noA)))))) (jb (op2 (Wy (var 3) none (some (ret (.int 1)))) (op2 (Wy (var 3) (some (ret (.int 1))) none) (ret (.int 60)) fMulU) kg) noA))) noA)) kg) (jB false 12))
    (jn (wp false (op2 (var 12) (vD (jb (jj (jb (jj (jb (ret (.str [110, 101, 101, 100, 115])) (jb (jK (jb (var 10) noA) (Jq ad)) (jb (ret (.str [98])) (jb (jK (jb (ret (.int 1)) (jb (op2 (var 10) (ret (.int 1)) kg) noA)) (vI ad)) noA))))) (jb (var 11) noA))) noA)) kg) (jB false 12))
    (jn (wp false (op2 (var 12) (vD (jb (jj (jb (jj (jb (ret (.str [110, 101, 101, 100, 115])) (jb (jj (jb (jj (jb (ret (.str [113])) (jb (jj (jb (ret (.int 1)) (jb (ret (.int 2)) noA))) noA))) noA)) (jb (ret (.str [113])) (jb (jj (jb (ret (.int 1)) (jb (ret (.int 2)) noA))) noA))))) (jb (jj (jb (jj (jb (ret (.int 1)) (jb (ret (.int 2)) noA))) noA)) noA))) noA)) kg) (jB false 12))
    (jn (vL (op2 (km (jb (lcM (JT (var 12)) (KM (vd (jB false 15) (vd (jB false 13) KI))) (fun ρ => some (.ok (.bl true) .va ρ)) (jK (jb (var 15) (jb (var 13) noA)) (jC ad)) [15, 13]) noA) Kx) (km (jb (op2 (vD (jb (ret (.bl true)) noA)) (ret (.int 8)) vK) noA) Kx) fEq))
    kq))))))))))))))
def m__law_right (ad : String → Addr) : MC := KY 1 16 (b_m__law_right ad)
abbrev wJ : Stmt := top 47
abbrev n_m__law_right : List Str := ["urn", "f", "own", "moves_own", "sheets", "turn", "bad", "word", "number", "got", "n", "even", "good", "sheet", "k", "said"]
theorem sc_m__law_right : FnScope n_m__law_right ["urn"] (defScope wJ) := ⟨rfl, rfl, rfl, by decide +kernel, rfl, by decide +kernel, by decide +kernel⟩
theorem ok_m__law_right {f : Addr} {fd : FuncData} (Z : Fy K mg ad cs) (F : Fun K "_law_right" "_law_right" wJ f fd)
    (c_m_accepts_ck : Df P w K mg base "accepts" 9 (spM K (jC ad)))
    (c_m__law_low_v1 : Df P w K mg base "_law_low" 2 (spM K (vI ad)))
    (c_m__law_path : Df P w K mg base "_law_path" 1 (spM K (Jq ad)))
    (c_m__law_dip : Df P w K mg base "_law_dip" 1 (spC K (vh ad)))
    (k_m_accepts_ck_paper_claim : DfK P w K mg base "accepts" ["paper", "claim"] [1, 0] 9 (spM K (jC ad)))
    (c_m__law_bad_rows : Df P w K mg base "_law_bad_rows" 3 (spC K (wY ad)))
    (c_m__law_any : Df P w K mg base "_law_any" 2 (spC K (wF ad)))
    (c_m__law_none : Df P w K mg base "_law_none" 3 (spC K (Jo ad))) :
    FnG P w K mg base (L2.CX P w) 10 f fd ["urn"] (spC K (m__law_right ad)) := by
  show FnG P w K mg base (L2.CX P w) (9 + 1) f fd ["urn"] (spC K (KY (["urn"] : List Str).length n_m__law_right.length (b_m__law_right ad)))
  refine ok_defCG F sc_m__law_right fun cdv A outer s H E hr hG => ?_
  have nd := sc_m__law_right.nd
  have tk := takes_of (X := cxOf (L2.CX P w) P w K mg base n_m__law_right "_law_right" (defScope wJ) f cdv A outer s H E) rfl rfl rfl rfl
  exact (jf (wo false (i := 1) (jg (ja (jg (ja (ji (l := [97]) (by decide +kernel)) (ja (jg (ja (ji (l := [98]) (by decide +kernel)) (ja (ji (l := [99]) (by decide +kernel)) jc))) jc))) (ja (jg (ja (ji (l := [98]) (by decide +kernel)) (ja (jg (ja je (ja je jc))) jc))) (ja (jg (ja (ji (l := [99]) (by decide +kernel)) (ja (jg (ja je (ja je jc))) jc))) jc)))) nd rfl (by first | exact Or.inl rfl | exact Or.inr rfl))
    (jf (ss_asg false (jg (ja (jg (ja (jg (ja je (ja je jc))) (ja (jg (ja je (ja je jc))) (ja (jg (ja je (ja je jc))) jc)))) (ja (jg (ja (jg (ja (jg (ja je (ja je jc))) (ja (jg (ja je (ja je jc))) (ja (jg (ja je (ja je jc))) jc)))) (ja (jg (ja (jg (ja je (ja je jc))) (ja (jg (ja je (ja je jc))) (ja (jg (ja je (ja je jc))) jc)))) jc))) jc))) (Ks (wv (kh false nd (i := 2) rfl (by first | exact Or.inl rfl | exact Or.inr rfl) (by first | exact .inl rfl | exact .inr rfl)) (wv (kh false nd (i := 3) rfl (by first | exact Or.inl rfl | exact Or.inr rfl) (by first | exact .inl rfl | exact .inr rfl)) JU)) (ww (ww JV))))
    (jf (wo false (i := 4) (wt (ja (jd 2 rfl (by first | exact Or.inl rfl | exact Or.inr (Or.inl rfl) | exact Or.inr (Or.inr rfl))) (ja (jd 3 rfl (by first | exact Or.inl rfl | exact Or.inr (Or.inl rfl) | exact Or.inr (Or.inr rfl))) (ja (se_sliceE (jd 3 rfl (by first | exact Or.inl rfl | exact Or.inr (Or.inl rfl) | exact Or.inr (Or.inr rfl))) BdE.none (BdE.some je)) (ja (jg jc) (ja se_non (ja (jg (ja (jg (ja je (ja je jc))) jc)) (ja (jg (ja (jg (ja je (ja je jc))) jc)) (ja (jg (ja (jg (ja je (ja je jc))) (ja (jg (ja je (ja je jc))) jc))) (ja (jg (ja (jg (ja je (ja je jc))) jc)) jc)))))))))) nd rfl (by first | exact Or.inl rfl | exact Or.inr rfl))
    (jf (KN (passes_of rfl) (si_range1 Z.nm.range (ja je jc)) (kh false nd (i := 5) rfl (by first | exact Or.inl rfl | exact Or.inr rfl) (by first | exact .inl rfl | exact .inr rfl)) (jf (wo false (i := 6) (JY c_m__law_none (hr.mono (by decide)) tk (i := 0) rfl (by first | exact Or.inl rfl | exact Or.inr (Or.inl rfl) | exact Or.inr (Or.inr rfl)) (ja (jd 1 rfl (by first | exact Or.inl rfl | exact Or.inr (Or.inl rfl) | exact Or.inr (Or.inr rfl))) jc)) nd rfl (by first | exact Or.inl rfl | exact Or.inr rfl))
    (jf (JR (Kk (Ka hr.units) (JY c_m__law_dip (hr.mono (by decide)) tk (i := 0) rfl (by first | exact Or.inl rfl | exact Or.inr (Or.inl rfl) | exact Or.inr (Or.inr rfl)) (ja je jc)) je) (jf (ss_par (i := 7) (j := 8) (ja (JY c_m__law_any (hr.mono (by decide)) tk (i := 0) rfl (by first | exact Or.inl rfl | exact Or.inr (Or.inl rfl) | exact Or.inr (Or.inr rfl)) (ja (wt (ja (ji (l := [110, 101, 101, 100, 115]) (by decide +kernel)) (ja (ji (l := [97, 98, 111, 118, 101]) (by decide +kernel)) (ja (ji (l := [98, 101, 108, 111, 119]) (by decide +kernel)) jc)))) jc)) (ja (JY c_m__law_any (hr.mono (by decide)) tk (i := 0) rfl (by first | exact Or.inl rfl | exact Or.inr (Or.inl rfl) | exact Or.inr (Or.inr rfl)) (ja (wt (ja (jg (ja je (ja je jc))) (ja (jg (ja (se_neg je) (ja je jc))) (ja (jg (ja je (ja je jc))) jc)))) jc)) jc)) nd rfl rfl (by decide) rfl rfl)
    (jf (wo false (i := 6) (jg (ja (jd 7 rfl (by first | exact Or.inl rfl | exact Or.inr (Or.inl rfl) | exact Or.inr (Or.inr rfl))) (ja (JY c_m__law_bad_rows (hr.mono (by decide)) tk (i := 0) rfl (by first | exact Or.inl rfl | exact Or.inr (Or.inl rfl) | exact Or.inr (Or.inr rfl)) jc) (ja (ji (l := [97]) (by decide +kernel)) (ja (jd 8 rfl (by first | exact Or.inl rfl | exact Or.inr (Or.inl rfl) | exact Or.inr (Or.inr rfl))) jc))))) nd rfl (by first | exact Or.inl rfl | exact Or.inr rfl))
    jp)) jp)
    (jf (wo false (i := 9) (jE jA (Kv (own := [("sheet", 13)]) (U := [13]) nd (blkOk_by (N := n_m__law_right) (sc := defScope wJ) (by decide +kernel)) (Jm (jd 4 rfl (by first | exact Or.inl rfl | exact Or.inr (Or.inl rfl) | exact Or.inr (Or.inr rfl)))) (fun s0 H0 C cl fp => (kh false nd (i := 13) rfl (by first | exact Or.inl rfl | exact Or.inr rfl) (by first | exact .inl rfl | exact .inr rfl))) (fun s0 H0 C cl fp => rfl) (fun s0 H0 C cl fp => (jq c_m_accepts_ck (hr.mono (by decide)) Kd (ja (jd 6 rfl (by first | exact Or.inl rfl | exact Or.inr (Or.inl rfl) | exact Or.inr (Or.inr rfl))) (ja (jd 13 rfl (by first | exact Or.inl rfl | exact Or.inr (Or.inl rfl) | exact Or.inr (Or.inr rfl))) jc))))) (wt (ja (se_callK k_m_accepts_ck_paper_claim (hr.mono (by decide)) tk (sk_cons (jd 2 rfl (by first | exact Or.inl rfl | exact Or.inr (Or.inl rfl) | exact Or.inr (Or.inr rfl))) (sk_cons (jd 6 rfl (by first | exact Or.inl rfl | exact Or.inr (Or.inl rfl) | exact Or.inr (Or.inr rfl))) sk_nil))) jc))) nd rfl (by first | exact Or.inl rfl | exact Or.inr rfl))
    (jf (JR (Kk (bin_ne hr.units) (jD (fun h => eb_repr Z.nm.repr h) (cv_repr hG hr) (ja (jd 9 rfl (by first | exact Or.inl rfl | exact Or.inr (Or.inl rfl) | exact Or.inr (Or.inr rfl))) jc)) (jD (fun h => eb_repr Z.nm.repr h) (cv_repr hG hr) (ja (jE Jj (wt (ja JX jc)) je) jc))) (jf (kl JX)
    jp) jp)
    jp)))))
    (jf (wo false (i := 10) (jE jA je (JY c_m__law_dip (hr.mono (by decide)) tk (i := 0) rfl (by first | exact Or.inl rfl | exact Or.inr (Or.inl rfl) | exact Or.inr (Or.inr rfl)) (ja je jc))) nd rfl (by first | exact Or.inl rfl | exact Or.inr rfl))
    (jf (wo false (i := 11) (jD (fun h => eb_tuple Z.nm.tuple h) (cv_tuple) (ja (Kv (own := [("k", 14)]) (U := [14]) nd (blkOk_by (N := n_m__law_right) (sc := defScope wJ) (by decide +kernel)) (si_range1 Z.nm.range (ja (jE jA (jd 10 rfl (by first | exact Or.inl rfl | exact Or.inr (Or.inl rfl) | exact Or.inr (Or.inr rfl))) je) jc)) (fun s0 H0 C cl fp => (kh false nd (i := 14) rfl (by first | exact Or.inl rfl | exact Or.inr rfl) (by first | exact .inl rfl | exact .inr rfl))) (fun s0 H0 C cl fp => rfl) (fun s0 H0 C cl fp => (jq c_m__law_low_v1 (hr.mono (by decide)) Kd (ja (jd 14 rfl (by first | exact Or.inl rfl | exact Or.inr (Or.inl rfl) | exact Or.inr (Or.inr rfl))) (ja (jE jA (jd 10 rfl (by first | exact Or.inl rfl | exact Or.inr (Or.inl rfl) | exact Or.inr (Or.inr rfl))) je) jc))))) jc)) nd rfl (by first | exact Or.inl rfl | exact Or.inr rfl))
    (jf (wo false (i := 12) (wt (ja (jg (ja (jg (ja (ji (l := [110, 101, 101, 100, 115]) (by decide +kernel)) (ja (jd 1 rfl (by first | exact Or.inl rfl | exact Or.inr (Or.inl rfl) | exact Or.inr (Or.inr rfl))) (ja (ji (l := [97]) (by decide +kernel)) (ja (jg (ja je (ja je jc))) jc))))) (ja (jd 2 rfl (by first | exact Or.inl rfl | exact Or.inr (Or.inl rfl) | exact Or.inr (Or.inr rfl))) jc))) (ja (jg (ja (jg (ja (ji (l := [97, 98, 111, 118, 101]) (by decide +kernel)) (ja (jd 1 rfl (by first | exact Or.inl rfl | exact Or.inr (Or.inl rfl) | exact Or.inr (Or.inr rfl))) (ja (ji (l := [97]) (by decide +kernel)) (ja (jg (ja (se_neg je) (ja je jc))) jc))))) (ja (jd 2 rfl (by first | exact Or.inl rfl | exact Or.inr (Or.inl rfl) | exact Or.inr (Or.inr rfl))) jc))) jc))) nd rfl (by first | exact Or.inl rfl | exact Or.inr rfl))
    (jf (wo false (i := 12) (jE jA (jd 12 rfl (by first | exact Or.inl rfl | exact Or.inr (Or.inl rfl) | exact Or.inr (Or.inr rfl))) (wt (ja (jg (ja (jg (ja (ji (l := [98, 101, 108, 111, 119]) (by decide +kernel)) (ja (jd 1 rfl (by first | exact Or.inl rfl | exact Or.inr (Or.inl rfl) | exact Or.inr (Or.inr rfl))) (ja (ji (l := [97]) (by decide +kernel)) (ja (jg (ja je (ja je jc))) jc))))) (ja (jd 2 rfl (by first | exact Or.inl rfl | exact Or.inr (Or.inl rfl) | exact Or.inr (Or.inr rfl))) jc))) jc))) nd rfl (by first | exact Or.inl rfl | exact Or.inr rfl))
    (jf (wo false (i := 12) (jE jA (jd 12 rfl (by first | exact Or.inl rfl | exact Or.inr (Or.inl rfl) | exact Or.inr (Or.inr rfl))) (wt (ja (jg (ja (jg (ja (ji (l := [119, 105, 116, 104, 105, 110]) (by decide +kernel)) (ja (jd 1 rfl (by first | exact Or.inl rfl | exact Or.inr (Or.inl rfl) | exact Or.inr (Or.inr rfl))) (ja (ji (l := [97]) (by decide +kernel)) (ja je (ja (jg (ja je (ja je jc))) jc)))))) (ja (jd 3 rfl (by first | exact Or.inl rfl | exact Or.inr (Or.inl rfl) | exact Or.inr (Or.inr rfl))) jc))) jc))) nd rfl (by first | exact Or.inl rfl | exact Or.inr rfl))
    (jf (wo false (i := 12) (jE jA (jd 12 rfl (by first | exact Or.inl rfl | exact Or.inr (Or.inl rfl) | exact Or.inr (Or.inr rfl))) (wt (ja (jg (ja (jg (ja (ji (l := [115, 97, 102, 101]) (by decide +kernel)) (ja (jd 1 rfl (by first | exact Or.inl rfl | exact Or.inr (Or.inl rfl) | exact Or.inr (Or.inr rfl))) (ja (ji (l := [97]) (by decide +kernel)) (ja (jg (ja je (ja je jc))) (ja (jg (ja je (ja je jc))) (ja (ji (l := [98]) (by decide +kernel)) jc))))))) (ja (jd 2 rfl (by first | exact Or.inl rfl | exact Or.inr (Or.inl rfl) | exact Or.inr (Or.inr rfl))) jc))) jc))) nd rfl (by first | exact Or.inl rfl | exact Or.inr rfl))
    (jf (wo false (i := 12) (jE jA (jd 12 rfl (by first | exact Or.inl rfl | exact Or.inr (Or.inl rfl) | exact Or.inr (Or.inr rfl))) (wt (ja (jg (ja (jg (ja (ji (l := [119, 105, 116, 104, 105, 110]) (by decide +kernel)) (ja (jd 1 rfl (by first | exact Or.inl rfl | exact Or.inr (Or.inl rfl) | exact Or.inr (Or.inr rfl))) (ja (ji (l := [97]) (by decide +kernel)) (ja je (ja (jg (ja je (ja je jc))) jc)))))) (ja (jE jA (se_sliceE (jd 3 rfl (by first | exact Or.inl rfl | exact Or.inr (Or.inl rfl) | exact Or.inr (Or.inr rfl))) BdE.none (BdE.some je)) (jE bin_mulU (se_sliceE (jd 3 rfl (by first | exact Or.inl rfl | exact Or.inr (Or.inl rfl) | exact Or.inr (Or.inr rfl))) (BdE.some je) BdE.none) je)) jc))) jc))) nd rfl (by first | exact Or.inl rfl | exact Or.inr rfl))
    (jf (wo false (i := 12) (jE jA (jd 12 rfl (by first | exact Or.inl rfl | exact Or.inr (Or.inl rfl) | exact Or.inr (Or.inr rfl))) (wt (ja (jg (ja (jg (ja (ji (l := [110, 101, 101, 100, 115]) (by decide +kernel)) (ja (jq c_m__law_path (hr.mono (by decide)) tk (ja (jd 10 rfl (by first | exact Or.inl rfl | exact Or.inr (Or.inl rfl) | exact Or.inr (Or.inr rfl))) jc)) (ja (ji (l := [98]) (by decide +kernel)) (ja (jq c_m__law_low_v1 (hr.mono (by decide)) tk (ja je (ja (jE jA (jd 10 rfl (by first | exact Or.inl rfl | exact Or.inr (Or.inl rfl) | exact Or.inr (Or.inr rfl))) je) jc))) jc))))) (ja (jd 11 rfl (by first | exact Or.inl rfl | exact Or.inr (Or.inl rfl) | exact Or.inr (Or.inr rfl))) jc))) jc))) nd rfl (by first | exact Or.inl rfl | exact Or.inr rfl))
    (jf (wo false (i := 12) (jE jA (jd 12 rfl (by first | exact Or.inl rfl | exact Or.inr (Or.inl rfl) | exact Or.inr (Or.inr rfl))) (wt (ja (jg (ja (jg (ja (ji (l := [110, 101, 101, 100, 115]) (by decide +kernel)) (ja (jg (ja (jg (ja (ji (l := [113]) (by decide +kernel)) (ja (jg (ja je (ja je jc))) jc))) jc)) (ja (ji (l := [113]) (by decide +kernel)) (ja (jg (ja je (ja je jc))) jc))))) (ja (jg (ja (jg (ja je (ja je jc))) jc)) jc))) jc))) nd rfl (by first | exact Or.inl rfl | exact Or.inr rfl))
    (jf (kl (JQ (Ka hr.units) (jD (fun h => eb_repr Z.nm.repr h) (cv_repr hG hr) (ja (Kv (own := [("said", 15), ("sheet", 13)]) (U := [15, 13]) nd (blkOk_by (N := n_m__law_right) (sc := defScope wJ) (by decide +kernel)) (Jm (jd 12 rfl (by first | exact Or.inl rfl | exact Or.inr (Or.inl rfl) | exact Or.inr (Or.inr rfl)))) (fun s0 H0 C cl fp => (Ks (wv (kh false nd (i := 15) rfl (by first | exact Or.inl rfl | exact Or.inr rfl) (by first | exact .inl rfl | exact .inr rfl)) (wv (kh false nd (i := 13) rfl (by first | exact Or.inl rfl | exact Or.inr rfl) (by first | exact .inl rfl | exact .inr rfl)) JU)) (ww (ww JV)))) (fun s0 H0 C cl fp => rfl) (fun s0 H0 C cl fp => (jq c_m_accepts_ck (hr.mono (by decide)) Kd (ja (jd 15 rfl (by first | exact Or.inl rfl | exact Or.inr (Or.inl rfl) | exact Or.inr (Or.inr rfl))) (ja (jd 13 rfl (by first | exact Or.inl rfl | exact Or.inr (Or.inl rfl) | exact Or.inr (Or.inr rfl))) jc))))) jc)) (jD (fun h => eb_repr Z.nm.repr h) (cv_repr hG hr) (ja (jE Jj (wt (ja JX jc)) je) jc))))
    jp))))))))))))))
abbrev st_m__law_urn : Stmt := top 39
abbrev n_m__law_urn : List Str := ["script", "turn", "cell", "stirred", "each"]
theorem sc_m__law_urn : FnScope n_m__law_urn ["script", "turn"] (defScope st_m__law_urn) := ⟨rfl, rfl, rfl, by decide +kernel, rfl, by decide +kernel, by decide +kernel⟩
theorem ok_m__law_urn {f : Addr} {fd : FuncData} (Z : Fy K mg ad cs) (F : Fun K "_law_urn" "_law_urn" st_m__law_urn f fd) :
    FnOk P w K mg base (L2.CX P w) 1 f fd ["script", "turn"] (spM K (m__law_urn ad)) := by
  show FnOk P w K mg base (L2.CX P w) (0 + 1) f fd ["script", "turn"] (spM K (vH (["script", "turn"] : List Str).length n_m__law_urn.length (b_m__law_urn ad)))
  refine vF F sc_m__law_urn fun cdv A outer s H E hr => ?_
  have nd := sc_m__law_urn.nd
  have tk := takes_of (X := cxOf (L2.CX P w) P w K mg base n_m__law_urn "_law_urn" (defScope st_m__law_urn) f cdv A outer s H E) rfl rfl rfl rfl
  exact (jf (wo false (i := 2) (se_if (Kk bin_lt (jd 1 rfl (by first | exact Or.inl rfl | exact Or.inr (Or.inl rfl) | exact Or.inr (Or.inr rfl))) (jD (fun h => Ke Z.nm.len h) (Kh) (ja (jd 0 rfl (by first | exact Or.inl rfl | exact Or.inr (Or.inl rfl) | exact Or.inr (Or.inr rfl))) jc))) (wx (jd 0 rfl (by first | exact Or.inl rfl | exact Or.inr (Or.inl rfl) | exact Or.inr (Or.inr rfl))) (jd 1 rfl (by first | exact Or.inl rfl | exact Or.inr (Or.inl rfl) | exact Or.inr (Or.inr rfl)))) (jE Jj je (jE jA (jd 1 rfl (by first | exact Or.inl rfl | exact Or.inr (Or.inl rfl) | exact Or.inr (Or.inr rfl))) je))) nd rfl (by first | exact Or.inl rfl | exact Or.inr rfl))
    (jf (wo false (i := 3) (jE jA je (jE Jj je (jd 1 rfl (by first | exact Or.inl rfl | exact Or.inr (Or.inl rfl) | exact Or.inr (Or.inr rfl))))) nd rfl (by first | exact Or.inl rfl | exact Or.inr rfl))
    (jf (KN (passes_of rfl) (Jm (jE jA (se_sliceE (jd 0 rfl (by first | exact Or.inl rfl | exact Or.inr (Or.inl rfl) | exact Or.inr (Or.inr rfl))) BdE.none (BdE.some je)) (wt (ja (jd 2 rfl (by first | exact Or.inl rfl | exact Or.inr (Or.inl rfl) | exact Or.inr (Or.inr rfl))) jc)))) (kh false nd (i := 4) rfl (by first | exact Or.inl rfl | exact Or.inr rfl) (by first | exact .inl rfl | exact .inr rfl)) (jf (wo false (i := 3) (jE bin_mod (jD (fun h => eb_int Z.nm.int h) (cv_int) (ja (jE jA (jE jA (jE Jj (jd 3 rfl (by first | exact Or.inl rfl | exact Or.inr (Or.inl rfl) | exact Or.inr (Or.inr rfl))) je) (jE bin_mod (jD (fun h => eb_int Z.nm.int h) (cv_int) (ja (jd 4 rfl (by first | exact Or.inl rfl | exact Or.inr (Or.inl rfl) | exact Or.inr (Or.inr rfl))) jc)) je)) je) jc)) je) nd rfl (by first | exact Or.inl rfl | exact Or.inr rfl))
    jp))
    (jf (kl (wt (ja (se_if (WD (KH (Kk bin_lt (jd 2 rfl (by first | exact Or.inl rfl | exact Or.inr (Or.inl rfl) | exact Or.inr (Or.inr rfl))) je) (Kz (Kk bin_ge (jd 2 rfl (by first | exact Or.inl rfl | exact Or.inr (Or.inl rfl) | exact Or.inr (Or.inr rfl))) (jE bin_pow je je))))) (jD (fun h => eb_abs Z.nm.abs h) (cv_abs) (ja (jd 2 rfl (by first | exact Or.inl rfl | exact Or.inr (Or.inl rfl) | exact Or.inr (Or.inr rfl))) jc)) je) (ja (jd 3 rfl (by first | exact Or.inl rfl | exact Or.inr (Or.inl rfl) | exact Or.inr (Or.inr rfl))) jc))))
    jp))))
def b_m_law (ad : String → Addr) : MS := (jn (vL (km (jb (lcM (Wm (jb (km (jb (ret (.int 2)) (jb (km (jb (km (jb (var 0) noA) Kq) (jb (ret (.int 4)) noA)) KW) noA)) KS) noA)) (jB false 1) (fun ρ => some (.ok (.bl true) .va ρ)) (callT (jK (jb (var 0) (jb (var 1) noA)) (m__law_urn ad)) noA (m__law_right ad)) [1]) noA) KJ))
    kq)
def m_law (ad : String → Addr) : MF := vH 1 2 (b_m_law ad)
abbrev JF : Stmt := top 48
abbrev n_m_law : List Str := ["script", "k"]
theorem sc_m_law : FnScope n_m_law ["script"] (defScope JF) := ⟨rfl, rfl, rfl, by decide +kernel, rfl, by decide +kernel, by decide +kernel⟩
theorem ok_m_law {f : Addr} {fd : FuncData} (Z : Fy K mg ad cs) (F : Fun K "law" "law" JF f fd)
    (c_m__law_right : DfG P w K mg base "_law_right" 10 (spC K (m__law_right ad)))
    (c_m__law_urn : Df P w K mg base "_law_urn" 1 (spM K (m__law_urn ad))) :
    FnG P w K mg base (L2.CX P w) 11 f fd ["script"] (spM K (m_law ad)) := by
  show FnG P w K mg base (L2.CX P w) (10 + 1) f fd ["script"] (spM K (vH (["script"] : List Str).length n_m_law.length (b_m_law ad)))
  refine ok_defG F sc_m_law fun cdv A outer s H E hr hG => ?_
  have nd := sc_m_law.nd
  have tk := takes_of (X := cxOf (L2.CX P w) P w K mg base n_m_law "law" (defScope JF) f cdv A outer s H E) rfl rfl rfl rfl
  exact (jf (kl (jD (fun h => KC Z.nm.all h) (KF rfl) (ja (Kv (own := [("k", 1)]) (U := [1]) nd (blkOk_by (N := n_m_law) (sc := defScope JF) (by decide +kernel)) (si_range1 Z.nm.range (ja (jD (fun h => eb_max Z.nm.max h) (cv_max rfl) (ja je (ja (jD (fun h => eb_min Z.nm.min h) (cv_min rfl) (ja (jD (fun h => Ke Z.nm.len h) (Kh) (ja (jd 0 rfl (by first | exact Or.inl rfl | exact Or.inr (Or.inl rfl) | exact Or.inr (Or.inr rfl))) jc)) (ja je jc))) jc))) jc)) (fun s0 H0 C cl fp => (kh false nd (i := 1) rfl (by first | exact Or.inl rfl | exact Or.inr rfl) (by first | exact .inl rfl | exact .inr rfl))) (fun s0 H0 C cl fp => rfl) (fun s0 H0 C cl fp => (se_callTG hG c_m__law_right (hr.mono (by decide)) Kd (jq c_m__law_urn (hr.mono (by decide)) Kd (ja (jd 0 rfl (by first | exact Or.inl rfl | exact Or.inr (Or.inl rfl) | exact Or.inr (Or.inr rfl))) (ja (jd 1 rfl (by first | exact Or.inl rfl | exact Or.inr (Or.inl rfl) | exact Or.inr (Or.inr rfl))) jc))) jc))) jc)))
    jp)
end
end Tr
end F_G77
section F_Tg2
set_option Elab.async false
set_option maxRecDepth 100000
set_option linter.all false
namespace Tr
open PySem PySem.Spec PyProof.Rows L2 LamX Vf
open SX (S)
theorem pair_const {K : PySem.W.Frag} {a : Addr} {od : Option Addr} {sl : Array (Option Value)} {n : Nat} {s : Str} {t1 t2 : Tok} {k : Int} {l : List Nat} (hs : s = S l) (hl : K.lookup a = some ⟨.type "tuple", od, .seq #[.str s t1, .int k t2] n, sl⟩) (H : Hp) (A : Addr → Prop) : Rp K H A (.tpu [.str l, .int k]) (.ref a) := by
  subst hs
  refine .tpu (vs := [.str (S l), .int k]) (.inr ⟨_, _, _, hl, rfl, rfl, ?_, .cons ⟨t1, rfl⟩ (.cons ⟨t2, rfl⟩ .nil)⟩) (.cons (.str l) (.cons (.int k) .nil))
  have : 1000 ≤ sizeLine := by decide +kernel
  show 2 ≤ sizeLine
  omega
theorem gt_pairs {K : PySem.W.Frag} {mg : Str → Option Value} {x : Str} {a : Addr} {od : Option Addr} {sl : Array (Option Value)} {n : Nat} (as : List Addr) (ts : List T) (hz : as.length ≤ 1000) (hm : mg x = some (.ref a)) (hl : K.lookup a = some ⟨.type "tuple", od, .seq (as.map Value.ref).toArray n, sl⟩)
    (r : ∀ H A, Rps K H A ts (as.map V.ref)) : GT K mg x ts := by
  refine ⟨a, as.map V.ref, hm, fun H => .inr ⟨_, _, _, hl, rfl, rfl, ?_, ?_⟩, r⟩
  · have : 1000 ≤ sizeLine := by decide +kernel
    rw [List.size_toArray, List.length_map]; omega
  · have : ∀ l : List Addr, Vals (l.map V.ref) (l.map Value.ref) := by
      intro l
      induction l with
      | nil => exact .nil
      | cons a l ih => exact .cons rfl ih
    exact this as
end Tr
end F_Tg2
section F_D77
set_option Elab.async false
set_option maxRecDepth 1000000
set_option maxHeartbeats 8000000
set_option linter.all false
namespace Tr
open PySem PySem.Spec PyProof.Rows L2 LamX Vf
open SX (S)
def adOf (l : List (String × Addr)) (s : String) : Addr := (l.lookup s).getD 0
theorem all_mk {P : Program} {w : World} {K : PySem.W.Frag} {h : Heap} {mg : Str → Option Value} {fa : Addr} (X : K.In h) (G : h.Ns mainGlobals mg) (hfa : mg "law" = some (.ref fa))
    {tk_MOST_BOTTOM : Tok} {tk_MOST_PLACES : Tok} {tk_MOST_MOVES : Tok} {t__FORMS : Addr} {td__FORMS : Option Addr} {tn__FORMS : Nat} {ts__FORMS : Array (Option Value)} {tp0__FORMS tp1__FORMS tp2__FORMS tp3__FORMS tp4__FORMS : Addr} {tpd0__FORMS tpd1__FORMS tpd2__FORMS tpd3__FORMS tpd4__FORMS : Option Addr} {tpn0__FORMS tpn1__FORMS tpn2__FORMS tpn3__FORMS tpn4__FORMS : Nat} {tps0__FORMS tps1__FORMS tps2__FORMS tps3__FORMS tps4__FORMS : Array (Option Value)} {tk0__FORMS tl0__FORMS tk1__FORMS tl1__FORMS tk2__FORMS tl2__FORMS tk3__FORMS tl3__FORMS tk4__FORMS tl4__FORMS : Tok} {f_m__law_dip : Addr} {oc_m__law_dip kV_m__law_dip dc_m__law_dip pm_m__law_dip cd_m__law_dip ct_m__law_dip : Value} {od_m__law_dip an_m__law_dip : Option Addr} {sl_m__law_dip : Array (Option Value)} {f_m__law_any : Addr} {oc_m__law_any kV_m__law_any dc_m__law_any pm_m__law_any cd_m__law_any ct_m__law_any : Value} {od_m__law_any an_m__law_any : Option Addr} {sl_m__law_any : Array (Option Value)} {f_m__law_none : Addr} {oc_m__law_none kV_m__law_none dc_m__law_none pm_m__law_none cd_m__law_none ct_m__law_none : Value} {od_m__law_none an_m__law_none : Option Addr} {sl_m__law_none : Array (Option Value)} {f_m__law_shared : Addr} {oc_m__law_shared kV_m__law_shared dc_m__law_shared pm_m__law_shared cd_m__law_shared ct_m__law_shared : Value} {od_m__law_shared an_m__law_shared : Option Addr} {sl_m__law_shared : Array (Option Value)} {f_m__law_low_v1 : Addr} {oc_m__law_low_v1 kV_m__law_low_v1 dc_m__law_low_v1 pm_m__law_low_v1 cd_m__law_low_v1 ct_m__law_low_v1 : Value} {od_m__law_low_v1 an_m__law_low_v1 : Option Addr} {sl_m__law_low_v1 : Array (Option Value)} {f_m__law_bad_rows : Addr} {oc_m__law_bad_rows kV_m__law_bad_rows dc_m__law_bad_rows pm_m__law_bad_rows cd_m__law_bad_rows ct_m__law_bad_rows : Value} {od_m__law_bad_rows an_m__law_bad_rows : Option Addr} {sl_m__law_bad_rows : Array (Option Value)} {f_m_is_row : Addr} {oc_m_is_row kV_m_is_row dc_m_is_row pm_m_is_row cd_m_is_row ct_m_is_row : Value} {od_m_is_row an_m_is_row : Option Addr} {sl_m_is_row : Array (Option Value)} {f_m_is_integer : Addr} {oc_m_is_integer kV_m_is_integer dc_m_is_integer pm_m_is_integer cd_m_is_integer ct_m_is_integer : Value} {od_m_is_integer an_m_is_integer : Option Addr} {sl_m_is_integer : Array (Option Value)} {f_m_is_fraction : Addr} {oc_m_is_fraction kV_m_is_fraction dc_m_is_fraction pm_m_is_fraction cd_m_is_fraction ct_m_is_fraction : Value} {od_m_is_fraction an_m_is_fraction : Option Addr} {sl_m_is_fraction : Array (Option Value)} {f_m_is_string : Addr} {oc_m_is_string kV_m_is_string dc_m_is_string pm_m_is_string cd_m_is_string ct_m_is_string : Value} {od_m_is_string an_m_is_string : Option Addr} {sl_m_is_string : Array (Option Value)} {f_m_is_one_of : Addr} {oc_m_is_one_of kV_m_is_one_of dc_m_is_one_of pm_m_is_one_of cd_m_is_one_of ct_m_is_one_of : Value} {od_m_is_one_of an_m_is_one_of : Option Addr} {sl_m_is_one_of : Array (Option Value)} {f_m_has_form_ck : Addr} {oc_m_has_form_ck kV_m_has_form_ck dc_m_has_form_ck pm_m_has_form_ck cd_m_has_form_ck ct_m_has_form_ck : Value} {od_m_has_form_ck an_m_has_form_ck : Option Addr} {sl_m_has_form_ck : Array (Option Value)} {f_m_is_ascending : Addr} {oc_m_is_ascending kV_m_is_ascending dc_m_is_ascending pm_m_is_ascending cd_m_is_ascending ct_m_is_ascending : Value} {od_m_is_ascending an_m_is_ascending : Option Addr} {sl_m_is_ascending : Array (Option Value)} {f_m_is_share : Addr} {oc_m_is_share kV_m_is_share dc_m_is_share pm_m_is_share cd_m_is_share ct_m_is_share : Value} {od_m_is_share an_m_is_share : Option Addr} {sl_m_is_share : Array (Option Value)} {f_m_is_part : Addr} {oc_m_is_part kV_m_is_part dc_m_is_part pm_m_is_part cd_m_is_part ct_m_is_part : Value} {od_m_is_part an_m_is_part : Option Addr} {sl_m_is_part : Array (Option Value)} {f_m_arrows_of : Addr} {oc_m_arrows_of kV_m_arrows_of dc_m_arrows_of pm_m_arrows_of cd_m_arrows_of ct_m_arrows_of : Value} {od_m_arrows_of an_m_arrows_of : Option Addr} {sl_m_arrows_of : Array (Option Value)} {f_m_first_stuck : Addr} {oc_m_first_stuck kV_m_first_stuck dc_m_first_stuck pm_m_first_stuck cd_m_first_stuck ct_m_first_stuck : Value} {od_m_first_stuck an_m_first_stuck : Option Addr} {sl_m_first_stuck : Array (Option Value)} {f_m_is_letter : Addr} {oc_m_is_letter kV_m_is_letter dc_m_is_letter pm_m_is_letter cd_m_is_letter ct_m_is_letter : Value} {od_m_is_letter an_m_is_letter : Option Addr} {sl_m_is_letter : Array (Option Value)} {f_m_is_arrows : Addr} {oc_m_is_arrows kV_m_is_arrows dc_m_is_arrows pm_m_is_arrows cd_m_is_arrows ct_m_is_arrows : Value} {od_m_is_arrows an_m_is_arrows : Option Addr} {sl_m_is_arrows : Array (Option Value)} {f_m_is_pair : Addr} {oc_m_is_pair kV_m_is_pair dc_m_is_pair pm_m_is_pair cd_m_is_pair ct_m_is_pair : Value} {od_m_is_pair an_m_is_pair : Option Addr} {sl_m_is_pair : Array (Option Value)} {f_m_are_rows : Addr} {oc_m_are_rows kV_m_are_rows dc_m_are_rows pm_m_are_rows cd_m_are_rows ct_m_are_rows : Value} {od_m_are_rows an_m_are_rows : Option Addr} {sl_m_are_rows : Array (Option Value)} {f_m_is_moves : Addr} {oc_m_is_moves kV_m_is_moves dc_m_is_moves pm_m_is_moves cd_m_is_moves ct_m_is_moves : Value} {od_m_is_moves an_m_is_moves : Option Addr} {sl_m_is_moves : Array (Option Value)} {f_m_is_checker_claim_ck : Addr} {oc_m_is_checker_claim_ck kV_m_is_checker_claim_ck dc_m_is_checker_claim_ck pm_m_is_checker_claim_ck cd_m_is_checker_claim_ck ct_m_is_checker_claim_ck : Value} {od_m_is_checker_claim_ck an_m_is_checker_claim_ck : Option Addr} {sl_m_is_checker_claim_ck : Array (Option Value)} {f_m_is_table : Addr} {oc_m_is_table kV_m_is_table dc_m_is_table pm_m_is_table cd_m_is_table ct_m_is_table : Value} {od_m_is_table an_m_is_table : Option Addr} {sl_m_is_table : Array (Option Value)} {f_m_numbers_of_ck : Addr} {oc_m_numbers_of_ck kV_m_numbers_of_ck dc_m_numbers_of_ck pm_m_numbers_of_ck cd_m_numbers_of_ck ct_m_numbers_of_ck : Value} {od_m_numbers_of_ck an_m_numbers_of_ck : Option Addr} {sl_m_numbers_of_ck : Array (Option Value)} {f_m_lowest : Addr} {oc_m_lowest kV_m_lowest dc_m_lowest pm_m_lowest cd_m_lowest ct_m_lowest : Value} {od_m_lowest an_m_lowest : Option Addr} {sl_m_lowest : Array (Option Value)} {f_m_middle : Addr} {oc_m_middle kV_m_middle dc_m_middle pm_m_middle cd_m_middle ct_m_middle : Value} {od_m_middle an_m_middle : Option Addr} {sl_m_middle : Array (Option Value)} {f_m_follows_ck : Addr} {oc_m_follows_ck kV_m_follows_ck dc_m_follows_ck pm_m_follows_ck cd_m_follows_ck ct_m_follows_ck : Value} {od_m_follows_ck an_m_follows_ck : Option Addr} {sl_m_follows_ck : Array (Option Value)} {f_m_are_needs_ck : Addr} {oc_m_are_needs_ck kV_m_are_needs_ck dc_m_are_needs_ck pm_m_are_needs_ck cd_m_are_needs_ck ct_m_are_needs_ck : Value} {od_m_are_needs_ck an_m_are_needs_ck : Option Addr} {sl_m_are_needs_ck : Array (Option Value)} {f_m_is_below : Addr} {oc_m_is_below kV_m_is_below dc_m_is_below pm_m_is_below cd_m_is_below ct_m_is_below : Value} {od_m_is_below an_m_is_below : Option Addr} {sl_m_is_below : Array (Option Value)} {f_m_difference : Addr} {oc_m_difference kV_m_difference dc_m_difference pm_m_difference cd_m_difference ct_m_difference : Value} {od_m_difference an_m_difference : Option Addr} {sl_m_difference : Array (Option Value)} {f_m_total : Addr} {oc_m_total kV_m_total dc_m_total pm_m_total cd_m_total ct_m_total : Value} {od_m_total an_m_total : Option Addr} {sl_m_total : Array (Option Value)} {f_m_keeps_the_win : Addr} {oc_m_keeps_the_win kV_m_keeps_the_win dc_m_keeps_the_win pm_m_keeps_the_win cd_m_keeps_the_win ct_m_keeps_the_win : Value} {od_m_keeps_the_win an_m_keeps_the_win : Option Addr} {sl_m_keeps_the_win : Array (Option Value)} {f_m_is_true : Addr} {oc_m_is_true kV_m_is_true dc_m_is_true pm_m_is_true cd_m_is_true ct_m_is_true : Value} {od_m_is_true an_m_is_true : Option Addr} {sl_m_is_true : Array (Option Value)} {f_m_are_needs_within_ck : Addr} {oc_m_are_needs_within_ck kV_m_are_needs_within_ck dc_m_are_needs_within_ck pm_m_are_needs_within_ck cd_m_are_needs_within_ck ct_m_are_needs_within_ck : Value} {od_m_are_needs_within_ck an_m_are_needs_within_ck : Option Addr} {sl_m_are_needs_within_ck : Array (Option Value)} {f_m_accepts_ck : Addr} {oc_m_accepts_ck kV_m_accepts_ck dc_m_accepts_ck pm_m_accepts_ck cd_m_accepts_ck ct_m_accepts_ck : Value} {od_m_accepts_ck an_m_accepts_ck : Option Addr} {sl_m_accepts_ck : Array (Option Value)} {f_m__law_path : Addr} {oc_m__law_path kV_m__law_path dc_m__law_path pm_m__law_path cd_m__law_path ct_m__law_path : Value} {od_m__law_path an_m__law_path : Option Addr} {sl_m__law_path : Array (Option Value)} {f_m__law_right : Addr} {oc_m__law_right kV_m__law_right dc_m__law_right pm_m__law_right cd_m__law_right ct_m__law_right : Value} {od_m__law_right an_m__law_right : Option Addr} {sl_m__law_right : Array (Option Value)} {f_m__law_urn : Addr} {oc_m__law_urn kV_m__law_urn dc_m__law_urn pm_m__law_urn cd_m__law_urn ct_m__law_urn : Value} {od_m__law_urn an_m__law_urn : Option Addr} {sl_m__law_urn : Array (Option Value)} {f_m_law : Addr} {oc_m_law kV_m_law dc_m_law pm_m_law cd_m_law ct_m_law : Value} {od_m_law an_m_law : Option Addr} {sl_m_law : Array (Option Value)}
    (z_int : PySem.W.nsIn K mainGlobals "int" = some none)
    (z_len : PySem.W.nsIn K mainGlobals "len" = some none)
    (z_abs : PySem.W.nsIn K mainGlobals "abs" = some none)
    (z_divmod : PySem.W.nsIn K mainGlobals "divmod" = some none)
    (z_range : PySem.W.nsIn K mainGlobals "range" = some none)
    (z_sorted : PySem.W.nsIn K mainGlobals "sorted" = some none)
    (z_set : PySem.W.nsIn K mainGlobals "set" = some none)
    (z_tuple : PySem.W.nsIn K mainGlobals "tuple" = some none)
    (z_list : PySem.W.nsIn K mainGlobals "list" = some none)
    (z_type : PySem.W.nsIn K mainGlobals "type" = some none)
    (z_str : PySem.W.nsIn K mainGlobals "str" = some none)
    (z_all : PySem.W.nsIn K mainGlobals "all" = some none)
    (Wp : PySem.W.nsIn K mainGlobals "any" = some none)
    (z_max : PySem.W.nsIn K mainGlobals "max" = some none)
    (z_min : PySem.W.nsIn K mainGlobals "min" = some none)
    (z_sum : PySem.W.nsIn K mainGlobals "sum" = some none)
    (z_repr : PySem.W.nsIn K mainGlobals "repr" = some none)
    (z_isinstance : PySem.W.nsIn K mainGlobals "isinstance" = some none)
    (z_dict : PySem.W.nsIn K mainGlobals "dict" = some none)
    (z_bool : PySem.W.nsIn K mainGlobals "bool" = some none)
    (z_zip : PySem.W.nsIn K mainGlobals "zip" = some none)
    (z_enumerate : PySem.W.nsIn K mainGlobals "enumerate" = some none)
    (z_gcd : PySem.W.nsIn K mainGlobals "gcd" = some (some (.builtin "math.gcd")))
    (z_lcm : PySem.W.nsIn K mainGlobals "lcm" = some (some (.builtin "math.lcm")))
    (g_MOST_BOTTOM : PySem.W.nsIn K mainGlobals "MOST_BOTTOM" = some (some (.int (1000000000000) tk_MOST_BOTTOM)))
    (g_MOST_PLACES : PySem.W.nsIn K mainGlobals "MOST_PLACES" = some (some (.int (10) tk_MOST_PLACES)))
    (g_MOST_MOVES : PySem.W.nsIn K mainGlobals "MOST_MOVES" = some (some (.int (60) tk_MOST_MOVES)))
    (g__FORMS : PySem.W.nsIn K mainGlobals "_FORMS" = some (some (.ref t__FORMS)))
    (gl__FORMS : K.lookup t__FORMS = some ⟨.type "tuple", td__FORMS, .seq #[.ref tp0__FORMS, .ref tp1__FORMS, .ref tp2__FORMS, .ref tp3__FORMS, .ref tp4__FORMS] tn__FORMS, ts__FORMS⟩)
    (gp0__FORMS : K.lookup tp0__FORMS = some ⟨.type "tuple", tpd0__FORMS, .seq #[.str "needs" tk0__FORMS, .int 4 tl0__FORMS] tpn0__FORMS, tps0__FORMS⟩)
    (gp1__FORMS : K.lookup tp1__FORMS = some ⟨.type "tuple", tpd1__FORMS, .seq #[.str "above" tk1__FORMS, .int 4 tl1__FORMS] tpn1__FORMS, tps1__FORMS⟩)
    (gp2__FORMS : K.lookup tp2__FORMS = some ⟨.type "tuple", tpd2__FORMS, .seq #[.str "below" tk2__FORMS, .int 4 tl2__FORMS] tpn2__FORMS, tps2__FORMS⟩)
    (gp3__FORMS : K.lookup tp3__FORMS = some ⟨.type "tuple", tpd3__FORMS, .seq #[.str "within" tk3__FORMS, .int 5 tl3__FORMS] tpn3__FORMS, tps3__FORMS⟩)
    (gp4__FORMS : K.lookup tp4__FORMS = some ⟨.type "tuple", tpd4__FORMS, .seq #[.str "safe" tk4__FORMS, .int 6 tl4__FORMS] tpn4__FORMS, tps4__FORMS⟩)
    (a_m__law_dip : PySem.W.nsIn K mainGlobals "_law_dip" = some (some (.ref f_m__law_dip)))
    (l_m__law_dip : K.lookup f_m__law_dip = some ⟨oc_m__law_dip, od_m__law_dip, .func (PySem.W.fnOf "_law_dip" "_law_dip" (defArgs st_m__law_dip) (defBody st_m__law_dip) (defScope st_m__law_dip) .none kV_m__law_dip dc_m__law_dip pm_m__law_dip an_m__law_dip cd_m__law_dip ct_m__law_dip), sl_m__law_dip⟩)
    (c_m__law_dip : PySem.W.codeIn K cd_m__law_dip "_law_dip" = true)
    (k_m__law_dip : PySem.W.keepIn K (.ref f_m__law_dip) = true)
    (a_m__law_any : PySem.W.nsIn K mainGlobals "_law_any" = some (some (.ref f_m__law_any)))
    (l_m__law_any : K.lookup f_m__law_any = some ⟨oc_m__law_any, od_m__law_any, .func (PySem.W.fnOf "_law_any" "_law_any" (defArgs st_m__law_any) (defBody st_m__law_any) (defScope st_m__law_any) .none kV_m__law_any dc_m__law_any pm_m__law_any an_m__law_any cd_m__law_any ct_m__law_any), sl_m__law_any⟩)
    (c_m__law_any : PySem.W.codeIn K cd_m__law_any "_law_any" = true)
    (k_m__law_any : PySem.W.keepIn K (.ref f_m__law_any) = true)
    (a_m__law_none : PySem.W.nsIn K mainGlobals "_law_none" = some (some (.ref f_m__law_none)))
    (l_m__law_none : K.lookup f_m__law_none = some ⟨oc_m__law_none, od_m__law_none, .func (PySem.W.fnOf "_law_none" "_law_none" (defArgs st_m__law_none) (defBody st_m__law_none) (defScope st_m__law_none) .none kV_m__law_none dc_m__law_none pm_m__law_none an_m__law_none cd_m__law_none ct_m__law_none), sl_m__law_none⟩)
    (c_m__law_none : PySem.W.codeIn K cd_m__law_none "_law_none" = true)
    (k_m__law_none : PySem.W.keepIn K (.ref f_m__law_none) = true)
    (a_m__law_shared : PySem.W.nsIn K mainGlobals "_law_shared" = some (some (.ref f_m__law_shared)))
    (l_m__law_shared : K.lookup f_m__law_shared = some ⟨oc_m__law_shared, od_m__law_shared, .func (PySem.W.fnOf "_law_shared" "_law_shared" (defArgs st_m__law_shared) (defBody st_m__law_shared) (defScope st_m__law_shared) .none kV_m__law_shared dc_m__law_shared pm_m__law_shared an_m__law_shared cd_m__law_shared ct_m__law_shared), sl_m__law_shared⟩)
    (c_m__law_shared : PySem.W.codeIn K cd_m__law_shared "_law_shared" = true)
    (k_m__law_shared : PySem.W.keepIn K (.ref f_m__law_shared) = true)
    (a_m__law_low_v1 : PySem.W.nsIn K mainGlobals "_law_low" = some (some (.ref f_m__law_low_v1)))
    (l_m__law_low_v1 : K.lookup f_m__law_low_v1 = some ⟨oc_m__law_low_v1, od_m__law_low_v1, .func (PySem.W.fnOf "_law_low" "_law_low" (defArgs st_m__law_low_v1) (defBody st_m__law_low_v1) (defScope st_m__law_low_v1) .none kV_m__law_low_v1 dc_m__law_low_v1 pm_m__law_low_v1 an_m__law_low_v1 cd_m__law_low_v1 ct_m__law_low_v1), sl_m__law_low_v1⟩)
    (c_m__law_low_v1 : PySem.W.codeIn K cd_m__law_low_v1 "_law_low" = true)
    (k_m__law_low_v1 : PySem.W.keepIn K (.ref f_m__law_low_v1) = true)
    (a_m__law_bad_rows : PySem.W.nsIn K mainGlobals "_law_bad_rows" = some (some (.ref f_m__law_bad_rows)))
    (l_m__law_bad_rows : K.lookup f_m__law_bad_rows = some ⟨oc_m__law_bad_rows, od_m__law_bad_rows, .func (PySem.W.fnOf "_law_bad_rows" "_law_bad_rows" (defArgs wz) (defBody wz) (defScope wz) .none kV_m__law_bad_rows dc_m__law_bad_rows pm_m__law_bad_rows an_m__law_bad_rows cd_m__law_bad_rows ct_m__law_bad_rows), sl_m__law_bad_rows⟩)
    (c_m__law_bad_rows : PySem.W.codeIn K cd_m__law_bad_rows "_law_bad_rows" = true)
    (k_m__law_bad_rows : PySem.W.keepIn K (.ref f_m__law_bad_rows) = true)
    (a_m_is_row : PySem.W.nsIn K mainGlobals "is_row" = some (some (.ref f_m_is_row)))
    (l_m_is_row : K.lookup f_m_is_row = some ⟨oc_m_is_row, od_m_is_row, .func (PySem.W.fnOf "is_row" "is_row" (defArgs st_m_is_row) (defBody st_m_is_row) (defScope st_m_is_row) .none kV_m_is_row dc_m_is_row pm_m_is_row an_m_is_row cd_m_is_row ct_m_is_row), sl_m_is_row⟩)
    (c_m_is_row : PySem.W.codeIn K cd_m_is_row "is_row" = true)
    (k_m_is_row : PySem.W.keepIn K (.ref f_m_is_row) = true)
    (a_m_is_integer : PySem.W.nsIn K mainGlobals "is_integer" = some (some (.ref f_m_is_integer)))
    (l_m_is_integer : K.lookup f_m_is_integer = some ⟨oc_m_is_integer, od_m_is_integer, .func (PySem.W.fnOf "is_integer" "is_integer" (defArgs st_m_is_integer) (defBody st_m_is_integer) (defScope st_m_is_integer) .none kV_m_is_integer dc_m_is_integer pm_m_is_integer an_m_is_integer cd_m_is_integer ct_m_is_integer), sl_m_is_integer⟩)
    (c_m_is_integer : PySem.W.codeIn K cd_m_is_integer "is_integer" = true)
    (k_m_is_integer : PySem.W.keepIn K (.ref f_m_is_integer) = true)
    (a_m_is_fraction : PySem.W.nsIn K mainGlobals "is_fraction" = some (some (.ref f_m_is_fraction)))
    (l_m_is_fraction : K.lookup f_m_is_fraction = some ⟨oc_m_is_fraction, od_m_is_fraction, .func (PySem.W.fnOf "is_fraction" "is_fraction" (defArgs st_m_is_fraction) (defBody st_m_is_fraction) (defScope st_m_is_fraction) .none kV_m_is_fraction dc_m_is_fraction pm_m_is_fraction an_m_is_fraction cd_m_is_fraction ct_m_is_fraction), sl_m_is_fraction⟩)
    (c_m_is_fraction : PySem.W.codeIn K cd_m_is_fraction "is_fraction" = true)
    (k_m_is_fraction : PySem.W.keepIn K (.ref f_m_is_fraction) = true)
    (a_m_is_string : PySem.W.nsIn K mainGlobals "is_string" = some (some (.ref f_m_is_string)))
    (l_m_is_string : K.lookup f_m_is_string = some ⟨oc_m_is_string, od_m_is_string, .func (PySem.W.fnOf "is_string" "is_string" (defArgs st_m_is_string) (defBody st_m_is_string) (defScope st_m_is_string) .none kV_m_is_string dc_m_is_string pm_m_is_string an_m_is_string cd_m_is_string ct_m_is_string), sl_m_is_string⟩)
    (c_m_is_string : PySem.W.codeIn K cd_m_is_string "is_string" = true)
    (k_m_is_string : PySem.W.keepIn K (.ref f_m_is_string) = true)
    (a_m_is_one_of : PySem.W.nsIn K mainGlobals "is_one_of" = some (some (.ref f_m_is_one_of)))
    (l_m_is_one_of : K.lookup f_m_is_one_of = some ⟨oc_m_is_one_of, od_m_is_one_of, .func (PySem.W.fnOf "is_one_of" "is_one_of" (defArgs st_m_is_one_of) (defBody st_m_is_one_of) (defScope st_m_is_one_of) .none kV_m_is_one_of dc_m_is_one_of pm_m_is_one_of an_m_is_one_of cd_m_is_one_of ct_m_is_one_of), sl_m_is_one_of⟩)
    (c_m_is_one_of : PySem.W.codeIn K cd_m_is_one_of "is_one_of" = true)
    (k_m_is_one_of : PySem.W.keepIn K (.ref f_m_is_one_of) = true)
    (a_m_has_form_ck : PySem.W.nsIn K mainGlobals "has_form" = some (some (.ref f_m_has_form_ck)))
    (l_m_has_form_ck : K.lookup f_m_has_form_ck = some ⟨oc_m_has_form_ck, od_m_has_form_ck, .func (PySem.W.fnOf "has_form" "has_form" (defArgs st_m_has_form_ck) (defBody st_m_has_form_ck) (defScope st_m_has_form_ck) .none kV_m_has_form_ck dc_m_has_form_ck pm_m_has_form_ck an_m_has_form_ck cd_m_has_form_ck ct_m_has_form_ck), sl_m_has_form_ck⟩)
    (c_m_has_form_ck : PySem.W.codeIn K cd_m_has_form_ck "has_form" = true)
    (k_m_has_form_ck : PySem.W.keepIn K (.ref f_m_has_form_ck) = true)
    (a_m_is_ascending : PySem.W.nsIn K mainGlobals "is_ascending" = some (some (.ref f_m_is_ascending)))
    (l_m_is_ascending : K.lookup f_m_is_ascending = some ⟨oc_m_is_ascending, od_m_is_ascending, .func (PySem.W.fnOf "is_ascending" "is_ascending" (defArgs wR) (defBody wR) (defScope wR) .none kV_m_is_ascending dc_m_is_ascending pm_m_is_ascending an_m_is_ascending cd_m_is_ascending ct_m_is_ascending), sl_m_is_ascending⟩)
    (c_m_is_ascending : PySem.W.codeIn K cd_m_is_ascending "is_ascending" = true)
    (k_m_is_ascending : PySem.W.keepIn K (.ref f_m_is_ascending) = true)
    (a_m_is_share : PySem.W.nsIn K mainGlobals "is_share" = some (some (.ref f_m_is_share)))
    (l_m_is_share : K.lookup f_m_is_share = some ⟨oc_m_is_share, od_m_is_share, .func (PySem.W.fnOf "is_share" "is_share" (defArgs st_m_is_share) (defBody st_m_is_share) (defScope st_m_is_share) .none kV_m_is_share dc_m_is_share pm_m_is_share an_m_is_share cd_m_is_share ct_m_is_share), sl_m_is_share⟩)
    (c_m_is_share : PySem.W.codeIn K cd_m_is_share "is_share" = true)
    (k_m_is_share : PySem.W.keepIn K (.ref f_m_is_share) = true)
    (a_m_is_part : PySem.W.nsIn K mainGlobals "is_part" = some (some (.ref f_m_is_part)))
    (l_m_is_part : K.lookup f_m_is_part = some ⟨oc_m_is_part, od_m_is_part, .func (PySem.W.fnOf "is_part" "is_part" (defArgs st_m_is_part) (defBody st_m_is_part) (defScope st_m_is_part) .none kV_m_is_part dc_m_is_part pm_m_is_part an_m_is_part cd_m_is_part ct_m_is_part), sl_m_is_part⟩)
    (c_m_is_part : PySem.W.codeIn K cd_m_is_part "is_part" = true)
    (k_m_is_part : PySem.W.keepIn K (.ref f_m_is_part) = true)
    (a_m_arrows_of : PySem.W.nsIn K mainGlobals "arrows_of" = some (some (.ref f_m_arrows_of)))
    (l_m_arrows_of : K.lookup f_m_arrows_of = some ⟨oc_m_arrows_of, od_m_arrows_of, .func (PySem.W.fnOf "arrows_of" "arrows_of" (defArgs st_m_arrows_of) (defBody st_m_arrows_of) (defScope st_m_arrows_of) .none kV_m_arrows_of dc_m_arrows_of pm_m_arrows_of an_m_arrows_of cd_m_arrows_of ct_m_arrows_of), sl_m_arrows_of⟩)
    (c_m_arrows_of : PySem.W.codeIn K cd_m_arrows_of "arrows_of" = true)
    (k_m_arrows_of : PySem.W.keepIn K (.ref f_m_arrows_of) = true)
    (a_m_first_stuck : PySem.W.nsIn K mainGlobals "first_stuck" = some (some (.ref f_m_first_stuck)))
    (l_m_first_stuck : K.lookup f_m_first_stuck = some ⟨oc_m_first_stuck, od_m_first_stuck, .func (PySem.W.fnOf "first_stuck" "first_stuck" (defArgs wM) (defBody wM) (defScope wM) .none kV_m_first_stuck dc_m_first_stuck pm_m_first_stuck an_m_first_stuck cd_m_first_stuck ct_m_first_stuck), sl_m_first_stuck⟩)
    (c_m_first_stuck : PySem.W.codeIn K cd_m_first_stuck "first_stuck" = true)
    (k_m_first_stuck : PySem.W.keepIn K (.ref f_m_first_stuck) = true)
    (a_m_is_letter : PySem.W.nsIn K mainGlobals "is_letter" = some (some (.ref f_m_is_letter)))
    (l_m_is_letter : K.lookup f_m_is_letter = some ⟨oc_m_is_letter, od_m_is_letter, .func (PySem.W.fnOf "is_letter" "is_letter" (defArgs st_m_is_letter) (defBody st_m_is_letter) (defScope st_m_is_letter) .none kV_m_is_letter dc_m_is_letter pm_m_is_letter an_m_is_letter cd_m_is_letter ct_m_is_letter), sl_m_is_letter⟩)
    (c_m_is_letter : PySem.W.codeIn K cd_m_is_letter "is_letter" = true)
    (k_m_is_letter : PySem.W.keepIn K (.ref f_m_is_letter) = true)
    (a_m_is_arrows : PySem.W.nsIn K mainGlobals "is_arrows" = some (some (.ref f_m_is_arrows)))
    (l_m_is_arrows : K.lookup f_m_is_arrows = some ⟨oc_m_is_arrows, od_m_is_arrows, .func (PySem.W.fnOf "is_arrows" "is_arrows" (defArgs vJ) (defBody vJ) (defScope vJ) .none kV_m_is_arrows dc_m_is_arrows pm_m_is_arrows an_m_is_arrows cd_m_is_arrows ct_m_is_arrows), sl_m_is_arrows⟩)
    (c_m_is_arrows : PySem.W.codeIn K cd_m_is_arrows "is_arrows" = true)
    (k_m_is_arrows : PySem.W.keepIn K (.ref f_m_is_arrows) = true)
    (a_m_is_pair : PySem.W.nsIn K mainGlobals "is_pair" = some (some (.ref f_m_is_pair)))
    (l_m_is_pair : K.lookup f_m_is_pair = some ⟨oc_m_is_pair, od_m_is_pair, .func (PySem.W.fnOf "is_pair" "is_pair" (defArgs st_m_is_pair) (defBody st_m_is_pair) (defScope st_m_is_pair) .none kV_m_is_pair dc_m_is_pair pm_m_is_pair an_m_is_pair cd_m_is_pair ct_m_is_pair), sl_m_is_pair⟩)
    (c_m_is_pair : PySem.W.codeIn K cd_m_is_pair "is_pair" = true)
    (k_m_is_pair : PySem.W.keepIn K (.ref f_m_is_pair) = true)
    (a_m_are_rows : PySem.W.nsIn K mainGlobals "are_rows" = some (some (.ref f_m_are_rows)))
    (l_m_are_rows : K.lookup f_m_are_rows = some ⟨oc_m_are_rows, od_m_are_rows, .func (PySem.W.fnOf "are_rows" "are_rows" (defArgs wZ) (defBody wZ) (defScope wZ) .none kV_m_are_rows dc_m_are_rows pm_m_are_rows an_m_are_rows cd_m_are_rows ct_m_are_rows), sl_m_are_rows⟩)
    (c_m_are_rows : PySem.W.codeIn K cd_m_are_rows "are_rows" = true)
    (k_m_are_rows : PySem.W.keepIn K (.ref f_m_are_rows) = true)
    (a_m_is_moves : PySem.W.nsIn K mainGlobals "is_moves" = some (some (.ref f_m_is_moves)))
    (l_m_is_moves : K.lookup f_m_is_moves = some ⟨oc_m_is_moves, od_m_is_moves, .func (PySem.W.fnOf "is_moves" "is_moves" (defArgs st_m_is_moves) (defBody st_m_is_moves) (defScope st_m_is_moves) .none kV_m_is_moves dc_m_is_moves pm_m_is_moves an_m_is_moves cd_m_is_moves ct_m_is_moves), sl_m_is_moves⟩)
    (c_m_is_moves : PySem.W.codeIn K cd_m_is_moves "is_moves" = true)
    (k_m_is_moves : PySem.W.keepIn K (.ref f_m_is_moves) = true)
    (a_m_is_checker_claim_ck : PySem.W.nsIn K mainGlobals "is_checker_claim" = some (some (.ref f_m_is_checker_claim_ck)))
    (l_m_is_checker_claim_ck : K.lookup f_m_is_checker_claim_ck = some ⟨oc_m_is_checker_claim_ck, od_m_is_checker_claim_ck, .func (PySem.W.fnOf "is_checker_claim" "is_checker_claim" (defArgs kn) (defBody kn) (defScope kn) .none kV_m_is_checker_claim_ck dc_m_is_checker_claim_ck pm_m_is_checker_claim_ck an_m_is_checker_claim_ck cd_m_is_checker_claim_ck ct_m_is_checker_claim_ck), sl_m_is_checker_claim_ck⟩)
    (c_m_is_checker_claim_ck : PySem.W.codeIn K cd_m_is_checker_claim_ck "is_checker_claim" = true)
    (k_m_is_checker_claim_ck : PySem.W.keepIn K (.ref f_m_is_checker_claim_ck) = true)
    (a_m_is_table : PySem.W.nsIn K mainGlobals "is_table" = some (some (.ref f_m_is_table)))
    (l_m_is_table : K.lookup f_m_is_table = some ⟨oc_m_is_table, od_m_is_table, .func (PySem.W.fnOf "is_table" "is_table" (defArgs vN) (defBody vN) (defScope vN) .none kV_m_is_table dc_m_is_table pm_m_is_table an_m_is_table cd_m_is_table ct_m_is_table), sl_m_is_table⟩)
    (c_m_is_table : PySem.W.codeIn K cd_m_is_table "is_table" = true)
    (k_m_is_table : PySem.W.keepIn K (.ref f_m_is_table) = true)
    (a_m_numbers_of_ck : PySem.W.nsIn K mainGlobals "numbers_of" = some (some (.ref f_m_numbers_of_ck)))
    (l_m_numbers_of_ck : K.lookup f_m_numbers_of_ck = some ⟨oc_m_numbers_of_ck, od_m_numbers_of_ck, .func (PySem.W.fnOf "numbers_of" "numbers_of" (defArgs wC) (defBody wC) (defScope wC) .none kV_m_numbers_of_ck dc_m_numbers_of_ck pm_m_numbers_of_ck an_m_numbers_of_ck cd_m_numbers_of_ck ct_m_numbers_of_ck), sl_m_numbers_of_ck⟩)
    (c_m_numbers_of_ck : PySem.W.codeIn K cd_m_numbers_of_ck "numbers_of" = true)
    (k_m_numbers_of_ck : PySem.W.keepIn K (.ref f_m_numbers_of_ck) = true)
    (a_m_lowest : PySem.W.nsIn K mainGlobals "lowest" = some (some (.ref f_m_lowest)))
    (l_m_lowest : K.lookup f_m_lowest = some ⟨oc_m_lowest, od_m_lowest, .func (PySem.W.fnOf "lowest" "lowest" (defArgs st_m_lowest) (defBody st_m_lowest) (defScope st_m_lowest) .none kV_m_lowest dc_m_lowest pm_m_lowest an_m_lowest cd_m_lowest ct_m_lowest), sl_m_lowest⟩)
    (c_m_lowest : PySem.W.codeIn K cd_m_lowest "lowest" = true)
    (k_m_lowest : PySem.W.keepIn K (.ref f_m_lowest) = true)
    (a_m_middle : PySem.W.nsIn K mainGlobals "middle" = some (some (.ref f_m_middle)))
    (l_m_middle : K.lookup f_m_middle = some ⟨oc_m_middle, od_m_middle, .func (PySem.W.fnOf "middle" "middle" (defArgs Jp) (defBody Jp) (defScope Jp) .none kV_m_middle dc_m_middle pm_m_middle an_m_middle cd_m_middle ct_m_middle), sl_m_middle⟩)
    (c_m_middle : PySem.W.codeIn K cd_m_middle "middle" = true)
    (k_m_middle : PySem.W.keepIn K (.ref f_m_middle) = true)
    (a_m_follows_ck : PySem.W.nsIn K mainGlobals "follows" = some (some (.ref f_m_follows_ck)))
    (l_m_follows_ck : K.lookup f_m_follows_ck = some ⟨oc_m_follows_ck, od_m_follows_ck, .func (PySem.W.fnOf "follows" "follows" (defArgs vC) (defBody vC) (defScope vC) .none kV_m_follows_ck dc_m_follows_ck pm_m_follows_ck an_m_follows_ck cd_m_follows_ck ct_m_follows_ck), sl_m_follows_ck⟩)
    (c_m_follows_ck : PySem.W.codeIn K cd_m_follows_ck "follows" = true)
    (k_m_follows_ck : PySem.W.keepIn K (.ref f_m_follows_ck) = true)
    (a_m_are_needs_ck : PySem.W.nsIn K mainGlobals "are_needs" = some (some (.ref f_m_are_needs_ck)))
    (l_m_are_needs_ck : K.lookup f_m_are_needs_ck = some ⟨oc_m_are_needs_ck, od_m_are_needs_ck, .func (PySem.W.fnOf "are_needs" "are_needs" (defArgs st_m_are_needs_ck) (defBody st_m_are_needs_ck) (defScope st_m_are_needs_ck) .none kV_m_are_needs_ck dc_m_are_needs_ck pm_m_are_needs_ck an_m_are_needs_ck cd_m_are_needs_ck ct_m_are_needs_ck), sl_m_are_needs_ck⟩)
    (c_m_are_needs_ck : PySem.W.codeIn K cd_m_are_needs_ck "are_needs" = true)
    (k_m_are_needs_ck : PySem.W.keepIn K (.ref f_m_are_needs_ck) = true)
    (a_m_is_below : PySem.W.nsIn K mainGlobals "is_below" = some (some (.ref f_m_is_below)))
    (l_m_is_below : K.lookup f_m_is_below = some ⟨oc_m_is_below, od_m_is_below, .func (PySem.W.fnOf "is_below" "is_below" (defArgs st_m_is_below) (defBody st_m_is_below) (defScope st_m_is_below) .none kV_m_is_below dc_m_is_below pm_m_is_below an_m_is_below cd_m_is_below ct_m_is_below), sl_m_is_below⟩)
    (c_m_is_below : PySem.W.codeIn K cd_m_is_below "is_below" = true)
    (k_m_is_below : PySem.W.keepIn K (.ref f_m_is_below) = true)
    (a_m_difference : PySem.W.nsIn K mainGlobals "difference" = some (some (.ref f_m_difference)))
    (l_m_difference : K.lookup f_m_difference = some ⟨oc_m_difference, od_m_difference, .func (PySem.W.fnOf "difference" "difference" (defArgs st_m_difference) (defBody st_m_difference) (defScope st_m_difference) .none kV_m_difference dc_m_difference pm_m_difference an_m_difference cd_m_difference ct_m_difference), sl_m_difference⟩)
    (c_m_difference : PySem.W.codeIn K cd_m_difference "difference" = true)
    (k_m_difference : PySem.W.keepIn K (.ref f_m_difference) = true)
    (a_m_total : PySem.W.nsIn K mainGlobals "total" = some (some (.ref f_m_total)))
    (l_m_total : K.lookup f_m_total = some ⟨oc_m_total, od_m_total, .func (PySem.W.fnOf "total" "total" (defArgs st_m_total) (defBody st_m_total) (defScope st_m_total) .none kV_m_total dc_m_total pm_m_total an_m_total cd_m_total ct_m_total), sl_m_total⟩)
    (c_m_total : PySem.W.codeIn K cd_m_total "total" = true)
    (k_m_total : PySem.W.keepIn K (.ref f_m_total) = true)
    (a_m_keeps_the_win : PySem.W.nsIn K mainGlobals "keeps_the_win" = some (some (.ref f_m_keeps_the_win)))
    (l_m_keeps_the_win : K.lookup f_m_keeps_the_win = some ⟨oc_m_keeps_the_win, od_m_keeps_the_win, .func (PySem.W.fnOf "keeps_the_win" "keeps_the_win" (defArgs wD) (defBody wD) (defScope wD) .none kV_m_keeps_the_win dc_m_keeps_the_win pm_m_keeps_the_win an_m_keeps_the_win cd_m_keeps_the_win ct_m_keeps_the_win), sl_m_keeps_the_win⟩)
    (c_m_keeps_the_win : PySem.W.codeIn K cd_m_keeps_the_win "keeps_the_win" = true)
    (k_m_keeps_the_win : PySem.W.keepIn K (.ref f_m_keeps_the_win) = true)
    (a_m_is_true : PySem.W.nsIn K mainGlobals "is_true" = some (some (.ref f_m_is_true)))
    (l_m_is_true : K.lookup f_m_is_true = some ⟨oc_m_is_true, od_m_is_true, .func (PySem.W.fnOf "is_true" "is_true" (defArgs st_m_is_true) (defBody st_m_is_true) (defScope st_m_is_true) .none kV_m_is_true dc_m_is_true pm_m_is_true an_m_is_true cd_m_is_true ct_m_is_true), sl_m_is_true⟩)
    (c_m_is_true : PySem.W.codeIn K cd_m_is_true "is_true" = true)
    (k_m_is_true : PySem.W.keepIn K (.ref f_m_is_true) = true)
    (a_m_are_needs_within_ck : PySem.W.nsIn K mainGlobals "are_needs_within" = some (some (.ref f_m_are_needs_within_ck)))
    (l_m_are_needs_within_ck : K.lookup f_m_are_needs_within_ck = some ⟨oc_m_are_needs_within_ck, od_m_are_needs_within_ck, .func (PySem.W.fnOf "are_needs_within" "are_needs_within" (defArgs jG) (defBody jG) (defScope jG) .none kV_m_are_needs_within_ck dc_m_are_needs_within_ck pm_m_are_needs_within_ck an_m_are_needs_within_ck cd_m_are_needs_within_ck ct_m_are_needs_within_ck), sl_m_are_needs_within_ck⟩)
    (c_m_are_needs_within_ck : PySem.W.codeIn K cd_m_are_needs_within_ck "are_needs_within" = true)
    (k_m_are_needs_within_ck : PySem.W.keepIn K (.ref f_m_are_needs_within_ck) = true)
    (a_m_accepts_ck : PySem.W.nsIn K mainGlobals "accepts" = some (some (.ref f_m_accepts_ck)))
    (l_m_accepts_ck : K.lookup f_m_accepts_ck = some ⟨oc_m_accepts_ck, od_m_accepts_ck, .func (PySem.W.fnOf "accepts" "accepts" (defArgs st_m_accepts_ck) (defBody st_m_accepts_ck) (defScope st_m_accepts_ck) .none kV_m_accepts_ck dc_m_accepts_ck pm_m_accepts_ck an_m_accepts_ck cd_m_accepts_ck ct_m_accepts_ck), sl_m_accepts_ck⟩)
    (c_m_accepts_ck : PySem.W.codeIn K cd_m_accepts_ck "accepts" = true)
    (k_m_accepts_ck : PySem.W.keepIn K (.ref f_m_accepts_ck) = true)
    (a_m__law_path : PySem.W.nsIn K mainGlobals "_law_path" = some (some (.ref f_m__law_path)))
    (l_m__law_path : K.lookup f_m__law_path = some ⟨oc_m__law_path, od_m__law_path, .func (PySem.W.fnOf "_law_path" "_law_path" (defArgs st_m__law_path) (defBody st_m__law_path) (defScope st_m__law_path) .none kV_m__law_path dc_m__law_path pm_m__law_path an_m__law_path cd_m__law_path ct_m__law_path), sl_m__law_path⟩)
    (c_m__law_path : PySem.W.codeIn K cd_m__law_path "_law_path" = true)
    (k_m__law_path : PySem.W.keepIn K (.ref f_m__law_path) = true)
    (a_m__law_right : PySem.W.nsIn K mainGlobals "_law_right" = some (some (.ref f_m__law_right)))
    (l_m__law_right : K.lookup f_m__law_right = some ⟨oc_m__law_right, od_m__law_right, .func (PySem.W.fnOf "_law_right" "_law_right" (defArgs wJ) (defBody wJ) (defScope wJ) .none kV_m__law_right dc_m__law_right pm_m__law_right an_m__law_right cd_m__law_right ct_m__law_right), sl_m__law_right⟩)
    (c_m__law_right : PySem.W.codeIn K cd_m__law_right "_law_right" = true)
    (k_m__law_right : PySem.W.keepIn K (.ref f_m__law_right) = true)
    (a_m__law_urn : PySem.W.nsIn K mainGlobals "_law_urn" = some (some (.ref f_m__law_urn)))
    (l_m__law_urn : K.lookup f_m__law_urn = some ⟨oc_m__law_urn, od_m__law_urn, .func (PySem.W.fnOf "_law_urn" "_law_urn" (defArgs st_m__law_urn) (defBody st_m__law_urn) (defScope st_m__law_urn) .none kV_m__law_urn dc_m__law_urn pm_m__law_urn an_m__law_urn cd_m__law_urn ct_m__law_urn), sl_m__law_urn⟩)
    (c_m__law_urn : PySem.W.codeIn K cd_m__law_urn "_law_urn" = true)
    (k_m__law_urn : PySem.W.keepIn K (.ref f_m__law_urn) = true)
    (a_m_law : PySem.W.nsIn K mainGlobals "law" = some (some (.ref f_m_law)))
    (l_m_law : K.lookup f_m_law = some ⟨oc_m_law, od_m_law, .func (PySem.W.fnOf "law" "law" (defArgs JF) (defBody JF) (defScope JF) .none kV_m_law dc_m_law pm_m_law an_m_law cd_m_law ct_m_law), sl_m_law⟩)
    (c_m_law : PySem.W.codeIn K cd_m_law "law" = true)
    (k_m_law : PySem.W.keepIn K (.ref f_m_law) = true)
    : ∃ fd : FuncData, (∀ (s : Shared) (u : Value), BindsTo s fd ⟨[u], []⟩ [("script", u)]) ∧ ∀ base : Heap, FnG P w K mg base (L2.CX P w) 11 fa fd ["script"] (spM K (m_law (adOf []))) := by
  have e := hfa.symm.trans (PySem.W.mg_of X G a_m_law)
  cases e
  refine ⟨PySem.W.fnOf "law" "law" (defArgs JF) (defBody JF) (defScope JF) .none kV_m_law dc_m_law pm_m_law an_m_law cd_m_law ct_m_law, fun s u => .of_eq rfl, fun base => ?_⟩
  have Z : Fy K mg (adOf []) [] := ⟨⟨PySem.W.mg_none_of X G z_int, PySem.W.mg_none_of X G z_len, PySem.W.mg_none_of X G z_abs, PySem.W.mg_none_of X G z_divmod, PySem.W.mg_none_of X G z_range, PySem.W.mg_none_of X G z_sorted, PySem.W.mg_none_of X G z_set, PySem.W.mg_none_of X G z_tuple, PySem.W.mg_none_of X G z_list, PySem.W.mg_none_of X G z_type, PySem.W.mg_none_of X G z_str, PySem.W.mg_none_of X G z_all, PySem.W.mg_none_of X G Wp, PySem.W.mg_none_of X G z_max, PySem.W.mg_none_of X G z_min, PySem.W.mg_none_of X G z_sum, PySem.W.mg_none_of X G z_repr, PySem.W.mg_none_of X G z_isinstance, PySem.W.mg_none_of X G z_dict, PySem.W.mg_none_of X G z_bool, PySem.W.mg_none_of X G z_zip, PySem.W.mg_none_of X G z_enumerate⟩, PySem.W.mg_of X G z_gcd⟩
  have gt__FORMS : GT K mg "_FORMS" ([.tpu [.str [110, 101, 101, 100, 115], .int 4], .tpu [.str [97, 98, 111, 118, 101], .int 4], .tpu [.str [98, 101, 108, 111, 119], .int 4], .tpu [.str [119, 105, 116, 104, 105, 110], .int 5], .tpu [.str [115, 97, 102, 101], .int 6]]) := gt_pairs [tp0__FORMS, tp1__FORMS, tp2__FORMS, tp3__FORMS, tp4__FORMS] [.tpu [.str [110, 101, 101, 100, 115], .int 4], .tpu [.str [97, 98, 111, 118, 101], .int 4], .tpu [.str [98, 101, 108, 111, 119], .int 4], .tpu [.str [119, 105, 116, 104, 105, 110], .int 5], .tpu [.str [115, 97, 102, 101], .int 6]] (by simp) (PySem.W.mg_of X G g__FORMS) gl__FORMS fun H A => (.cons (pair_const (by decide +kernel) gp0__FORMS H A) (.cons (pair_const (by decide +kernel) gp1__FORMS H A) (.cons (pair_const (by decide +kernel) gp2__FORMS H A) (.cons (pair_const (by decide +kernel) gp3__FORMS H A) (.cons (pair_const (by decide +kernel) gp4__FORMS H A) .nil)))))
  have F_m__law_dip := fun_mk (st := st_m__law_dip) l_m__law_dip c_m__law_dip k_m__law_dip
  have B_m__law_dip : Binds K _ ["urn", "size"] [] := F_m__law_dip.binds (ps := ["urn", "size"]) fun _ _ _ _ _ _ us hl => match us, hl with | [_, _], _ => rfl
  have O_m__law_dip := ok_m__law_dip (P := P) (w := w) (base := base) Z F_m__law_dip
  have D_m__law_dip : Df P w K mg base "_law_dip" 1 _ := ⟨⟨_, _, _, O_m__law_dip, PySem.W.mg_of X G a_m__law_dip, k_m__law_dip, B_m__law_dip⟩⟩
  have F_m__law_any := fun_mk (st := st_m__law_any) l_m__law_any c_m__law_any k_m__law_any
  have B_m__law_any : Binds K _ ["urn", "some"] [] := F_m__law_any.binds (ps := ["urn", "some"]) fun _ _ _ _ _ _ us hl => match us, hl with | [_, _], _ => rfl
  have O_m__law_any := ok_m__law_any (P := P) (w := w) (base := base) Z F_m__law_any (c_m__law_dip := D_m__law_dip)
  have D_m__law_any : Df P w K mg base "_law_any" 2 _ := ⟨⟨_, _, _, O_m__law_any, PySem.W.mg_of X G a_m__law_any, k_m__law_any, B_m__law_any⟩⟩
  have F_m__law_none := fun_mk (st := st_m__law_none) l_m__law_none c_m__law_none k_m__law_none
  have B_m__law_none : Binds K _ ["urn", "f"] [] := F_m__law_none.binds (ps := ["urn", "f"]) fun _ _ _ _ _ _ us hl => match us, hl with | [_, _], _ => rfl
  have O_m__law_none := ok_m__law_none (P := P) (w := w) (base := base) Z F_m__law_none (c_m__law_any := D_m__law_any)
  have D_m__law_none : Df P w K mg base "_law_none" 3 _ := ⟨⟨_, _, _, O_m__law_none, PySem.W.mg_of X G a_m__law_none, k_m__law_none, B_m__law_none⟩⟩
  have F_m__law_shared := fun_mk (st := st_m__law_shared) l_m__law_shared c_m__law_shared k_m__law_shared
  have B_m__law_shared : Binds K _ ["a", "b"] [] := F_m__law_shared.binds (ps := ["a", "b"]) fun _ _ _ _ _ _ us hl => match us, hl with | [_, _], _ => rfl
  have O_m__law_shared := ok_m__law_shared (P := P) (w := w) (base := base) Z F_m__law_shared
  have D_m__law_shared : Df P w K mg base "_law_shared" 1 _ := ⟨⟨_, _, _, O_m__law_shared, PySem.W.mg_of X G a_m__law_shared, k_m__law_shared, B_m__law_shared⟩⟩
  have F_m__law_low_v1 := fun_mk (st := st_m__law_low_v1) l_m__law_low_v1 c_m__law_low_v1 k_m__law_low_v1
  have B_m__law_low_v1 : Binds K _ ["top", "bottom"] [] := F_m__law_low_v1.binds (ps := ["top", "bottom"]) fun _ _ _ _ _ _ us hl => match us, hl with | [_, _], _ => rfl
  have O_m__law_low_v1 := ok_m__law_low_v1 (P := P) (w := w) (base := base) Z F_m__law_low_v1 (c_m__law_shared := D_m__law_shared)
  have D_m__law_low_v1 : Df P w K mg base "_law_low" 2 _ := ⟨⟨_, _, _, O_m__law_low_v1, PySem.W.mg_of X G a_m__law_low_v1, k_m__law_low_v1, B_m__law_low_v1⟩⟩
  have F_m__law_bad_rows := fun_mk (st := wz) l_m__law_bad_rows c_m__law_bad_rows k_m__law_bad_rows
  have B_m__law_bad_rows : Binds K _ ["urn"] [] := F_m__law_bad_rows.binds (ps := ["urn"]) fun _ _ _ _ _ _ us hl => match us, hl with | [_], _ => rfl
  have O_m__law_bad_rows := ok_m__law_bad_rows (P := P) (w := w) (base := base) Z F_m__law_bad_rows (c_m__law_any := D_m__law_any)
  have D_m__law_bad_rows : Df P w K mg base "_law_bad_rows" 3 _ := ⟨⟨_, _, _, O_m__law_bad_rows, PySem.W.mg_of X G a_m__law_bad_rows, k_m__law_bad_rows, B_m__law_bad_rows⟩⟩
  have F_m_is_row := fun_mk (st := st_m_is_row) l_m_is_row c_m_is_row k_m_is_row
  have B_m_is_row : Binds K _ ["value"] [] := F_m_is_row.binds (ps := ["value"]) fun _ _ _ _ _ _ us hl => match us, hl with | [_], _ => rfl
  have O_m_is_row := ok_m_is_row (P := P) (w := w) (base := base) Z F_m_is_row
  have D_m_is_row : Df P w K mg base "is_row" 1 _ := ⟨⟨_, _, _, O_m_is_row, PySem.W.mg_of X G a_m_is_row, k_m_is_row, B_m_is_row⟩⟩
  have F_m_is_integer := fun_mk (st := st_m_is_integer) l_m_is_integer c_m_is_integer k_m_is_integer
  have B_m_is_integer : Binds K _ ["value"] [] := F_m_is_integer.binds (ps := ["value"]) fun _ _ _ _ _ _ us hl => match us, hl with | [_], _ => rfl
  have O_m_is_integer := ok_m_is_integer (P := P) (w := w) (base := base) Z F_m_is_integer
  have D_m_is_integer : Df P w K mg base "is_integer" 1 _ := ⟨⟨_, _, _, O_m_is_integer, PySem.W.mg_of X G a_m_is_integer, k_m_is_integer, B_m_is_integer⟩⟩
  have F_m_is_fraction := fun_mk (st := st_m_is_fraction) l_m_is_fraction c_m_is_fraction k_m_is_fraction
  have B_m_is_fraction : Binds K _ ["value"] [] := F_m_is_fraction.binds (ps := ["value"]) fun _ _ _ _ _ _ us hl => match us, hl with | [_], _ => rfl
  have O_m_is_fraction := ok_m_is_fraction (P := P) (w := w) (base := base) Z F_m_is_fraction (c_m_is_integer := D_m_is_integer) (c_m_is_row := D_m_is_row)
  have D_m_is_fraction : Df P w K mg base "is_fraction" 2 _ := ⟨⟨_, _, _, O_m_is_fraction, PySem.W.mg_of X G a_m_is_fraction, k_m_is_fraction, B_m_is_fraction⟩⟩
  have F_m_is_string := fun_mk (st := st_m_is_string) l_m_is_string c_m_is_string k_m_is_string
  have B_m_is_string : Binds K _ ["value"] [] := F_m_is_string.binds (ps := ["value"]) fun _ _ _ _ _ _ us hl => match us, hl with | [_], _ => rfl
  have O_m_is_string := ok_m_is_string (P := P) (w := w) (base := base) Z F_m_is_string
  have D_m_is_string : Df P w K mg base "is_string" 1 _ := ⟨⟨_, _, _, O_m_is_string, PySem.W.mg_of X G a_m_is_string, k_m_is_string, B_m_is_string⟩⟩
  have F_m_is_one_of := fun_mk (st := st_m_is_one_of) l_m_is_one_of c_m_is_one_of k_m_is_one_of
  have B_m_is_one_of : Binds K _ ["value", "words"] [] := F_m_is_one_of.binds (ps := ["value", "words"]) fun _ _ _ _ _ _ us hl => match us, hl with | [_, _], _ => rfl
  have O_m_is_one_of := ok_m_is_one_of (P := P) (w := w) (base := base) Z F_m_is_one_of (c_m_is_string := D_m_is_string)
  have D_m_is_one_of : Df P w K mg base "is_one_of" 2 _ := ⟨⟨_, _, _, O_m_is_one_of, PySem.W.mg_of X G a_m_is_one_of, k_m_is_one_of, B_m_is_one_of⟩⟩
  have F_m_has_form_ck := fun_mk (st := st_m_has_form_ck) l_m_has_form_ck c_m_has_form_ck k_m_has_form_ck
  have B_m_has_form_ck : Binds K _ ["value", "forms"] [] := F_m_has_form_ck.binds (ps := ["value", "forms"]) fun _ _ _ _ _ _ us hl => match us, hl with | [_, _], _ => rfl
  have O_m_has_form_ck := ok_m_has_form_ck (P := P) (w := w) (base := base) Z F_m_has_form_ck (c_m_is_row := D_m_is_row) (c_m_is_string := D_m_is_string)
  have D_m_has_form_ck : Df P w K mg base "has_form" 2 _ := ⟨⟨_, _, _, O_m_has_form_ck, PySem.W.mg_of X G a_m_has_form_ck, k_m_has_form_ck, B_m_has_form_ck⟩⟩
  have F_m_is_ascending := fun_mk (st := wR) l_m_is_ascending c_m_is_ascending k_m_is_ascending
  have B_m_is_ascending : Binds K _ ["values"] [] := F_m_is_ascending.binds (ps := ["values"]) fun _ _ _ _ _ _ us hl => match us, hl with | [_], _ => rfl
  have O_m_is_ascending := ok_m_is_ascending (P := P) (w := w) (base := base) Z F_m_is_ascending
  have D_m_is_ascending : Df P w K mg base "is_ascending" 1 _ := ⟨⟨_, _, _, O_m_is_ascending, PySem.W.mg_of X G a_m_is_ascending, k_m_is_ascending, B_m_is_ascending⟩⟩
  have F_m_is_share := fun_mk (st := st_m_is_share) l_m_is_share c_m_is_share k_m_is_share
  have B_m_is_share : Binds K _ ["value"] [] := F_m_is_share.binds (ps := ["value"]) fun _ _ _ _ _ _ us hl => match us, hl with | [_], _ => rfl
  have O_m_is_share := ok_m_is_share (P := P) (w := w) (base := base) Z F_m_is_share (c_m_is_fraction := D_m_is_fraction)
  have D_m_is_share : Df P w K mg base "is_share" 3 _ := ⟨⟨_, _, _, O_m_is_share, PySem.W.mg_of X G a_m_is_share, k_m_is_share, B_m_is_share⟩⟩
  have F_m_is_part := fun_mk (st := st_m_is_part) l_m_is_part c_m_is_part k_m_is_part
  have B_m_is_part : Binds K _ ["value"] [] := F_m_is_part.binds (ps := ["value"]) fun _ _ _ _ _ _ us hl => match us, hl with | [_], _ => rfl
  have O_m_is_part := ok_m_is_part (P := P) (w := w) (base := base) Z F_m_is_part (g_MOST_BOTTOM := PySem.W.mg_of X G g_MOST_BOTTOM) (c_m_is_share := D_m_is_share)
  have D_m_is_part : Df P w K mg base "is_part" 4 _ := ⟨⟨_, _, _, O_m_is_part, PySem.W.mg_of X G a_m_is_part, k_m_is_part, B_m_is_part⟩⟩
  have F_m_arrows_of := fun_mk (st := st_m_arrows_of) l_m_arrows_of c_m_arrows_of k_m_arrows_of
  have B_m_arrows_of : Binds K _ ["what"] [] := F_m_arrows_of.binds (ps := ["what"]) fun _ _ _ _ _ _ us hl => match us, hl with | [_], _ => rfl
  have O_m_arrows_of := ok_m_arrows_of (P := P) (w := w) (base := base) Z F_m_arrows_of (c_m_is_part := D_m_is_part)
  have D_m_arrows_of : Df P w K mg base "arrows_of" 5 _ := ⟨⟨_, _, _, O_m_arrows_of, PySem.W.mg_of X G a_m_arrows_of, k_m_arrows_of, B_m_arrows_of⟩⟩
  have F_m_first_stuck := fun_mk (st := wM) l_m_first_stuck c_m_first_stuck k_m_first_stuck
  have B_m_first_stuck : Binds K _ ["rows"] [] := F_m_first_stuck.binds (ps := ["rows"]) fun _ _ _ _ _ _ us hl => match us, hl with | [_], _ => rfl
  have O_m_first_stuck := ok_m_first_stuck (P := P) (w := w) (base := base) Z F_m_first_stuck (c_m_arrows_of := D_m_arrows_of) (c_m_is_part := D_m_is_part)
  have D_m_first_stuck : Df P w K mg base "first_stuck" 6 _ := ⟨⟨_, _, _, O_m_first_stuck, PySem.W.mg_of X G a_m_first_stuck, k_m_first_stuck, B_m_first_stuck⟩⟩
  have F_m_is_letter := fun_mk (st := st_m_is_letter) l_m_is_letter c_m_is_letter k_m_is_letter
  have B_m_is_letter : Binds K _ ["value"] [] := F_m_is_letter.binds (ps := ["value"]) fun _ _ _ _ _ _ us hl => match us, hl with | [_], _ => rfl
  have O_m_is_letter := ok_m_is_letter (P := P) (w := w) (base := base) Z F_m_is_letter (c_m_is_string := D_m_is_string)
  have D_m_is_letter : Df P w K mg base "is_letter" 2 _ := ⟨⟨_, _, _, O_m_is_letter, PySem.W.mg_of X G a_m_is_letter, k_m_is_letter, B_m_is_letter⟩⟩
  have F_m_is_arrows := fun_mk (st := vJ) l_m_is_arrows c_m_is_arrows k_m_is_arrows
  have B_m_is_arrows : Binds K _ ["what"] [] := F_m_is_arrows.binds (ps := ["what"]) fun _ _ _ _ _ _ us hl => match us, hl with | [_], _ => rfl
  have O_m_is_arrows := ok_m_is_arrows (P := P) (w := w) (base := base) Z F_m_is_arrows (c_m_is_letter := D_m_is_letter) (c_m_is_ascending := D_m_is_ascending) (c_m_is_row := D_m_is_row)
  have D_m_is_arrows : Df P w K mg base "is_arrows" 3 _ := ⟨⟨_, _, _, O_m_is_arrows, PySem.W.mg_of X G a_m_is_arrows, k_m_is_arrows, B_m_is_arrows⟩⟩
  have F_m_is_pair := fun_mk (st := st_m_is_pair) l_m_is_pair c_m_is_pair k_m_is_pair
  have B_m_is_pair : Binds K _ ["pair"] [] := F_m_is_pair.binds (ps := ["pair"]) fun _ _ _ _ _ _ us hl => match us, hl with | [_], _ => rfl
  have O_m_is_pair := ok_m_is_pair (P := P) (w := w) (base := base) Z F_m_is_pair (c_m_is_part := D_m_is_part) (c_m_is_arrows := D_m_is_arrows) (c_m_is_row := D_m_is_row) (c_m_is_letter := D_m_is_letter)
  have D_m_is_pair : Df P w K mg base "is_pair" 5 _ := ⟨⟨_, _, _, O_m_is_pair, PySem.W.mg_of X G a_m_is_pair, k_m_is_pair, B_m_is_pair⟩⟩
  have F_m_are_rows := fun_mk (st := wZ) l_m_are_rows c_m_are_rows k_m_are_rows
  have B_m_are_rows : Binds K _ ["rows"] [] := F_m_are_rows.binds (ps := ["rows"]) fun _ _ _ _ _ _ us hl => match us, hl with | [_], _ => rfl
  have O_m_are_rows := ok_m_are_rows (P := P) (w := w) (base := base) Z F_m_are_rows (g_MOST_PLACES := PySem.W.mg_of X G g_MOST_PLACES) (c_m_first_stuck := D_m_first_stuck) (c_m_arrows_of := D_m_arrows_of) (c_m_is_ascending := D_m_is_ascending) (c_m_is_pair := D_m_is_pair) (c_m_is_row := D_m_is_row)
  have D_m_are_rows : Df P w K mg base "are_rows" 7 _ := ⟨⟨_, _, _, O_m_are_rows, PySem.W.mg_of X G a_m_are_rows, k_m_are_rows, B_m_are_rows⟩⟩
  have F_m_is_moves := fun_mk (st := st_m_is_moves) l_m_is_moves c_m_is_moves k_m_is_moves
  have B_m_is_moves : Binds K _ ["value"] [] := F_m_is_moves.binds (ps := ["value"]) fun _ _ _ _ _ _ us hl => match us, hl with | [_], _ => rfl
  have O_m_is_moves := ok_m_is_moves (P := P) (w := w) (base := base) Z F_m_is_moves (g_MOST_MOVES := PySem.W.mg_of X G g_MOST_MOVES) (c_m_is_integer := D_m_is_integer)
  have D_m_is_moves : Df P w K mg base "is_moves" 2 _ := ⟨⟨_, _, _, O_m_is_moves, PySem.W.mg_of X G a_m_is_moves, k_m_is_moves, B_m_is_moves⟩⟩
  have F_m_is_checker_claim_ck := fun_mk (st := kn) l_m_is_checker_claim_ck c_m_is_checker_claim_ck k_m_is_checker_claim_ck
  have B_m_is_checker_claim_ck : Binds K _ ["claim"] [] := F_m_is_checker_claim_ck.binds (ps := ["claim"]) fun _ _ _ _ _ _ us hl => match us, hl with | [_], _ => rfl
  have O_m_is_checker_claim_ck := ok_m_is_checker_claim_ck (P := P) (w := w) (base := base) Z F_m_is_checker_claim_ck (g__FORMS := gt__FORMS) (c_m_is_fraction := D_m_is_fraction) (c_m_is_share := D_m_is_share) (c_m_is_one_of := D_m_is_one_of) (c_m_is_moves := D_m_is_moves) (c_m_has_form_ck := D_m_has_form_ck) (c_m_are_rows := D_m_are_rows)
  have D_m_is_checker_claim_ck : Df P w K mg base "is_checker_claim" 8 _ := ⟨⟨_, _, _, O_m_is_checker_claim_ck, PySem.W.mg_of X G a_m_is_checker_claim_ck, k_m_is_checker_claim_ck, B_m_is_checker_claim_ck⟩⟩
  have F_m_is_table := fun_mk (st := vN) l_m_is_table c_m_is_table k_m_is_table
  have B_m_is_table : Binds K _ ["rows", "table"] [] := F_m_is_table.binds (ps := ["rows", "table"]) fun _ _ _ _ _ _ us hl => match us, hl with | [_, _], _ => rfl
  have O_m_is_table := ok_m_is_table (P := P) (w := w) (base := base) Z F_m_is_table (c_m_is_row := D_m_is_row) (c_m_is_fraction := D_m_is_fraction)
  have D_m_is_table : Df P w K mg base "is_table" 3 _ := ⟨⟨_, _, _, O_m_is_table, PySem.W.mg_of X G a_m_is_table, k_m_is_table, B_m_is_table⟩⟩
  have F_m_numbers_of_ck := fun_mk (st := wC) l_m_numbers_of_ck c_m_numbers_of_ck k_m_numbers_of_ck
  have B_m_numbers_of_ck : Binds K _ ["rows", "table"] [] := F_m_numbers_of_ck.binds (ps := ["rows", "table"]) fun _ _ _ _ _ _ us hl => match us, hl with | [_, _], _ => rfl
  have O_m_numbers_of_ck := ok_m_numbers_of_ck (P := P) (w := w) (base := base) Z F_m_numbers_of_ck
  have D_m_numbers_of_ck : Df P w K mg base "numbers_of" 1 _ := ⟨⟨_, _, _, O_m_numbers_of_ck, PySem.W.mg_of X G a_m_numbers_of_ck, k_m_numbers_of_ck, B_m_numbers_of_ck⟩⟩
  have F_m_lowest := fun_mk (st := st_m_lowest) l_m_lowest c_m_lowest k_m_lowest
  have B_m_lowest : Binds K _ ["top", "bottom"] [] := F_m_lowest.binds (ps := ["top", "bottom"]) fun _ _ _ _ _ _ us hl => match us, hl with | [_, _], _ => rfl
  have O_m_lowest := ok_m_lowest (P := P) (w := w) (base := base) Z F_m_lowest
  have D_m_lowest : Df P w K mg base "lowest" 1 _ := ⟨⟨_, _, _, O_m_lowest, PySem.W.mg_of X G a_m_lowest, k_m_lowest, B_m_lowest⟩⟩
  have F_m_middle := fun_mk (st := Jp) l_m_middle c_m_middle k_m_middle
  have B_m_middle : Binds K _ ["fractions"] [] := F_m_middle.binds (ps := ["fractions"]) fun _ _ _ _ _ _ us hl => match us, hl with | [_], _ => rfl
  have O_m_middle := ok_m_middle (P := P) (w := w) (base := base) Z F_m_middle (b_lcm := PySem.W.mg_of X G z_lcm) (c_m_lowest := D_m_lowest)
  have D_m_middle : Df P w K mg base "middle" 2 _ := ⟨⟨_, _, _, O_m_middle, PySem.W.mg_of X G a_m_middle, k_m_middle, B_m_middle⟩⟩
  have F_m_follows_ck := fun_mk (st := vC) l_m_follows_ck c_m_follows_ck k_m_follows_ck
  have B_m_follows_ck : Binds K _ ["rows", "table", "behind"] [] := F_m_follows_ck.binds (ps := ["rows", "table", "behind"]) fun _ _ _ _ _ _ us hl => match us, hl with | [_, _, _], _ => rfl
  have O_m_follows_ck := ok_m_follows_ck (P := P) (w := w) (base := base) Z F_m_follows_ck (c_m_is_part := D_m_is_part) (c_m_middle := D_m_middle) (c_m_numbers_of_ck := D_m_numbers_of_ck)
  have D_m_follows_ck : Df P w K mg base "follows" 5 _ := ⟨⟨_, _, _, O_m_follows_ck, PySem.W.mg_of X G a_m_follows_ck, k_m_follows_ck, B_m_follows_ck⟩⟩
  have F_m_are_needs_ck := fun_mk (st := st_m_are_needs_ck) l_m_are_needs_ck c_m_are_needs_ck k_m_are_needs_ck
  have B_m_are_needs_ck : Binds K _ ["rows", "paper"] [] := F_m_are_needs_ck.binds (ps := ["rows", "paper"]) fun _ _ _ _ _ _ us hl => match us, hl with | [_, _], _ => rfl
  have O_m_are_needs_ck := ok_m_are_needs_ck (P := P) (w := w) (base := base) Z F_m_are_needs_ck (c_m_is_table := D_m_is_table) (c_m_follows_ck := D_m_follows_ck)
  have D_m_are_needs_ck : Df P w K mg base "are_needs" 6 _ := ⟨⟨_, _, _, O_m_are_needs_ck, PySem.W.mg_of X G a_m_are_needs_ck, k_m_are_needs_ck, B_m_are_needs_ck⟩⟩
  have F_m_is_below := fun_mk (st := st_m_is_below) l_m_is_below c_m_is_below k_m_is_below
  have B_m_is_below : Binds K _ ["one", "other"] [] := F_m_is_below.binds (ps := ["one", "other"]) fun _ _ _ _ _ _ us hl => match us, hl with | [_, _], _ => rfl
  have O_m_is_below := ok_m_is_below (P := P) (w := w) (base := base) Z F_m_is_below
  have D_m_is_below : Df P w K mg base "is_below" 1 _ := ⟨⟨_, _, _, O_m_is_below, PySem.W.mg_of X G a_m_is_below, k_m_is_below, B_m_is_below⟩⟩
  have F_m_difference := fun_mk (st := st_m_difference) l_m_difference c_m_difference k_m_difference
  have B_m_difference : Binds K _ ["one", "other"] [] := F_m_difference.binds (ps := ["one", "other"]) fun _ _ _ _ _ _ us hl => match us, hl with | [_, _], _ => rfl
  have O_m_difference := ok_m_difference (P := P) (w := w) (base := base) Z F_m_difference (c_m_lowest := D_m_lowest)
  have D_m_difference : Df P w K mg base "difference" 2 _ := ⟨⟨_, _, _, O_m_difference, PySem.W.mg_of X G a_m_difference, k_m_difference, B_m_difference⟩⟩
  have F_m_total := fun_mk (st := st_m_total) l_m_total c_m_total k_m_total
  have B_m_total : Binds K _ ["one", "other"] [] := F_m_total.binds (ps := ["one", "other"]) fun _ _ _ _ _ _ us hl => match us, hl with | [_, _], _ => rfl
  have O_m_total := ok_m_total (P := P) (w := w) (base := base) Z F_m_total (c_m_lowest := D_m_lowest)
  have D_m_total : Df P w K mg base "total" 2 _ := ⟨⟨_, _, _, O_m_total, PySem.W.mg_of X G a_m_total, k_m_total, B_m_total⟩⟩
  have F_m_keeps_the_win := fun_mk (st := wD) l_m_keeps_the_win c_m_keeps_the_win k_m_keeps_the_win
  have B_m_keeps_the_win : Binds K _ ["claim", "numbers"] [] := F_m_keeps_the_win.binds (ps := ["claim", "numbers"]) fun _ _ _ _ _ _ us hl => match us, hl with | [_, _], _ => rfl
  have O_m_keeps_the_win := ok_m_keeps_the_win (P := P) (w := w) (base := base) Z F_m_keeps_the_win (c_m_is_below := D_m_is_below) (c_m_total := D_m_total) (c_m_difference := D_m_difference) (c_m_arrows_of := D_m_arrows_of)
  have D_m_keeps_the_win : Df P w K mg base "keeps_the_win" 6 _ := ⟨⟨_, _, _, O_m_keeps_the_win, PySem.W.mg_of X G a_m_keeps_the_win, k_m_keeps_the_win, B_m_keeps_the_win⟩⟩
  have F_m_is_true := fun_mk (st := st_m_is_true) l_m_is_true c_m_is_true k_m_is_true
  have B_m_is_true : Binds K _ ["claim", "numbers"] [] := F_m_is_true.binds (ps := ["claim", "numbers"]) fun _ _ _ _ _ _ us hl => match us, hl with | [_, _], _ => rfl
  have O_m_is_true := ok_m_is_true (P := P) (w := w) (base := base) Z F_m_is_true (c_m_is_below := D_m_is_below) (c_m_keeps_the_win := D_m_keeps_the_win)
  have D_m_is_true : Df P w K mg base "is_true" 7 _ := ⟨⟨_, _, _, O_m_is_true, PySem.W.mg_of X G a_m_is_true, k_m_is_true, B_m_is_true⟩⟩
  have F_m_are_needs_within_ck := fun_mk (st := jG) l_m_are_needs_within_ck c_m_are_needs_within_ck k_m_are_needs_within_ck
  have B_m_are_needs_within_ck : Binds K _ ["rows", "moves", "paper"] [] := F_m_are_needs_within_ck.binds (ps := ["rows", "moves", "paper"]) fun _ _ _ _ _ _ us hl => match us, hl with | [_, _, _], _ => rfl
  have O_m_are_needs_within_ck := ok_m_are_needs_within_ck (P := P) (w := w) (base := base) Z F_m_are_needs_within_ck (c_m_follows_ck := D_m_follows_ck) (c_m_is_part := D_m_is_part) (c_m_is_row := D_m_is_row) (c_m_is_table := D_m_is_table)
  have D_m_are_needs_within_ck : Df P w K mg base "are_needs_within" 6 _ := ⟨⟨_, _, _, O_m_are_needs_within_ck, PySem.W.mg_of X G a_m_are_needs_within_ck, k_m_are_needs_within_ck, B_m_are_needs_within_ck⟩⟩
  have F_m_accepts_ck := fun_mk (st := st_m_accepts_ck) l_m_accepts_ck c_m_accepts_ck k_m_accepts_ck
  have B_m_accepts_ck : Binds K _ ["claim", "paper"] [] := F_m_accepts_ck.binds (ps := ["claim", "paper"]) fun _ _ _ _ _ _ us hl => match us, hl with | [_, _], _ => rfl
  have O_m_accepts_ck := ok_m_accepts_ck (P := P) (w := w) (base := base) Z F_m_accepts_ck (c_m_are_needs_ck := D_m_are_needs_ck) (c_m_is_true := D_m_is_true) (c_m_numbers_of_ck := D_m_numbers_of_ck) (c_m_are_needs_within_ck := D_m_are_needs_within_ck) (c_m_is_checker_claim_ck := D_m_is_checker_claim_ck)
  have D_m_accepts_ck : Df P w K mg base "accepts" 9 _ := ⟨⟨_, _, _, O_m_accepts_ck, PySem.W.mg_of X G a_m_accepts_ck, k_m_accepts_ck, B_m_accepts_ck⟩⟩
  have k_m_accepts_ck_paper_claim : DfK P w K mg base "accepts" ["paper", "claim"] [1, 0] 9 _ := ⟨⟨_, _, _, O_m_accepts_ck, PySem.W.mg_of X G a_m_accepts_ck, k_m_accepts_ck, ⟨fun s us ws _ h1 h2 => match us, ws, h1, h2 with | [], [_, _], _, _ => .of_eq rfl⟩⟩⟩
  have F_m__law_path := fun_mk (st := st_m__law_path) l_m__law_path c_m__law_path k_m__law_path
  have B_m__law_path : Binds K _ ["n"] [] := F_m__law_path.binds (ps := ["n"]) fun _ _ _ _ _ _ us hl => match us, hl with | [_], _ => rfl
  have O_m__law_path := ok_m__law_path (P := P) (w := w) (base := base) Z F_m__law_path
  have D_m__law_path : Df P w K mg base "_law_path" 1 _ := ⟨⟨_, _, _, O_m__law_path, PySem.W.mg_of X G a_m__law_path, k_m__law_path, B_m__law_path⟩⟩
  have F_m__law_right := fun_mk (st := wJ) l_m__law_right c_m__law_right k_m__law_right
  have B_m__law_right : Binds K _ ["urn"] [] := F_m__law_right.binds (ps := ["urn"]) fun _ _ _ _ _ _ us hl => match us, hl with | [_], _ => rfl
  have O_m__law_right := ok_m__law_right (P := P) (w := w) (base := base) Z F_m__law_right (c_m_accepts_ck := D_m_accepts_ck) (c_m__law_low_v1 := D_m__law_low_v1) (c_m__law_path := D_m__law_path) (c_m__law_dip := D_m__law_dip) (k_m_accepts_ck_paper_claim := k_m_accepts_ck_paper_claim) (c_m__law_bad_rows := D_m__law_bad_rows) (c_m__law_any := D_m__law_any) (c_m__law_none := D_m__law_none)
  have D_m__law_right : DfG P w K mg base "_law_right" 10 _ := ⟨⟨_, _, _, O_m__law_right, PySem.W.mg_of X G a_m__law_right, k_m__law_right, B_m__law_right⟩⟩
  have F_m__law_urn := fun_mk (st := st_m__law_urn) l_m__law_urn c_m__law_urn k_m__law_urn
  have B_m__law_urn : Binds K _ ["script", "turn"] [] := F_m__law_urn.binds (ps := ["script", "turn"]) fun _ _ _ _ _ _ us hl => match us, hl with | [_, _], _ => rfl
  have O_m__law_urn := ok_m__law_urn (P := P) (w := w) (base := base) Z F_m__law_urn
  have D_m__law_urn : Df P w K mg base "_law_urn" 1 _ := ⟨⟨_, _, _, O_m__law_urn, PySem.W.mg_of X G a_m__law_urn, k_m__law_urn, B_m__law_urn⟩⟩
  have F_m_law := fun_mk (st := JF) l_m_law c_m_law k_m_law
  have B_m_law : Binds K _ ["script"] [] := F_m_law.binds (ps := ["script"]) fun _ _ _ _ _ _ us hl => match us, hl with | [_], _ => rfl
  have O_m_law := ok_m_law (P := P) (w := w) (base := base) Z F_m_law (c_m__law_right := D_m__law_right) (c_m__law_urn := D_m__law_urn)
  have D_m_law : DfG P w K mg base "law" 11 _ := ⟨⟨_, _, _, O_m_law, PySem.W.mg_of X G a_m_law, k_m_law, B_m_law⟩⟩
  exact O_m_law
end Tr
end F_D77
section F_A1
set_option Elab.async false
set_option maxRecDepth 100000
set_option linter.all false
namespace Tr
open PySem PySem.Spec PyProof.Rows L2 LamX Vf
open SX (S)
theorem vb (m : M) (k : T → Cl → M) (ρ : Sls) : bnd m k ρ = (show M from fun ρ => match m ρ with
  | some (.ok t c ρ') => k t c ρ'
  | some (.er x) => some (.er x)
  | none => none) ρ := rfl
theorem vc (t : T) (ρ : Sls) : ret t ρ = (show M from fun ρ => some (.ok t .va ρ)) ρ := rfl
theorem wU (i : Nat) (ρ : Sls) : var i ρ = (show M from fun ρ => match ρ[i]? with
  | some (.va t) => some (.ok t .va ρ)
  | some (.ow t) => some (.ok t (.bo i) ρ)
  | some (.lk t) => some (.ok t (.bo i) ρ)
  | some (.kd l) => some (.ok (.dct l) .va ρ)
  | _ => none) ρ := rfl
theorem ve (ma mb : M) (f : F2) (ρ : Sls) : op2 ma mb f ρ = (show M from bnd ma fun ta ca => bnd mb fun tb _ => fun ρ => Jg (f (Jd ca ta ρ) tb) ρ) ρ := rfl
theorem Ko  (a : T) (b : T) : WG a b = (show F2 from fI fun i j => some (.int (i - j))) a b := rfl
theorem kJ  (a : T) (b : T) : WC a b = (show F2 from fI fun i j => if 0 < j ∧ j.natAbs.log2 < 9000 then some (.int (i / j)) else none) a b := rfl
theorem wn  (a : T) (b : T) : Wu a b = (show F2 from fI fun i j => if 0 < j then some (.int (i % j)) else none) a b := rfl
theorem kK  (a : T) (b : T) : WH a b = (show F2 from fI fun i j => if 0 ≤ j ∧ j ≤ 1000000 ∧ i.natAbs < 2 ^ 64 then some (.int (i ^ j.toNat)) else none) a b := rfl
theorem KK  (a : T) (b : T) : fEq a b = (show F2 from fun a b => (eqT a b).map fun c => (.bl c, false)) a b := rfl
theorem KL  (a : T) (b : T) : fNe a b = (show F2 from fun a b => if ku a b = true then none else (eqT a b).map fun c => (.bl (!c), false)) a b := rfl
theorem vi  (a : T) (b : T) : fIn a b = (show F2 from fun a b => (inT a b).map fun c => (.bl c, false)) a b := rfl
theorem jr  (a : T) (b : T) : fNotIn a b = (show F2 from fun a b => (inT a b).map fun c => (.bl (!c), false)) a b := rfl
theorem vj  (a : T) (b : T) : fIs a b = (show F2 from fun a b => (isT a b).map fun c => (.bl c, false)) a b := rfl
theorem js  (a : T) (b : T) : fIsNot a b = (show F2 from fun a b => (isT a b).map fun c => (.bl (!c), false)) a b := rfl
theorem vg  (ρ : Sls) : noA ρ = (show MA from fun ρ => some (.ok [] ρ)) ρ := rfl
theorem jH (m : M) (ma : MA) (ρ : Sls) : jb m ma ρ = (show MA from fun ρ => match m ρ with
  | some (.ok t c ρ1) => match ma ρ1 with
    | some (.ok ts ρ2) => some (.ok ((Jd c t ρ2, c) :: ts) ρ2)
    | some (.er x) => some (.er x)
    | none => none
  | some (.er x) => some (.er x)
  | none => none) ρ := rfl
theorem kL (mA : MA) (ρ : Sls) : vD mA ρ = (show M from Km mA fun ts ρ => if jo ts = true ∧ ts.length ≤ big then some (.ok (.lst (ts.map (·.1))) .ow ρ) else none) ρ := rfl
theorem kM (mA : MA) (ρ : Sls) : jj mA ρ = (show M from Km mA fun ts ρ => if jo ts = true ∧ ts.length ≤ big then some (.ok (.tup (ts.map (·.1))) .va ρ) else none) ρ := rfl
theorem jL (mA : MA) (f : FA) (ρ : Sls) : km mA f ρ = (show M from Km mA fun ts ρ => Jg (f (ts.map (·.1))) ρ) ρ := rfl
theorem kN (m : M) (k : Bool → T → Cl → M) (ρ : Sls) : WE m k ρ = (show M from bnd m fun t c ρ => match Jy t with | some b => k b t c ρ | none => none) ρ := rfl
theorem vk (ma mb : M) (ρ : Sls) : orM ma mb ρ = (show M from WE ma fun b t c => if b = true then fun ρ => some (.ok t c ρ) else mb) ρ := rfl
theorem kO (ma mb : M) (ρ : Sls) : Wf ma mb ρ = (show M from WE ma fun b t c => if b = true then mb else fun ρ => some (.ok t c ρ)) ρ := rfl
theorem kP (m : M) (ρ : Sls) : notM m ρ = (show M from WE m fun b _ _ ρ => some (.ok (.bl (!b)) .va ρ)) ρ := rfl
theorem kQ (m : M) (ρ : Sls) : Wl m ρ = (show M from m) ρ := rfl
theorem kR (m : M) (ρ : Sls) : Kr m ρ = (show M from WE m fun b _ _ ρ => some (.ok (.bl b) .va ρ)) ρ := rfl
theorem vm (m : M) (k : Bool → M) (ρ : Sls) : blM m k ρ = (show M from bnd m fun t _ => match t with
  | .bl b => k b
  | _ => fun _ => none) ρ := rfl
theorem vn (b : Bool) (ρ : Sls) : blv b ρ = (show M from fun ρ => some (.ok (.bl b) .va ρ)) ρ := rfl
theorem kS (m : M) (ρ : Sls) : KU m ρ = (show M from blM m fun b => blv (!b)) ρ := rfl
theorem kT (ma mb : M) (ρ : Sls) : andT ma mb ρ = (show M from blM ma fun b => if b = true then mb else blv false) ρ := rfl
theorem vp (ma mb : M) (ρ : Sls) : orT ma mb ρ = (show M from blM ma fun b => if b = true then blv true else mb) ρ := rfl
theorem vB (mc ma mb : M) (ρ : Sls) : ifE mc ma mb ρ = (show M from blM mc fun b => if b = true then ma else mb) ρ := rfl
theorem kE (m : M) (k : T → Cl → MS) (ρ : Sls) : Wg m k ρ = (show MS from fun ρ => match m ρ with
  | some (.ok t c ρ') => k t c ρ'
  | some (.er x) => some (.er x)
  | none => none) ρ := rfl
theorem vq (m : M) (k : Bool → MS) (ρ : Sls) : blS m k ρ = (show MS from Wg m fun t _ => match t with
  | .bl b => k b
  | _ => fun _ => none) ρ := rfl
theorem kU  (ρ : Sls) : kq ρ = (show MS from fun ρ => some (.nx ρ)) ρ := rfl
theorem kF (ms mr : MS) (ρ : Sls) : jn ms mr ρ = (show MS from fun ρ => match ms ρ with
  | some (.nx ρ') => mr ρ'
  | r => r) ρ := rfl
theorem vt (mc : M) (ma mb : MS) (ρ : Sls) : ifS mc ma mb ρ = (show MS from blS mc fun b => if b = true then ma else mb) ρ := rfl
theorem kW (m : M) (ρ : Sls) : expS m ρ = (show MS from Wg m fun _ _ ρ => some (.nx ρ)) ρ := rfl
theorem kG (m : M) (ρ : Sls) : vL m ρ = (show MS from fun ρ => Wg m (fun t c ρ' => match c with
  | .va => some (.rt t false ρ')
  | .ow => some (.rt t true ρ')
  | .bo _ => none) (frz ρ)) ρ := rfl
theorem Kj (own : Bool) (i : Nat) (t : T) (c : Cl) (ρ : Sls) : jB own i t c ρ = (show MG from fun t c ρ => match ρ[i]? with
  | none => none
  | some (.lk _) => none
  | some (.kd _) => none
  | some s => if i = 0 ∧ s.priv = true then none else match c with
    | .va => some (ρ.set i (.va t))
    | .ow => if own = true then some (ρ.set i (.ow t)) else none
    | .bo _ => none) t c ρ := rfl
theorem kX (own : Bool) (m : M) (g : MG) (ρ : Sls) : wp own m g ρ = (show MS from Wg m fun t c ρ => match stO own c with
  | some c' => match g t c' ρ with
    | some ρ' => some (.nx ρ')
    | none => none
  | none => none) ρ := rfl
theorem kH  (ts : List T) (ρ : Sls) : KI ts ρ = (show MGs from fun ts ρ => match ts with
  | [] => some ρ
  | _ => none) ts ρ := rfl
theorem jI (g : MG) (gs : MGs) (ts : List T) (ρ : Sls) : vd g gs ts ρ = (show MGs from fun ts ρ => match ts with
  | t :: ts => match g t .va ρ with
    | some ρ' => gs ts ρ'
    | none => none
  | [] => none) ts ρ := rfl
theorem kI (gs : MGs) (t : T) (c : Cl) (ρ : Sls) : KM gs t c ρ = (show MG from fun t c ρ => match t with
  | .tup l => gs l ρ
  | .tpu l => gs l ρ
  | _ => none) t c ρ := rfl
theorem kY (k : Nat) (m : M) (ρ : Sls) : appS k m ρ = (show MS from fun ρ => match ρ[k]? with
  | some (.ow (.lst _)) => Wg m (fun t c ρ => if c.free = true then match ρ[k]? with
    | some (.ow (.lst l)) => if l.length ≤ big then some (.nx (ρ.set k (.ow (.lst (l ++ [t]))))) else none
    | _ => none
    else none) ρ
  | _ => none) ρ := rfl
theorem kZ (k : Nat) (m : M) (t : T) (c : Cl) (ρ : Sls) : WF k m t c ρ = (show MG from fun t c ρ => match c with
  | .va => match ρ[k]? with
    | some (.ow l) => match m ρ with
      | some (.ok i _ ρ1) => match ρ1[k]? with
        | some (.ow l) => match JG l i t with
          | some l' => some (ρ1.set k (.ow l'))
          | none => none
        | _ => none
      | _ => none
    | _ => none
  | _ => none) t c ρ := rfl
theorem wa (mi : MI) (g : MG) (body : MS) (ρ : Sls) : KZ mi g body ρ = (show MS from fun ρ => match mi ρ with
  | some (.ok l ρ1) => Wv g body l ρ1
  | some (.er x) => some (.er x)
  | none => none) ρ := rfl
theorem wb (m : M) (ρ : Sls) : JT m ρ = (show MI from fun ρ => match m ρ with
  | some (.ok t c ρ') => match c with
    | .bo i => match ρ'[i]? with
      | some (.lk _) => (itT t).map fun l => .ok l ρ'
      | _ => none
    | _ => (itT t).map fun l => .ok l ρ'
  | some (.er x) => some (.er x)
  | none => none) ρ := rfl
theorem Kp (mA : MA) (ρ : Sls) : Wm mA ρ = (show MI from fun ρ => match mA ρ with
  | some (.ok [(.int j, _)] ρ') => if -(2 ^ 62) ≤ j ∧ j < 2 ^ 62 then some (.ok (rgs 0 j.toNat) ρ') else none
  | some (.ok _ _) => none
  | some (.er x) => some (.er x)
  | none => none) ρ := rfl
theorem JL (mA : MA) (ρ : Sls) : rngI2 mA ρ = (show MI from fun ρ => match mA ρ with
  | some (.ok [(.int i, _), (.int j, _)] ρ') => if (-(2 ^ 62) ≤ i ∧ i < 2 ^ 62 ∧ -(2 ^ 62) ≤ j ∧ j < 2 ^ 62) then some (.ok (rgs i (j - i).toNat) ρ') else none
  | some (.ok _ _) => none
  | some (.er x) => some (.er x)
  | none => none) ρ := rfl
theorem jM (mA : MA) (mf : MF) (ρ : Sls) : jK mA mf ρ = (show M from Km mA fun ts ρ => if jo ts = true then match mf (ts.map (·.1)) with
    | some (.ok t b) => some (.ok t (Jr b) ρ)
    | some (.er x) => some (.er x)
    | none => none
  else none) ρ := rfl
theorem jN (i : Nat) (mA : MA) (mf : MC) (ρ : Sls) : Jx i mA mf ρ = (show M from fun ρ => match ρ[i]? with
  | some (.ow _) => Km mA (fun ts ρ => if jo ts = true then match ρ[i]? with
    | some (.ow tc) => match mf tc (ts.map (·.1)) with
      | some ((t, b), tc') => some (.ok t (Jr b) (ρ.set i (.ow tc')))
      | none => none
    | _ => none
    else none) ρ
  | _ => none) ρ := rfl
theorem jt (C : Addr) (fld : Str) (m : M) (ρ : Sls) : raise1 C fld m ρ = (show MS from Wg m fun t c _ => if c.free = true then some (.er ⟨C, [(fld, t)]⟩) else none) ρ := rfl
theorem wc (n : Nat) (mb : MS) (ts : List T) : runF n mb ts = (show MF from fun ts => match mb (ts.map .va ++ List.replicate (n - ts.length) .no) with
  | some (.rt t b _) => some (.ok t b)
  | some (.nx _) => some (.ok .non false)
  | some (.er x) => some (.er x)
  | _ => none) ts := rfl
theorem wd (k n : Nat) (mb : MS) (ts : List T) : vH k n mb ts = (show MF from fun ts => if ts.length = k then runF n mb ts else none) ts := rfl
theorem we (k n : Nat) (mb : MS) (tc : T) (ts : List T) : KY k n mb tc ts = (show MC from fun tc ts => if ts.length + 1 = k then Ju (mb (.ow tc :: (ts.map .va ++ List.replicate (n - (ts.length + 1)) .no))) else none) tc ts := rfl
theorem ju (ma mb mc : M) (f f' : F2) (ρ : Sls) : KO ma mb mc f f' ρ = (show M from bnd ma fun ta ca => bnd mb fun tb cb => fun ρ => match cb with
  | .va => match f (Jd ca ta ρ) tb with
    | some (.bl true, false) => bnd mc (fun tc _ => fun ρ => Jg (f' tb tc) ρ) ρ
    | some (.bl false, false) => some (.ok (.bl false) .va ρ)
    | _ => none
  | _ => none) ρ := rfl
theorem vv (m : M) (lo hi : Option Nat) (ρ : Sls) : slM m lo hi ρ = (show M from bnd m fun t _ => fun ρ => Jg (slT lo hi t) ρ) ρ := rfl
theorem jO (mo m : M) (ρ : Sls) : joinM mo m ρ = (show M from bnd mo fun ta _ => fun ρ => match ta with
  | .str a => bnd m (fun t _ ρ => match joinT (.str a) t with | some u => some (.ok u .va ρ) | none => none) ρ
  | _ => none) ρ := rfl
theorem jv (mo m : M) (ρ : Sls) : splitM mo m ρ = (show M from bnd mo fun ta _ => fun ρ => match ta with
  | .str a => bnd m (fun t _ ρ => match splitT (.str a) t with | some u => some (.ok u .ow ρ) | none => none) ρ
  | _ => none) ρ := rfl
theorem wf (m : M) (ρ : Sls) : fmt1 m ρ = (show M from bnd m fun t _ ρ => match fmtT t with | some z => some (.ok (.str z) .va ρ) | none => none) ρ := rfl
theorem wg (C : Addr) (f : Str) (m : M) (ρ : Sls) : fldM C f m ρ = (show M from bnd m fun t _ ρ => match t with
  | .obj C' fs => if C' = C then match fs.lookup f with
    | some u => some (.ok u .va ρ)
    | none => none
    else none
  | _ => none) ρ := rfl
theorem jP (C : Addr) (m : M) (mf : MF) (ρ : Sls) : Wo C m mf ρ = (show M from bnd m fun t _ ρ => match t with
  | .obj C' fs => if C' = C then match mf [.obj C' fs] with
    | some (.ok u b) => some (.ok u (Jr b) ρ)
    | _ => none
    else none
  | _ => none) ρ := rfl
theorem JM (C : Addr) (nm : Str) (mo : M) (mA : MA) (mf : MF) (ρ : Sls) : methM C nm mo mA mf ρ = (show M from bnd mo fun t _ => match t with
  | .obj C' fs => if C' = C ∧ fs.lookup nm = none then Km mA fun ts ρ => if jo ts = true then JA ρ (mf (.obj C' fs :: ts.map (·.1))) else none
    else fun _ => none
  | _ => fun _ => none) ρ := rfl
theorem jQ (mA : MA) (mf : MF) (ρ : Sls) : makeM mA mf ρ = (show M from Km mA fun ts ρ => if jo ts = true then match mf (ts.map (·.1)) with
    | some (.ok t _) => some (.ok t .va ρ)
    | some (.er x) => some (.er x)
    | none => none
  else none) ρ := rfl
theorem vz (C : Addr) (mf : MF) (a : T) (b : T) : eqO C mf a b = (show F2 from fun a b => match a with
  | .obj C' fs => if C' = C then match b with
      | .obj C'' gs => if C'' = C then eqB mf (.obj C' fs) (.obj C'' gs) else none
      | b => match tyT b with
        | some _ => if b.ld = true then none else eqB mf (.obj C' fs) b
        | none => none
    else none
  | a => fEq a b) a b := rfl
theorem vA (C : Addr) (mf : MF) (a : T) (b : T) : neO C mf a b = (show F2 from fun a b => match a with
  | .obj C' fs => match b with
      | .obj C'' gs => if C' = C ∧ C'' = C then (match mf [.obj C' fs, .obj C'' gs] with
        | some (.ok (.bl k) false) => some (.bl (!k), false)
        | _ => none) else none
      | _ => none
  | a => fNe a b) a b := rfl
theorem wh  (a : T) (b : T) : fIsC a b = (show F2 from fun a b => (isC a b).map fun c => (.bl c, false)) a b := rfl
theorem jl  (a : T) (b : T) : fIsNotC a b = (show F2 from fun a b => (isC a b).map fun c => (.bl (!c), false)) a b := rfl
theorem wi (mi mo : M) (ρ : Sls) : inDM mi mo ρ = (show M from bnd mi fun ti _ => bnd mo fun td _ => fun ρ => match td with
  | .dct l => match Jh ti with
    | some k => some (.ok (.bl (Wb l k).isSome) .va ρ)
    | none => none
  | _ => none) ρ := rfl
theorem jm (mi mo : M) (ρ : Sls) : notinDM mi mo ρ = (show M from bnd mi fun ti _ => bnd mo fun td _ => fun ρ => match td with
  | .dct l => match Jh ti with
    | some k => some (.ok (.bl (!(Wb l k).isSome)) .va ρ)
    | none => none
  | _ => none) ρ := rfl
theorem jR (mo mi : M) (ρ : Sls) : Kn mo mi ρ = (show M from bnd mo fun td cd => bnd mi fun ti _ => fun ρ => match Jd cd td ρ with
  | .dct l => match Jh ti with
    | some k => match Wb l k with
      | some t => some (.ok t .va ρ)
      | none => none
    | none => none
  | _ => none) ρ := rfl
theorem wj (m : M) (ρ : Sls) : ascM m ρ = (show M from bnd m fun t _ ρ => match t with
  | .lst l => match lets l with
    | some cs => if cs.length < 64 then some (.ok (.lst (lsT (asc cs))) .ow ρ) else none
    | none => none
  | _ => none) ρ := rfl
theorem jh (mo m : M) (ρ : Sls) : partitionM mo m ρ = (show M from bnd mo fun ta _ => fun ρ => match ta with
  | .str a => bnd m (fun t _ ρ => match partT (.str a) t with | some u => some (.ok u .va ρ) | none => none) ρ
  | _ => none) ρ := rfl
theorem ky (i j : Nat) (mA : MA) (ρ : Sls) : WB i j mA ρ = (show MS from fun ρ => match mA ρ with
  | some (.ok [(t, c), (u, d)] ρ1) => if c.free = true ∧ d.free = true then match jB false i t .va ρ1 with
      | some ρ2 => match jB false j u .va ρ2 with
        | some ρ3 => some (.nx ρ3)
        | none => none
      | none => none
    else none
  | some (.er x) => some (.er x)
  | _ => none) ρ := rfl
theorem jS (i : Nat) (ms : MS) (ρ : Sls) : lockS i ms ρ = (show MS from fun ρ => match ρ[i]? with
  | some (.ow t) => if i = 0 then none else match ms (ρ.set i (.lk t)) with
    | some (.nx ρ') => some (.nx (ρ'.set i (.ow t)))
    | some (.bk ρ') => some (.bk (ρ'.set i (.ow t)))
    | some (.ct ρ') => some (.ct (ρ'.set i (.ow t)))
    | r => r
  | _ => ms ρ) ρ := rfl
theorem jw (mf : MF) (ρ : Sls) : callF0 mf ρ = (show M from fun ρ => JA ρ (mf [])) ρ := rfl
theorem wk (m : M) (ρ : Sls) : Ws m ρ = (show M from bnd m fun t _ ρ => match t with
  | .int i => some (.ok (.int (-i)) .va ρ)
  | _ => none) ρ := rfl
theorem jT (m : M) (mA : MA) (mf : MC) (ρ : Sls) : callT m mA mf ρ = (show M from bnd m fun tc c => match c with
  | .ow => Km mA fun ts ρ => if jo ts = true then match mf tc (ts.map (·.1)) with
      | some ((t, false), _) => some (.ok t .va ρ)
      | _ => none
    else none
  | _ => fun _ => none) ρ := rfl
theorem jU (ix : List Nat) (mA : MA) (mf : MF) (ρ : Sls) : callK ix mA mf ρ = (show M from jK mA fun ts => mf (pk ix ts)) ρ := rfl
theorem jV (C : Addr) (nm : Str) (ix : List Nat) (mo : M) (mA : MA) (mf : MF) (ρ : Sls) : methK C nm ix mo mA mf ρ = (show M from bnd mo fun t _ => match t with
  | .obj C' fs => if C' = C ∧ fs.lookup nm = none then Km mA fun ts ρ => if jo ts = true then JA ρ (mf (.obj C' fs :: pk ix (ts.map (·.1)))) else none
    else fun _ => none
  | _ => fun _ => none) ρ := rfl
theorem jW (ix : List Nat) (mA : MA) (mf : MF) (ρ : Sls) : makeK ix mA mf ρ = (show M from makeM mA fun ts => mf (pk ix ts)) ρ := rfl
theorem wl (k : Nat) (ρ : Sls) : keyI k ρ = (show MI from fun ρ => match ρ[k]? with
  | some (.kd l) => some (.ok (l.map fun p => tK p.1) ρ)
  | _ => none) ρ := rfl
theorem jx (k : Nat) (m : MS) (ρ : Sls) : lockDS k m ρ = (show MS from fun ρ => match ρ[k]? with
  | some (.va (.dct l)) => JH k l (m (ρ.set k (.kd l)))
  | _ => m ρ) ρ := rfl
theorem jy (mo mi md : M) (ρ : Sls) : dgetDM mo mi md ρ = (show M from bnd mo fun td cd => match td with
  | .dct _ => bnd mi fun ti ci => bnd md fun tx cx => fun ρ => match Jd cd td ρ with
    | .dct l => match Jh ti, cx with
      | some k, .va => match Wb l k with
        | some t => some (.ok t .va ρ)
        | none => some (.ok tx .va ρ)
      | _, _ => none
    | _ => none
  | _ => fun _ => none) ρ := rfl
theorem jz (mo m : M) (ρ : Sls) : countM mo m ρ = (show M from bnd mo fun ta ca => match ca with
  | .va => match ta.row with
    | some (false, l) => bnd m fun t _ ρ => match kw l t with
      | some u => some (.ok u .va ρ)
      | none => none
    | _ => fun _ => none
  | _ => fun _ => none) ρ := rfl
theorem wm (mA : MA) (ρ : Sls) : zipI mA ρ = (show MI from fun ρ => match mA ρ with
  | some (.ok ts ρ') => match ts with
    | [(t, .va), (u, .va)] => match t.row, u.row with
      | some (false, l), some (false, k) => some (.ok (Wi l k) ρ')
      | _, _ => none
    | _ => none
  | some (.er x) => some (.er x)
  | none => none) ρ := rfl
theorem jX (mA : MA) (ρ : Sls) : enumI mA ρ = (show MI from fun ρ => match mA ρ with
  | some (.ok ts ρ') => match ts with
    | [(t, .va)] => match t.row with
      | some (false, l) => some (.ok (enumT 0 l) ρ')
      | _ => none
    | _ => none
  | some (.er x) => some (.er x)
  | none => none) ρ := rfl
theorem JN  (a : T) (b : T) : kg a b = (show F2 from fun a b => match a.tupl, b.tupl with
  | some l, some k => if l.length + k.length ≤ big then match l, k with
      | [], _ => some (b, false)
      | _, [] => some (a, false)
      | _, _ => some (.tpu (l ++ k), false)
    else none
  | _, _ => Wk a b) a b := rfl
theorem JJ (mo : Option M) (k : Option Int → M) (ρ : Sls) : bO mo k ρ = (show M from match mo with
  | none => k none
  | some m => bnd m fun t _ => match t with
    | .int i => k (some i)
    | _ => fun _ => none) ρ := rfl
theorem kz (m : M) (lo hi : Option M) (ρ : Sls) : Wy m lo hi ρ = (show M from bnd m fun t c => bO lo fun l => bO hi fun u => fun ρ => Jg (Jw l u (Jd c t ρ)) ρ) ρ := rfl
theorem jY (i j l : Nat) (mA : MA) (ρ : Sls) : parS3 i j l mA ρ = (show MS from fun ρ => match mA ρ with
  | some (.ok [(t, c), (u, d), (w, e)] ρ1) => if c.free = true ∧ d.free = true ∧ e.free = true then match jB false i t .va ρ1 with
      | some ρ2 => match jB false j u .va ρ2 with
        | some ρ3 => match jB false l w .va ρ3 with
          | some ρ4 => some (.nx ρ4)
          | none => none
        | none => none
      | none => none
    else none
  | some (.er x) => some (.er x)
  | _ => none) ρ := rfl
theorem jZ (mA : MA) (ρ : Sls) : rng3I mA ρ = (show MI from fun ρ => match mA ρ with
  | some (.ok [(.int i, _), (.int j, _), (.int c, _)] ρ') => if c = -1 ∧ (-(2 ^ 62) ≤ i ∧ i < 2 ^ 62 ∧ -(2 ^ 62) ≤ j ∧ j < 2 ^ 62) then some (.ok ((List.range (i - j).toNat).map fun k => .int (i + ((k : Nat) : Int) * -1)) ρ') else none
  | some (.er x) => some (.er x)
  | _ => none) ρ := rfl
theorem jJ (mA : MA) (k : List (T × Cl) → M) (ρ : Sls) : Km mA k ρ = (match mA ρ with | some (.ok ts ρ') => k ts ρ' | some (.er x) => some (.er x) | none => none) := rfl
end Tr
end F_A1
section F_C1
set_option Elab.async false
set_option maxRecDepth 100000
set_option maxHeartbeats 4000000
set_option linter.all false
namespace Tr
open PySem PySem.Spec PyProof.Rows L2 LamX Vf
open SX (S)
/-- a fraction as a tree -/
abbrev frT (n d : Int) : T := .tup [.int n, .int d]
/-- a part -/
def partB (n d : Int) : Bool := decide (0 < d) && (decide ((Int.gcd n d : Int) = 1) && (decide (0 ≤ n ∧ n ≤ d) && decide (d ≤ 1000000000000)))
/-- letters as a tree -/
def leT (l : List Nat) : List T := l.map fun c => .str [c]
abbrev arT (l : List Nat) : T := .tup (leT l)
theorem lt1 (a b : Nat) : (([a] : List Nat) < [b]) = (a < b) := by
  simp [List.cons_lt_cons_iff]
/-- what stands for a place -/
inductive Wh where
  | ar (l : List Nat) | en (n d : Int)
deriving DecidableEq
abbrev Rows := List (Nat × Wh)
def whT : Wh → T
  | .ar l => arT l
  | .en n d => frT n d
abbrev pairT (p : Nat × Wh) : T := .tup [.str [p.1], whT p.2]
abbrev rowsT (R : Rows) : T := .tup (R.map pairT)
abbrev webT (ad : String → Addr) (R : Rows) : T := .obj (ad "Web") [("_rows", rowsT R)]
def Wh.isEn : Wh → Bool
  | .ar _ => false
  | .en _ _ => true
def Wh.arrows : Wh → List Nat
  | .ar l => l
  | .en _ _ => []
/-- short and with right numbers -/
def Wh.ok : Wh → Prop
  | .ar l => l.length ≤ 26
  | .en n d => partB n d = true
end Tr
end F_C1
section F_C2
set_option Elab.async false
set_option maxRecDepth 100000
set_option maxHeartbeats 4000000
set_option linter.all false
namespace Tr
open PySem PySem.Spec PyProof.Rows L2 LamX Vf
open SX (S)
theorem Sls_ext {ρ ρ2 : Sls} {vs : List Nat} (h : jk ρ2 vs = jk ρ vs) : backR ρ ρ2 vs = ρ := by
  have hl : ρ2.length = ρ.length := by have := congrArg List.length h; rwa [wH, wH] at this
  apply List.ext_getElem?
  intro i
  by_cases c : i ∈ vs
  · exact backR_in c hl
  · rw [JS c, ← wu (ρ := ρ2) c, h, wu c]
theorem compM_m {α : Type} {g : MG} {mt me : M} {vs : List Nat} {ρ : Sls} (e : α → T) (G : α → Sls) (f : α → T) (p : α → Bool) (l : List α)
    (h : ∀ x ∈ l, g (e x) .va (jk ρ vs) = some (G x) ∧ jk (G x) vs = jk ρ vs ∧ (∃ c, mt (G x) = some (.ok (.bl (p x)) c (G x))) ∧ (p x = true → ∃ c, me (G x) = some (.ok (f x) c (G x)) ∧ c.free = true)) :
    ∀ acc ρ', jk ρ' vs = jk ρ vs → acc.length + l.length ≤ big → ∃ ρ2, Wc g mt me vs (l.map e) acc ρ' = some (acc ++ (l.filter p).map f, ρ2) ∧ jk ρ2 vs = jk ρ vs := by
  induction l with
  | nil => intro acc ρ' h1 h2; exact ⟨ρ', by simp [Wc], h1⟩
  | cons x l ih =>
    intro acc ρ' h1 h2
    simp only [List.length_cons] at h2
    obtain ⟨a1, a2, ⟨c, a3⟩, a4⟩ := h x (List.mem_cons_self ..)
    rw [List.map_cons]
    unfold Wc
    rw [h1, a1]
    cases hp : p x with
    | false =>
      rw [hp] at a3
      simp only [a3]
      obtain ⟨ρ2, b1, b2⟩ := ih (fun y hy => h y (List.mem_cons_of_mem _ hy)) acc (G x) a2 (by omega)
      exact ⟨ρ2, by rw [b1, List.filter_cons_of_neg (by simp [hp])], b2⟩
    | true =>
      rw [hp] at a3
      obtain ⟨c', a5, a6⟩ := a4 hp
      simp only [a3, a5]
      rw [if_pos ⟨a6, by omega⟩]
      obtain ⟨ρ2, b1, b2⟩ := ih (fun y hy => h y (List.mem_cons_of_mem _ hy)) (acc ++ [f x]) (G x) a2 (by simp; omega)
      exact ⟨ρ2, by rw [b1, List.filter_cons_of_pos hp]; simp, b2⟩
theorem lcM_m {α : Type} {mi : MI} {g : MG} {mt me : M} {vs : List Nat} {ρ : Sls} (l : List α) (e : α → T) (G : α → Sls) (f : α → T) (p : α → Bool) (hi : mi ρ = some (.ok (l.map e) ρ)) (hl : l.length ≤ big)
    (h : ∀ x ∈ l, g (e x) .va (jk ρ vs) = some (G x) ∧ jk (G x) vs = jk ρ vs ∧ (∃ c, mt (G x) = some (.ok (.bl (p x)) c (G x))) ∧ (p x = true → ∃ c, me (G x) = some (.ok (f x) c (G x)) ∧ c.free = true)) :
    lcM mi g mt me vs ρ = some (.ok (.lst ((l.filter p).map f)) .ow ρ) := by
  unfold lcM
  simp only [hi]
  obtain ⟨ρ2, b1, b2⟩ := compM_m e G f p l h [] ρ rfl (by simpa using hl)
  simp only [b1, List.nil_append, Sls_ext b2]
theorem filt_true {α : Type} (l : List α) : l.filter (fun _ => true) = l := List.filter_eq_self.mpr fun _ _ => rfl
theorem lcM_a {α : Type} {mi : MI} {g : MG} {me : M} {vs : List Nat} {ρ : Sls} (l : List α) (e : α → T) (G : α → Sls) (f : α → T) (hi : mi ρ = some (.ok (l.map e) ρ)) (hl : l.length ≤ big)
    (h : ∀ x ∈ l, g (e x) .va (jk ρ vs) = some (G x) ∧ jk (G x) vs = jk ρ vs ∧ (∃ c, me (G x) = some (.ok (f x) c (G x)) ∧ c.free = true)) :
    lcM mi g (fun ρ => some (.ok (.bl true) .va ρ)) me vs ρ = some (.ok (.lst (l.map f)) .ow ρ) := by
  have := lcM_m (mt := fun ρ => some (.ok (.bl true) .va ρ)) l e G f (fun _ => true) hi hl fun x hx => ⟨(h x hx).1, (h x hx).2.1, ⟨.va, rfl⟩, fun _ => (h x hx).2.2⟩
  rwa [filt_true] at this
/-- a slot that holds nothing of one's own -/
def Jk (s : Sl) : Prop := s.fx = false ∧ s.priv = false
theorem KT : Jk .no := ⟨rfl, rfl⟩
theorem Wj (t : T) : Jk (.va t) := ⟨rfl, rfl⟩
theorem setG_j {s : Sl} (j : Jk s) {own : Bool} {i : Nat} {t : T} {ρ : Sls} (e : ρ[i]? = some s) : jB own i t .va ρ = some (ρ.set i (.va t)) := by
  unfold jB
  rw [e]
  cases s <;> simp_all [Jk, Sl.fx, Sl.priv]
theorem KQ {s : Sl} (j : Jk s) : JI s = s := by
  cases s <;> simp_all [Jk, Sl.fx, Sl.priv, JI]
theorem rngI_eq {mA : MA} {ρ ρ' : Sls} {c : Cl} {n : Nat} (e : mA ρ = some (.ok [(.int n, c)] ρ')) (h : n ≤ 1000000) : Wm mA ρ = some (.ok (rgs 0 n) ρ') := by
  unfold Wm
  rw [e]
  exact (if_pos ⟨by omega, by omega⟩).trans (by rw [Int.toNat_natCast])
abbrev kc (c : Nat) : Key := .inr (S [c])
def dT (l : List (Nat × T)) : List (Key × T) := l.map fun p => (kc p.1, p.2)
theorem dT_cons (p : Nat × T) (l : List (Nat × T)) : dT (p :: l) = (kc p.1, p.2) :: dT l := rfl
def lk {α : Type} : List (Nat × α) → Nat → Option α
  | [], _ => none
  | (d, t) :: l, c => if d = c then some t else lk l c
def put {α : Type} : List (Nat × α) → Nat → α → List (Nat × α)
  | [], c, t => [(c, t)]
  | (d, u) :: l, c, t => if d = c then (d, t) :: l else (d, u) :: put l c t
theorem kc_inj {a b : Nat} : (kc a = kc b) = (a = b) := by
  simp only [eq_iff_iff]
  constructor
  · intro h; injection h with h; have := S_inj h; simpa using this
  · intro h; rw [h]
theorem getT_d (l : List (Nat × T)) (c : Nat) : Wb (dT l) (.inr (S [c])) = lk l c := by
  induction l with
  | nil => rfl
  | cons p l ih =>
    show (if kc p.1 = kc c then some p.2 else Wb (dT l) (kc c)) = _
    simp only [kc_inj, lk]
    split <;> first | rfl | exact ih
theorem hasT_d (l : List (Nat × T)) (c : Nat) : hasT (dT l) (kc c) = (lk l c).isSome := by
  induction l with
  | nil => rfl
  | cons p l ih =>
    simp only [hasT, dT_cons, List.any_cons, kc_inj, lk] at ih ⊢
    split <;> simp_all
/-- no letter twice -/
def Nod {α : Type} (l : List (Nat × α)) : Prop := (l.map (·.1)).Nodup
theorem lk_none {α : Type} {l : List (Nat × α)} {c : Nat} (h : c ∉ l.map (·.1)) : lk l c = none := by
  induction l with
  | nil => rfl
  | cons p l ih =>
    simp only [List.map_cons, List.mem_cons, not_or] at h
    have e : ¬ p.1 = c := fun z => h.1 z.symm
    show (if p.1 = c then some p.2 else lk l c) = none
    rw [if_neg e]
    exact ih h.2
theorem lk_some {α : Type} {l : List (Nat × α)} {c : Nat} {t : α} (h : lk l c = some t) : (c, t) ∈ l := by
  induction l with
  | nil => cases h
  | cons p l ih =>
    obtain ⟨d, u⟩ := p
    simp only [lk] at h
    split at h
    · rename_i e; cases h; subst e; exact List.mem_cons_self ..
    · exact List.mem_cons_of_mem _ (ih h)
theorem lk_mem {α : Type} {l : List (Nat × α)} (n : Nod l) {c : Nat} {t : α} (h : (c, t) ∈ l) : lk l c = some t := by
  induction l with
  | nil => cases h
  | cons p l ih =>
    obtain ⟨d, u⟩ := p
    simp only [Nod, List.map_cons, List.nodup_cons] at n
    simp only [lk]
    rcases List.mem_cons.mp h with h | h
    · cases h; rw [if_pos rfl]
    · rw [if_neg, ih n.2 h]
      intro z; subst z
      exact n.1 (List.mem_map.mpr ⟨_, h, rfl⟩)
theorem lk_isSome {α : Type} {l : List (Nat × α)} {c : Nat} : (lk l c).isSome = decide (c ∈ l.map (·.1)) := by
  induction l with
  | nil => rfl
  | cons p l ih =>
    obtain ⟨d, u⟩ := p
    simp only [lk, List.map_cons, List.mem_cons]
    by_cases e : d = c
    · simp [e]
    · have e' : ¬ c = d := fun z => e z.symm
      simp [e, e', ih]
theorem lk_map {α β : Type} (f : α → β) (l : List (Nat × α)) (c : Nat) : lk (l.map fun p => (p.1, f p.2)) c = (lk l c).map f := by
  induction l with
  | nil => rfl
  | cons p l ih =>
    simp only [List.map_cons, lk]
    split <;> first | rfl | exact ih
theorem map_put (l : List (Nat × T)) (n : Nod l) (c : Nat) (t : T) (h : (lk l c).isSome = true) : (dT l).map (fun p => if p.1 = kc c then (p.1, t) else p) = dT (put l c t) := by
  induction l with
  | nil => cases h
  | cons p l ih =>
    obtain ⟨d, u⟩ := p
    simp only [Nod, List.map_cons, List.nodup_cons] at n
    simp only [lk] at h
    simp only [dT_cons, List.map_cons, kc_inj, put]
    by_cases e : d = c
    · subst e
      simp only [if_true, dT_cons]
      congr 1
      unfold dT
      rw [List.map_map]
      apply List.map_congr_left
      intro q hq
      simp only [Function.comp_apply, kc_inj]
      rw [if_neg]
      intro z; exact n.1 (z ▸ List.mem_map.mpr ⟨_, hq, rfl⟩)
    · rw [if_neg e] at h
      simp only [if_neg e, dT_cons]
      rw [ih n.2 h]
theorem put_new {α : Type} (l : List (Nat × α)) (c : Nat) (t : α) (h : lk l c = none) : put l c t = l ++ [(c, t)] := by
  induction l with
  | nil => rfl
  | cons p l ih =>
    obtain ⟨d, u⟩ := p
    simp only [lk] at h
    split at h
    · cases h
    · rename_i e; simp only [put, if_neg e, List.cons_append, ih h]
theorem putT_d (l : List (Nat × T)) (n : Nod l) (c : Nat) (t : T) : WA (dT l) (.inr (S [c])) t = dT (put l c t) := by
  show WA (dT l) (kc c) t = _
  unfold WA
  rw [hasT_d]
  cases h : (lk l c).isSome with
  | true => rw [if_pos rfl, map_put l n c t h]
  | false =>
    rw [if_neg (by simp), put_new _ _ _ (by simpa using h)]
    simp [dT]
theorem put_keys {α : Type} (l : List (Nat × α)) (c : Nat) (t : α) : (put l c t).map (·.1) = if c ∈ l.map (·.1) then l.map (·.1) else l.map (·.1) ++ [c] := by
  induction l with
  | nil => simp [put]
  | cons p l ih =>
    obtain ⟨d, u⟩ := p
    simp only [put, List.map_cons, List.mem_cons]
    by_cases e : d = c
    · simp [e]
    · have e' : ¬ c = d := fun z => e z.symm
      simp only [if_neg e, List.map_cons, ih, e', false_or]
      split <;> simp
theorem put_nod {α : Type} {l : List (Nat × α)} (n : Nod l) (c : Nat) (t : α) : Nod (put l c t) := by
  unfold Nod
  rw [put_keys]
  split
  · exact n
  · rename_i h
    rw [List.nodup_append]
    exact ⟨n, by simp, fun a ha b hb => by simp at hb; subst hb; exact fun z => h (z ▸ ha)⟩
theorem foldl_put {α : Type} (ke : α → Nat) (f : α → T) (l : List α) : ∀ acc : List (Nat × T), (∀ x ∈ l, ke x ∉ acc.map (·.1)) → (l.map ke).Nodup → l.foldl (fun a x => put a (ke x) (f x)) acc = acc ++ l.map fun x => (ke x, f x) := by
  induction l with
  | nil => intro acc _ _; simp
  | cons x l ih =>
    intro acc h n
    simp only [List.map_cons, List.nodup_cons] at n
    rw [List.foldl_cons, put_new _ _ _ (lk_none (h x (List.mem_cons_self ..))), ih]
    · simp
    · intro y hy
      simp only [List.map_append, List.map_cons, List.map_nil, List.mem_append, List.mem_singleton, not_or]
      exact ⟨h y (List.mem_cons_of_mem _ hy), fun z => n.1 (z ▸ List.mem_map.mpr ⟨y, hy, rfl⟩)⟩
    · exact n.2
/-- dict(pairs) -/
theorem pairsT_d (l : List (Nat × T)) : KP (l.map fun p => .tup [.str [p.1], p.2]) = some (dT l) := by
  induction l with
  | nil => rfl
  | cons p l ih => simp only [List.map_cons, KP, Jh, ih, dT_cons]
theorem mergeT_d (l : List (Nat × T)) (n : Nod l) : mergeT [] (dT l) = dT l := by
  have : ∀ (l acc : List (Nat × T)), Nod acc → (dT l).foldl (fun acc kv => WA acc kv.1 kv.2) (dT acc) = dT (l.foldl (fun a p => put a p.1 p.2) acc) := by
    intro l
    induction l with
    | nil => intro acc _; rfl
    | cons p l ih => intro acc n; rw [List.foldl_cons, ← ih _ (put_nod n p.1 p.2), ← putT_d acc n p.1 p.2]; rfl
  show (dT l).foldl _ (dT []) = _
  rw [this l [] (by simp [Nod]), foldl_put (fun p : Nat × T => p.1) (fun p => p.2) l [] (by simp) n]
  simp
end Tr
end F_C2
section F_C3
set_option Elab.async false
set_option maxRecDepth 100000
set_option maxHeartbeats 4000000
set_option linter.all false
namespace Tr
open PySem PySem.Spec PyProof.Rows L2 LamX Vf
open SX (S)
def places (R : Rows) : List Nat := R.map (·.1)
def ends (R : Rows) : List Nat := (R.filter fun p => p.2.isEn).map (·.1)
structure WOk (R : Rows) : Prop where
  len : R.length ≤ 26
  nod : Nod R
  ok : ∀ p ∈ R, p.2.ok
  to : ∀ p ∈ R, ∀ c ∈ p.2.arrows, c ∈ places R
abbrev ok1 (t : T) : Option OutF := some (.ok t false)
variable (ad : String → Addr)
abbrev what (R : Rows) (c : Nat) : Wh := (lk R c).getD (.ar [])
theorem what_some {R : Rows} {c : Nat} (hc : c ∈ places R) : ∃ w, lk R c = some w ∧ what R c = w ∧ (c, w) ∈ R := by
  have h : (lk R c).isSome = decide (c ∈ places R) := lk_isSome
  rw [decide_eq_true hc] at h
  obtain ⟨w, hw⟩ := Option.isSome_iff_exists.mp h
  exact ⟨w, hw, by simp [what, hw], lk_some hw⟩
theorem WOk.what_ok {R : Rows} (h : WOk R) {c : Nat} (hc : c ∈ places R) : (what R c).ok := by
  obtain ⟨w, _, e, m⟩ := what_some hc
  rw [e]; exact h.ok _ m
theorem mem_ends {R : Rows} {c : Nat} (h : c ∈ ends R) : c ∈ places R := by
  obtain ⟨p, hp, e⟩ := List.mem_map.mp h
  exact List.mem_map.mpr ⟨p, (List.mem_filter.mp hp).1, e⟩
/-- the number of an end -/
def Wh.num : Wh → Int × Int
  | .ar _ => (0, 1)
  | .en n d => (n, d)
theorem ends_what {R : Rows} (h : WOk R) {c : Nat} (hc : c ∈ ends R) : what R c = .en (what R c).num.1 (what R c).num.2 := by
  obtain ⟨p, hp, e⟩ := List.mem_map.mp hc
  obtain ⟨h1, h2⟩ := List.mem_filter.mp hp
  have : lk R c = some p.2 := lk_mem h.nod (by rw [← e]; exact h1)
  have e2 : what R c = p.2 := by simp [what, this]
  rw [e2]
  cases p with
  | mk a w => cases w with
    | ar l => simp [Wh.isEn] at h2
    | en n d => rfl
def botF (R : Rows) (b : Int) (c : Nat) : Int := ((Nat.lcm b.natAbs (what R c).num.2.natAbs : Nat) : Int)
def bot (R : Rows) : Int := (ends R).foldl (botF R) 1
/-- all bottoms go into a number that is not too great -/
structure Sm (R : Rows) (D : Nat) : Prop where
  lt : D < 18446744073709551616
  pos : 0 < D
  dvd : ∀ c ∈ ends R, (what R c).num.2.natAbs ∣ D
theorem part_bnd {R : Rows} (h : WOk R) {c : Nat} (hc : c ∈ ends R) : 0 ≤ (what R c).num.1 ∧ (what R c).num.1 ≤ (what R c).num.2 ∧ 0 < (what R c).num.2 ∧ (what R c).num.2 ≤ 1000000000000 := by
  have e := h.what_ok (mem_ends hc)
  rw [ends_what h hc] at e
  have e : partB _ _ = true := e
  simp only [partB, Bool.and_eq_true, decide_eq_true_eq] at e
  omega
end Tr
end F_C3
section F_C4
set_option Elab.async false
set_option maxRecDepth 100000
set_option maxHeartbeats 4000000
set_option linter.all false
namespace Tr
open PySem PySem.Spec PyProof.Rows L2 LamX Vf
open SX (S)
variable (ad : String → Addr)
def Wa (a b : Int) : Int × Int := (a / (Int.gcd a b : Int), b / (Int.gcd a b : Int))
def getI (t : List (Nat × Int)) (c : Nat) : Int := (lk t c).getD 0
def minL (l : List Int) : Int := (Ww (fun a b => decide (a ≤ b)) l).getD 0
def maxL (l : List Int) : Int := (Ww (fun a b => decide (b ≤ a)) l).getD 0
def leads (R : Rows) (c : Nat) : List Nat := if (what R c).arrows = [] then [c] else (what R c).arrows
def halves (R : Rows) (t : List (Nat × Int)) (c : Nat) : Int := minL ((leads R c).map (getI t)) + maxL ((leads R c).map (getI t))
def tb (R : Rows) (t : List (Nat × Int)) : List (Nat × Int) := (places R).map fun c => (c, halves R t c)
/-- a table of all places -/
def Tab (R : Rows) (t : List (Nat × Int)) : Prop := t.map (·.1) = places R
theorem Tab.get {R : Rows} {t : List (Nat × Int)} (h : Tab R t) {c : Nat} (hc : c ∈ places R) : lk t c = some (getI t c) := by
  have e : (lk t c).isSome = decide (c ∈ t.map (·.1)) := lk_isSome
  rw [show t.map (·.1) = places R from h, decide_eq_true hc] at e
  obtain ⟨x, hx⟩ := Option.isSome_iff_exists.mp e
  simp [getI, hx]
/-- what is needed within no moves -/
def tz (R : Rows) (edge : Int) : List (Nat × Int) := (places R).map fun c => (c, if (what R c).isEn = true then (what R c).num.1 * (bot R / (what R c).num.2) else edge * bot R)
def tw (R : Rows) (edge : Int) : Nat → List (Nat × Int)
  | 0 => tz R edge
  | k + 1 => tb R (tw R edge k)
end Tr
end F_C4
section F_C5
set_option Elab.async false
set_option maxRecDepth 100000
set_option maxHeartbeats 4000000
set_option linter.all false
namespace Tr
open PySem PySem.Spec PyProof.Rows L2 LamX Vf
open SX (S)
set_option maxRecDepth 1000000
variable (ad : String → Addr)
theorem bot_pos {R : Rows} (h : WOk R) : 0 < bot R := by
  have : ∀ (l : List Nat) (b : Int), (∀ c ∈ l, c ∈ ends R) → 0 < b → 0 < l.foldl (botF R) b := by
    intro l
    induction l with
    | nil => intro b _ hb; exact hb
    | cons c l ih =>
      intro b hl hb
      rw [List.foldl_cons]
      refine ih _ (fun d hd => hl d (List.mem_cons_of_mem _ hd)) ?_
      have := part_bnd h (hl c (List.mem_cons_self ..))
      show 0 < ((Nat.lcm b.natAbs (what R c).num.2.natAbs : Nat) : Int)
      have : 0 < Nat.lcm b.natAbs (what R c).num.2.natAbs := Nat.lcm_pos (by omega) (by omega)
      omega
  exact this _ _ (fun c hc => hc) (by decide)
/-- what is needed within so many moves -/
def nwF (R : Rows) (edge : Int) (n : Nat) (c : Nat) : Int × Int := Wa (getI (tw R edge n) c) (bot R * 2 ^ n)
end Tr
end F_C5
section F_C6
set_option Elab.async false
set_option maxRecDepth 100000
set_option maxHeartbeats 4000000
set_option linter.all false
namespace Tr
open PySem PySem.Spec PyProof.Rows L2 LamX Vf
open SX (S)
variable (ad : String → Addr)
theorem whileM_step {mc : M} {body : MS} {n : Nat} {ρ ρ1 ρ2 : Sls} {c : Cl} (h1 : mc ρ = some (.ok (.bl true) c ρ1)) (h2 : body ρ1 = some (.nx ρ2)) : Kf mc body (n + 1) ρ = Kf mc body n ρ2 := by
  simp only [Kf, h1, h2]
theorem whileM_end {mc : M} {body : MS} {n : Nat} {ρ ρ1 : Sls} {c : Cl} (h1 : mc ρ = some (.ok (.bl false) c ρ1)) : Kf mc body (n + 1) ρ = some (.nx ρ1) := by
  simp only [Kf, h1]
theorem lots_eq : lots = 1000000000000000000000000000000000000000000000000000000000000 := rfl
/-- numbers of at most so much: sums and products stay small enough -/
abbrev Lt29 (i : Int) : Prop := -100000000000000000000000000000 < i ∧ i < 100000000000000000000000000000
theorem mul_ok {a b : Int} (ha : Lt29 a) (hb : Lt29 b) : fMul' a b = some (.int (a * b)) := by
  unfold fMul'
  rw [if_pos]
  refine .inr (.inr ?_)
  have : a.natAbs.log2 < 200 := by
    by_cases z : a.natAbs = 0
    · rw [z]; decide
    · exact (Nat.log2_lt z).mpr (by omega)
  have : b.natAbs.log2 < 200 := by
    by_cases z : b.natAbs = 0
    · rw [z]; decide
    · exact (Nat.log2_lt z).mpr (by omega)
  omega
theorem fMul_ok {a b : Int} (ha : Lt29 a) (hb : Lt29 b) : vK (.int a) (.int b) = some (.int (a * b), false) := by
  simp only [vK, fI, mul_ok ha hb, Option.map_some]
def under (p q : Int × Int) : Bool := decide (p.1 * q.2 < q.1 * p.2)
abbrev fT (p : Int × Int) : T := frT p.1 p.2
/-- a fraction whose numbers are small -/
structure Fr29 (p : Int × Int) : Prop where
  a : Lt29 p.1
  b : Lt29 p.2
  pos : 0 < p.2
end Tr
end F_C6
section F_C7
set_option Elab.async false
set_option maxRecDepth 100000
set_option maxHeartbeats 4000000
set_option linter.all false
namespace Tr
open PySem PySem.Spec PyProof.Rows L2 LamX Vf
open SX (S)
variable (ad : String → Addr)
structure Fr14 (p : Int × Int) : Prop where
  a : p.1.natAbs < 100000000000000
  b : p.2.natAbs < 100000000000000
  pos : 0 < p.2
theorem Fr14.to {p : Int × Int} (h : Fr14 p) : Fr29 p := ⟨by have := h.a; omega, by have := h.b; omega, h.pos⟩
theorem low_bnd (a b : Int) (hb : 0 < b) : (Wa a b).1.natAbs ≤ a.natAbs ∧ (Wa a b).2.natAbs ≤ b.natAbs ∧ 0 < (Wa a b).2 := by
  have h0 : 0 < (Int.gcd a b : Int) := by
    have : Int.gcd a b ≠ 0 := fun z => by have := (Int.gcd_eq_zero_iff.mp z).2; omega
    omega
  refine ⟨Int.natAbs_ediv_le_natAbs _ _, Int.natAbs_ediv_le_natAbs _ _, ?_⟩
  exact Int.ediv_pos_of_pos_of_dvd hb (by omega) (Int.gcd_dvd_right ..)
theorem kit_ss : kitB "str" "str" = some true := by decide +kernel
theorem kit_is : kitB "int" "str" = some false := by decide +kernel
end Tr
end F_C7
section F_C8
set_option Elab.async false
set_option maxRecDepth 100000
set_option maxHeartbeats 4000000
set_option linter.all false
namespace Tr
open PySem PySem.Spec PyProof.Rows L2 LamX Vf
open SX (S)
variable (ad : String → Addr)
theorem bls_map {α : Type} (f : α → Bool) (L : List α) : bls (L.map fun x => T.bl (f x)) = some (L.map f) := by
  induction L with
  | nil => rfl
  | cons a L ih => simp only [List.map_cons, bls, ih, Option.map_some]
theorem fAll_map {α : Type} (f : α → Bool) (L : List α) : KJ [.lst (L.map fun x => T.bl (f x))] = some (.bl (L.all f), false) := by
  simp only [KJ, bls_map, Option.map_some, List.all_map]
  rfl
def isLet (c : Nat) : Bool := decide (97 ≤ c ∧ c ≤ 122)
def ascB (l : List Nat) : Bool := (List.range (l.length - 1)).all fun k => decide (l.getD k 0 < l.getD (k + 1) 0)
end Tr
end F_C8
section F_C9
set_option Elab.async false
set_option maxRecDepth 100000
set_option maxHeartbeats 4000000
set_option linter.all false
namespace Tr
open PySem PySem.Spec PyProof.Rows L2 LamX Vf
open SX (S)
variable (ad : String → Addr)
def addL (l : List Nat) (c : Nat) : List Nat := if l.contains c = true then l else l ++ [c]
def stW (led : List Nat) (p : Nat × Wh) : List Nat := if (p.2.arrows.any fun c => led.contains c) = true then addL led p.1 else led
def ledC (R : Rows) : List Nat := R.foldl (fun led _ => R.foldl stW led) (ends R)
def homeC (R : Rows) : Bool := R.all fun p => (ledC R).contains p.1
structure RowsOk (R : Rows) : Prop where
  web : WOk R
  ne : 1 ≤ R.length
  le : R.length ≤ 10
  let_ : ∀ p ∈ R, isLet p.1 = true
  ar : ∀ p ∈ R, ∀ l, p.2 = .ar l → l ≠ [] ∧ l.all isLet = true ∧ ascB l = true
  asc : ascB (places R) = true
  home : homeC R = true
end Tr
end F_C9
section F_C10
set_option Elab.async false
set_option maxRecDepth 100000
set_option maxHeartbeats 4000000
set_option linter.all false
namespace Tr
open PySem PySem.Spec PyProof.Rows L2 LamX Vf
open SX (S)
variable (ad : String → Addr)
abbrev Ar := List (Nat × List Nat)
abbrev Ai := List (Nat × Nat)
abbrev To := List (Nat × Int)
/-- arrows of some places -/
structure ArOk (A : Ar) : Prop where
  nod : Nod A
  len : A.length ≤ 26
  ar : ∀ p ∈ A, p.2.length ≤ 26 ∧ ∀ c ∈ p.2, c < 1000
end Tr
end F_C10
section F_C11
set_option Elab.async false
set_option maxRecDepth 100000
set_option maxHeartbeats 4000000
set_option linter.all false
namespace Tr
open PySem PySem.Spec PyProof.Rows L2 LamX Vf
open SX (S)
variable (ad : String → Addr)
def Sz (i : Int) : Prop := i.natAbs.log2 < 8000
instance (i : Int) : Decidable (Sz i) := inferInstanceAs (Decidable (_ < _))
end Tr
end F_C11
section F_C12
set_option Elab.async false
set_option maxRecDepth 100000
set_option maxHeartbeats 4000000
set_option linter.all false
namespace Tr
open PySem PySem.Spec PyProof.Rows L2 LamX Vf
open SX (S)
variable (ad : String → Addr)
def getA (l : Ai) (c : Nat) : Nat := (lk l c).getD 0
def getL (l : Ar) (c : Nat) : List Nat := (lk l c).getD []
theorem lk_keys {α : Type} {l : List (Nat × α)} {c : Nat} (h : c ∈ l.map (·.1)) : ∃ x, lk l c = some x := by
  have e : (lk l c).isSome = decide (c ∈ l.map (·.1)) := lk_isSome
  rw [decide_eq_true h] at e
  exact Option.isSome_iff_exists.mp e
end Tr
end F_C12
section F_C14
set_option Elab.async false
set_option maxRecDepth 100000
set_option maxHeartbeats 4000000
set_option linter.all false
namespace Tr
open PySem PySem.Spec PyProof.Rows L2 LamX Vf
open SX (S)
variable (ad : String → Addr)
/-- arrows and numbers of a web -/
structure ANok (A : Ar) (N : To) : Prop where
  a : ArOk A
  nn : Nod N
  nl : N.length ≤ 26
  dis : ∀ c ∈ A.map (·.1), c ∉ N.map (·.1)
  nsz : ∀ p ∈ N, Sz p.2
  to : ∀ p ∈ A, ∀ c ∈ p.2, c ∈ N.map (·.1) ∨ c ∈ A.map (·.1)
end Tr
end F_C14
section F_C15
set_option Elab.async false
set_option maxRecDepth 100000
set_option maxHeartbeats 4000000
set_option linter.all false
namespace Tr
open PySem PySem.Spec PyProof.Rows L2 LamX Vf
open SX (S)
variable (ad : String → Addr)
/-- letters -/
def Lts (R : Rows) : Prop := ∀ c ∈ places R, c < 1000
end Tr
end F_C15
section F_Cs
set_option Elab.async false
set_option maxRecDepth 100000
set_option maxHeartbeats 4000000
set_option linter.all false
namespace Tr
open PySem PySem.Spec PyProof.Rows L2 LamX Vf
open SX (S)
/-- a script -/
def Scr (t : T) (ns : List Int) : Prop := t = T.sq (ns.map .int) ∨ t = T.lst (ns.map .int)
end Tr
end F_Cs
section F_C16
set_option Elab.async false
set_option maxRecDepth 100000
set_option maxHeartbeats 4000000
set_option linter.all false
namespace Tr
open PySem PySem.Spec PyProof.Rows L2 LamX Vf
open SX (S)
variable (ad : String → Addr)
abbrev WI (a b : Int) : T := .lst [.int a, .int b]
end Tr
end F_C16
section F_N1
set_option Elab.async false
set_option linter.all false
namespace Nd
abbrev V := Nat → Int
end Nd
end F_N1
section F_N2
set_option Elab.async false
set_option linter.all false
namespace Nd
def upd (g : Nat → V) (k : Nat) (c : V) : Nat → V := fun j => if j = k then c else g j
def unit (k : Nat) : V := fun i => if i = k then 1 else 0
/-- the first k columns, then units -/
def bk (m : Nat → V) (k : Nat) : Nat → V := fun j => if j < k then m j else unit j
end Nd
end F_N2
section F_C21
set_option Elab.async false
set_option maxRecDepth 100000
set_option maxHeartbeats 4000000
set_option linter.all false
namespace Tr
open PySem PySem.Spec PyProof.Rows L2 LamX Vf
open SX (S)
/-- where it stands; behind the last for what is not there -/
def ix (P : List Nat) (c : Nat) : Nat := P.idxOf c
end Tr
end F_C21
section F_C22
set_option Elab.async false
set_option maxRecDepth 100000
set_option maxHeartbeats 4000000
set_option linter.all false
namespace Tr
open PySem PySem.Spec PyProof.Rows L2 LamX Vf
open SX (S)
def Sm128 (N : To) : Prop := ∀ p ∈ N, p.2.natAbs ≤ 2 ^ 128
end Tr
end F_C22
section F_C23
set_option Elab.async false
set_option maxRecDepth 100000
set_option maxHeartbeats 4000000
set_option linter.all false
namespace Tr
open PySem PySem.Spec PyProof.Rows L2 LamX Vf
open SX (S)
/-- the whole setting: arrows, numbers, the places without a number in the order of the aims -/
structure Set_ (A : Ar) (N : To) (K : List Nat) : Prop where
  an : ANok A N
  nod : K.Nodup
  key : ∀ c, c ∈ K ↔ c ∈ A.map (·.1)
  len : K.length ≤ 10
  sm : Sm128 N
structure Va (A : Ar) (K : List Nat) (F : Ai) : Prop where
  key : F.map (·.1) = K
  aim : ∀ p ∈ F, p.2 ∈ getL A p.1
section
variable {A : Ar} {N : To} {K : List Nat}
theorem Va.at_ {F : Ai} (v : Va A K F) (n : K.Nodup) {c : Nat} (hc : c ∈ K) : (c, getA F c) ∈ F ∧ getA F c ∈ getL A c := by
  have hc' : c ∈ F.map (·.1) := by rw [v.key]; exact hc
  obtain ⟨p, hp, rfl⟩ := List.mem_map.mp hc'
  have : lk F p.1 = some p.2 := lk_mem (show Nod F by unfold Nod; rw [v.key]; exact n) hp
  have e : getA F p.1 = p.2 := by simp [getA, this]
  rw [e]
  exact ⟨hp, v.aim p hp⟩
theorem Set_.to (h : Set_ A N K) {c a : Nat} (hc : c ∈ K) (ha : a ∈ getL A c) : a ∈ N.map (·.1) ∨ a ∈ K := by
  obtain ⟨l, hl⟩ := lk_keys ((h.key c).mp hc)
  have e : getL A c = l := by simp [getL, hl]
  rw [e] at ha
  have := h.an.to _ (lk_some hl) a ha
  exact this.imp id fun z => (h.key a).mpr z
/-- the one table is at most the other one -/
def Le (K : List Nat) (t : Nat → Int) (d : Int) (t' : Nat → Int) (d' : Int) : Prop := ∀ c ∈ K, t c * d' ≤ t' c * d
end
end Tr
end F_C23
section F_C25
set_option Elab.async false
set_option maxRecDepth 100000
set_option maxHeartbeats 4000000
set_option linter.all false
namespace Tr
open PySem PySem.Spec PyProof.Rows L2 LamX Vf
open SX (S)
section
variable {A : Ar} {N : To} {K : List Nat}
theorem Le.trans {t t' t'' : Nat → Int} {d d' d'' : Int} (h : Le K t d t' d') (k : Le K t' d' t'' d'') (p : 0 < d) (p' : 0 < d') (p'' : 0 < d'') : Le K t d t'' d'' := by
  intro c hc
  have h1 := h c hc
  have h2 := k c hc
  have h3 : t c * d' * d'' ≤ t' c * d * d'' := Int.mul_le_mul_of_nonneg_right h1 (by omega)
  have h4 : t' c * d'' * d ≤ t'' c * d' * d := Int.mul_le_mul_of_nonneg_right h2 (by omega)
  have e1 : t c * d' * d'' = (t c * d'') * d' := by rw [Int.mul_assoc, Int.mul_assoc, Int.mul_comm d']
  have e2 : t' c * d * d'' = t' c * d'' * d := by rw [Int.mul_assoc, Int.mul_assoc, Int.mul_comm d]
  have e3 : t'' c * d' * d = (t'' c * d) * d' := by rw [Int.mul_assoc, Int.mul_assoc, Int.mul_comm d']
  rw [e1, e2] at h3
  rw [e3] at h4
  exact Int.le_of_mul_le_mul_right (Int.le_trans h3 h4) p'
end
end Tr
end F_C25
section F_C28
set_option Elab.async false
set_option maxRecDepth 100000
set_option maxHeartbeats 4000000
set_option linter.all false
namespace Tr
open PySem PySem.Spec PyProof.Rows L2 LamX Vf
open SX (S)
variable (ad : String → Addr)
/-- a pair that is this fraction -/
theorem low_cr (a b : Int) (hb : 0 < b) : (Wa a b).1 * b = a * (Wa a b).2 ∧ 0 < (Wa a b).2 := by
  obtain ⟨-, -, p⟩ := low_bnd a b hb
  refine ⟨?_, p⟩
  obtain ⟨x, hx⟩ : (Int.gcd a b : Int) ∣ a := Int.gcd_dvd_left ..
  obtain ⟨y, hy⟩ : (Int.gcd a b : Int) ∣ b := Int.gcd_dvd_right ..
  have h0 : (Int.gcd a b : Int) ≠ 0 := by
    have : Int.gcd a b ≠ 0 := fun z => by have := (Int.gcd_eq_zero_iff.mp z).2; omega
    omega
  obtain ⟨g, hg⟩ : ∃ g : Int, g = (Int.gcd a b : Int) := ⟨_, rfl⟩
  unfold Wa
  simp only
  rw [← hg] at h0 hx hy ⊢
  rw [hx, hy, Int.mul_ediv_cancel_left _ h0, Int.mul_ediv_cancel_left _ h0]
  rw [Int.mul_comm g x, Int.mul_assoc, Int.mul_left_comm]
theorem low_eq {a b a' b' : Int} (hb : 0 < b) (hb' : 0 < b') (e : a * b' = a' * b) : Wa a b = Wa a' b' := by
  have g1 : (Int.gcd a b : Int) * b' = (Int.gcd a' b' : Int) * b := by
    have h1 : Int.gcd (a * b') (b * b') = Int.gcd a b * b'.natAbs := Int.gcd_mul_right ..
    have h2 : Int.gcd (a' * b) (b' * b) = Int.gcd a' b' * b.natAbs := Int.gcd_mul_right ..
    rw [e, Int.mul_comm b b', h2] at h1
    have h3 : ((Int.gcd a' b' * b.natAbs : Nat) : Int) = ((Int.gcd a b * b'.natAbs : Nat) : Int) := by rw [h1]
    simp only [Int.natCast_mul] at h3
    have h4 : ((b.natAbs : Nat) : Int) = b := by omega
    have h5 : ((b'.natAbs : Nat) : Int) = b' := by omega
    rw [h4, h5] at h3
    exact h3.symm
  have p1 : (Int.gcd a b : Int) ≠ 0 := by
    have : Int.gcd a b ≠ 0 := fun z => by have := (Int.gcd_eq_zero_iff.mp z).2; omega
    omega
  have p2 : (Int.gcd a' b' : Int) ≠ 0 := by
    have : Int.gcd a' b' ≠ 0 := fun z => by have := (Int.gcd_eq_zero_iff.mp z).2; omega
    omega
  obtain ⟨x, hx⟩ : (Int.gcd a b : Int) ∣ a := Int.gcd_dvd_left ..
  obtain ⟨y, hy⟩ : (Int.gcd a b : Int) ∣ b := Int.gcd_dvd_right ..
  obtain ⟨x', hx'⟩ : (Int.gcd a' b' : Int) ∣ a' := Int.gcd_dvd_left ..
  obtain ⟨y', hy'⟩ : (Int.gcd a' b' : Int) ∣ b' := Int.gcd_dvd_right ..
  obtain ⟨g, hg⟩ : ∃ g : Int, g = (Int.gcd a b : Int) := ⟨_, rfl⟩
  obtain ⟨g', hg'⟩ : ∃ g : Int, g = (Int.gcd a' b' : Int) := ⟨_, rfl⟩
  unfold Wa
  rw [← hg, ← hg']
  rw [← hg] at p1 hx hy g1
  rw [← hg'] at p2 hx' hy' g1
  clear hg hg'
  rw [hx, hy, hx', hy', Int.mul_ediv_cancel_left _ p1, Int.mul_ediv_cancel_left _ p1, Int.mul_ediv_cancel_left _ p2, Int.mul_ediv_cancel_left _ p2]
  have e1 : y' = y := by
    have : (g * g') * y' = (g * g') * y := by rw [hy, hy'] at g1; grind
    exact Int.eq_of_mul_eq_mul_left (Int.mul_ne_zero p1 p2) this
  have yn : y ≠ 0 := by intro z; rw [z, Int.mul_zero] at hy; omega
  have e2 : x = x' := by
    have : (g * g' * y) * x = (g * g' * y) * x' := by rw [hx, hx', hy, hy', e1] at e; grind
    exact Int.eq_of_mul_eq_mul_left (Int.mul_ne_zero (Int.mul_ne_zero p1 p2) yn) this
  rw [e1, e2]
end Tr
end F_C28
section F_C31
set_option Elab.async false
set_option maxRecDepth 100000
set_option maxHeartbeats 4000000
set_option linter.all false
namespace Tr
open PySem PySem.Spec PyProof.Rows L2 LamX Vf
open SX (S)
theorem mul_den (a d : Int) (hd : 0 < d) : Rat.divInt a d * (d : Rat) = (a : Rat) := by
  have hd' : (d : Rat) ≠ 0 := by
    intro z
    have : d = 0 := Rat.intCast_inj.mp z
    omega
  rw [Rat.divInt_eq_div]
  exact Rat.div_mul_cancel hd'
/-- the number that a pair stands for -/
def val (p : Int × Int) : Rat := Rat.divInt p.1 p.2
theorem castp {d : Int} (h : 0 < d) : (0 : Rat) < (d : Rat) := by
  have := Rat.intCast_lt_intCast.mpr h
  exact this
theorem val_low (a d : Int) (hd : 0 < d) : val (Wa a d) = Rat.divInt a d := by
  obtain ⟨c, p⟩ := low_cr a d hd
  unfold val
  exact (Rat.divInt_eq_divInt_iff (by omega) (by omega)).mpr c
theorem low_pos {a d : Int} (hd : 0 < d) : 0 < (Wa a d).2 := (low_cr a d hd).2
theorem val_lt (p q : Int × Int) (hp : 0 < p.2) (hq : 0 < q.2) : p.1 * q.2 < q.1 * p.2 ↔ val p < val q := by
  have h1 := mul_den p.1 p.2 hp
  have h2 := mul_den q.1 q.2 hq
  have c1 := castp hp
  have c2 := castp hq
  rw [← Rat.intCast_lt_intCast, Rat.intCast_mul, Rat.intCast_mul, ← h1, ← h2]
  have e1 : Rat.divInt p.1 p.2 * (p.2 : Rat) * (q.2 : Rat) = val p * ((p.2 : Rat) * (q.2 : Rat)) := by unfold val; grind
  have e2 : Rat.divInt q.1 q.2 * (q.2 : Rat) * (p.2 : Rat) = val q * ((p.2 : Rat) * (q.2 : Rat)) := by unfold val; grind
  rw [e1, e2]
  exact Rat.mul_lt_mul_right (Rat.mul_pos c1 c2)
theorem under_val (p q : Int × Int) (hp : 0 < p.2) (hq : 0 < q.2) : under p q = decide (val p < val q) := by
  unfold under
  by_cases h : p.1 * q.2 < q.1 * p.2
  · rw [decide_eq_true h, decide_eq_true ((val_lt p q hp hq).mp h)]
  · rw [decide_eq_false h, decide_eq_false (fun z => h ((val_lt p q hp hq).mpr z))]
theorem low_twice (a b : Int) (hb : 0 < b) : Wa (Wa a b).1 (Wa a b).2 = Wa a b := by
  obtain ⟨c, p⟩ := low_cr a b hb
  exact low_eq p hb c
/-- by lowest numbers -/
def Low (p : Int × Int) : Prop := 0 < p.2 ∧ Wa p.1 p.2 = p
theorem low_Low (a d : Int) (hd : 0 < d) : Low (Wa a d) := ⟨low_pos hd, low_twice a d hd⟩
theorem val_inj {p q : Int × Int} (hp : Low p) (hq : Low q) (h : val p = val q) : p = q := by
  unfold val at h
  have e := (Rat.divInt_eq_divInt_iff (by have := hp.1; omega) (by have := hq.1; omega)).mp h
  rw [← hp.2, ← hq.2]
  exact low_eq hp.1 hq.1 e
end Tr
end F_C31
section F_C32
set_option Elab.async false
set_option maxRecDepth 100000
set_option maxHeartbeats 4000000
set_option linter.all false
namespace Tr
open PySem PySem.Spec PyProof.Rows L2 LamX Vf
open SX (S)
theorem pow_pos2 (n : Nat) : (0 : Int) < 2 ^ n := Int.pow_pos (by decide)
theorem den_pos {R : Rows} (h : WOk R) (n : Nat) : 0 < bot R * 2 ^ n := Int.mul_pos (bot_pos h) (pow_pos2 n)
end Tr
end F_C32
section F_Q1
set_option Elab.async false
set_option maxRecDepth 100000
set_option maxHeartbeats 4000000
set_option linter.all false
namespace Tr
open PySem PySem.Spec PyProof.Rows L2 LamX Vf
open SX (S)
variable (ad : String → Addr)
/-- the pair of a number by lowest numbers -/
def pr (v : Rat) : Int × Int := (v.num, (v.den : Int))
def frQ (v : Rat) : T := fT (pr v)
theorem val_pr (v : Rat) : val (pr v) = v := Rat.num_divInt_den v
theorem pr_pos (v : Rat) : 0 < (pr v).2 := by have := v.den_pos; show (0 : Int) < (v.den : Int); omega
theorem pr_Low (v : Rat) : Low (pr v) := by
  refine ⟨pr_pos v, ?_⟩
  have g : Int.gcd v.num (v.den : Int) = 1 := by
    have := v.reduced
    unfold Nat.Coprime at this
    rw [Int.gcd_eq_natAbs_gcd_natAbs, Int.natAbs_natCast]
    exact this
  show Wa v.num (v.den : Int) = (v.num, (v.den : Int))
  unfold Wa
  rw [g]; simp
theorem pr_of {p : Int × Int} (h : Low p) : p = pr (val p) := val_inj h (pr_Low _) (val_pr _).symm
theorem fr_of {p : Int × Int} (h : Low p) : fT p = frQ (val p) := by
  unfold frQ; rw [← pr_of h]
theorem fr_v {p : Int × Int} {v : Rat} (h : Low p) (e : val p = v) : fT p = frQ v := by rw [← e]; exact fr_of h
/-- a number of E-th parts -/
def Pt (E : Int) (v : Rat) : Prop := ∃ k : Int, v * (E : Rat) = (k : Rat)
/-- small enough for the laws' sums -/
def Ok (v : Rat) : Prop := Fr29 (pr v)
def Cup (C : T) : Prop := ∃ a b, C = WI a b
/-- the bottom of all parts that laws draw -/
abbrev BTn : Nat := 693000000000000
structure Web_ (R : Rows) (W RT : T) : Prop where
  ok : RowsOk R
  sm : Sm R BTn
  lts : Lts R
  w : W = webT ad R
  rt : RT = rowsT R
/-- what a tree of a place is -/
def Wt (R : Rows) (c : Nat) : T := whT (what R c)
namespace Web_
variable {ad} {R : Rows} {W RT : T} (h : Web_ ad R W RT)
include h
theorem dict : ∃ D, Wd [RT] = some (.dct D, true) ∧ (∀ c ∈ places R, Wb D (.inr (S [c])) = some (Wt R c)) := by
  have m := mergeT_d (R.map fun x => (x.1, whT x.2)) (by
    unfold Nod; rw [List.map_map]; exact h.ok.web.nod)
  rw [h.rt]
  refine ⟨dT (R.map fun x => (x.1, whT x.2)), ?_, ?_⟩
  · have e : R.map pairT = (R.map fun x => (x.1, whT x.2)).map (fun x => .tup [.str [x.1], x.2]) := by rw [List.map_map]; rfl
    show Wd [.tup (R.map pairT)] = _
    rw [e]
    simp only [Wd, pairsT_d, m]
  · intro c hc
    rw [getT_d]
    obtain ⟨w, e1, e2, _⟩ := what_some hc
    rw [lk_map, e1]
    show some (whT w) = some (whT (what R c))
    rw [e2]
theorem ne : R ≠ [] := by
  intro z; have := h.ok.ne; rw [z] at this; simp at this
end Web_
end Tr
end F_Q1
section F_Q2
set_option Elab.async false
set_option maxRecDepth 100000
set_option maxHeartbeats 4000000
set_option linter.all false
namespace Tr
open PySem PySem.Spec PyProof.Rows L2 LamX Vf
open SX (S)
variable (ad : String → Addr)
theorem nxt {a b : MS} {ρ ρ1 : Sls} (h : a ρ = some (.nx ρ1)) : jn a b ρ = b ρ1 := by unfold jn; rw [h]
theorem wy {own : Bool} {i : Nat} {t : T} {ρ : Sls} (h : (ρ[i]?).elim False Jk) : jB own i t .va ρ = some (ρ.set i (.va t)) := by
  cases e : ρ[i]? with
  | none => rw [e] at h; exact h.elim
  | some s =>
    rw [e] at h
    have h : Jk s := h
    unfold jB
    rw [e]
    have h1 := h.1
    have h2 := h.2
    cases s <;> simp_all [Sl.fx, Sl.priv]
theorem cst (n d : Int) (v : Rat) (hn : v.num = n) (hd : (v.den : Int) = d) : T.tup [.int n, .int d] = frQ v := by subst hn hd; rfl
theorem for_ok {mi : MI} {g : MG} {b : MS} {l : List T} {ρ ρ1 : Sls} (h : mi ρ = some (.ok l ρ1)) : KZ mi g b ρ = Wv g b l ρ1 := by unfold KZ; rw [h]
/-- a slot that may be set to an own thing -/
def Fk (s : Sl) : Prop := s.fx = false
theorem vQ (t : T) : Fk (.ow t) = True := eq_true rfl
theorem vR (t : T) : Fk (.va t) = True := eq_true rfl
theorem vS : Fk .no = True := eq_true rfl
theorem kf (s : Sl) : (some s).elim False Fk = Fk s := rfl
theorem wN {i : Nat} {t : T} {ρ : Sls} (h : (ρ[i]?).elim False Fk) (h0 : i ≠ 0) : jB true i t .ow ρ = some (ρ.set i (.ow t)) := by
  cases e : ρ[i]? with
  | none => rw [e] at h; exact h.elim
  | some s =>
    rw [e] at h
    have h : s.fx = false := h
    unfold jB
    rw [e]
    cases s <;> simp_all [Sl.fx]
theorem vT (a b : Bool) : fNe (.bl a) (.bl b) = some (.bl (!(a == b)), false) := by cases a <;> cases b <;> rfl
theorem kA (s : Sl) : (some s).elim False Jk = Jk s := rfl
theorem jk_va' (t : T) : Jk (.va t) = True := eq_true (Wj t)
theorem jk_no' : Jk .no = True := eq_true KT
theorem vU (a b : List Nat) : fEq (.str a) (.str b) = some (.bl (decide (a = b)), false) := rfl
theorem vP (a b : Int) : fEq (.int a) (.int b) = some (.bl (decide (a = b)), false) := rfl
theorem vV (a b : Bool) : fEq (.bl a) (.bl b) = some (.bl (decide (a = b)), false) := by cases a <;> cases b <;> rfl
theorem vW (a b : List Nat) : fNe (.str a) (.str b) = some (.bl (!decide (a = b)), false) := rfl
theorem vX (a b : Int) : fNe (.int a) (.int b) = some (.bl (!decide (a = b)), false) := rfl
theorem vY (a : T) (l : List T) : atT (.tup (a :: l)) (.int 0) = some (a, false) := by
  have : (0 : Int) < (l.length : Int) + 1 := by omega
  simp [atT, T.row, L2.atI, L2.ixN, this]
theorem vZ (a b : T) (l : List T) : atT (.tup (a :: b :: l)) (.int 1) = some (b, false) := by
  have : (1 : Int) < (l.length : Int) + 1 + 1 := by omega
  simp [atT, T.row, L2.atI, L2.ixN, this]
theorem vO (a : T) (l : List T) : atT (.lst (a :: l)) (.int 0) = some (a, false) := by
  have : (0 : Int) < (l.length : Int) + 1 := by omega
  simp [atT, T.row, L2.atI, L2.ixN, this]
theorem Ja (a b : T) (l : List T) : atT (.lst (a :: b :: l)) (.int 1) = some (b, false) := by
  have : (1 : Int) < (l.length : Int) + 1 + 1 := by omega
  simp [atT, T.row, L2.atI, L2.ixN, this]
theorem wO (a b : Int) : WG (.int a) (.int b) = some (.int (a - b), false) := rfl
theorem ki (a b : Int) : kg (.int a) (.int b) = some (.int (a + b), false) := by
  simp [jJ, vb, vc, wU, ve, Ko, kJ, wn, kK, KK, KL, vi, jr, vj, js, vg, jH, kL, kM, jL, kN, vk, kO, kP, kQ, kR, vm, vn, kS, kT, vp, vB, kE, vq, kU, kF, vt, kW, kG, Kj, kX, kH, jI, kI, kY, kZ, wa, wb, Kp, JL, jM, jN, jt, wc, wd, we, ju, vv, jO, jv, wf, wg, jP, JM, jQ, vz, vA, wh, jl, wi, jm, jR, wj, jh, ky, jS, jw, wk, jT, jU, jV, jW, wl, jx, jy, jz, wm, jX, JN, JJ, kz, jY, jZ, fI, Jg, Jd, T.tupl, Wk, vK, fMul', KG, Jr, atT, T.row, L2.atI, L2.ixN, Js, jF, JG, big, Ju, wL, fGt, fGe, fLt, fLe, bo, stO, Sl.priv, Sl.fx, itT, Kq, jo, Cl.free, Jy, JC, erO, wV, tyD, tyT, isC, isT, eqT, ku, toD, Ji, inT, wQ, ko, JD, JA, kD, Jh, Jf, KB, KJ, Wq, bls, KW, KS, Wx, Jz, JH, tK, JK, JE, Ki, kw, pk, Jw, slT, Wn, frz, JI, List.lookup, List.map_cons, List.map_nil, List.length_cons, List.length_nil, List.replicate, List.cons_append, List.nil_append, List.getElem?_cons_zero, List.getElem?_cons_succ, List.set_cons_zero, List.set_cons_succ, List.getElem?_nil, jk, backR, Option.map_some, Option.map_none, Option.bind_some]
theorem kr (a b : List T) : kg (.lst a) (.lst b) = if a.length + b.length ≤ 10000000 then some (.lst (a ++ b), true) else none := by
  simp [jJ, vb, vc, wU, ve, Ko, kJ, wn, kK, KK, KL, vi, jr, vj, js, vg, jH, kL, kM, jL, kN, vk, kO, kP, kQ, kR, vm, vn, kS, kT, vp, vB, kE, vq, kU, kF, vt, kW, kG, Kj, kX, kH, jI, kI, kY, kZ, wa, wb, Kp, JL, jM, jN, jt, wc, wd, we, ju, vv, jO, jv, wf, wg, jP, JM, jQ, vz, vA, wh, jl, wi, jm, jR, wj, jh, ky, jS, jw, wk, jT, jU, jV, jW, wl, jx, jy, jz, wm, jX, JN, JJ, kz, jY, jZ, fI, Jg, Jd, T.tupl, Wk, vK, fMul', KG, Jr, atT, T.row, L2.atI, L2.ixN, Js, jF, JG, big, Ju, wL, fGt, fGe, fLt, fLe, bo, stO, Sl.priv, Sl.fx, itT, Kq, jo, Cl.free, Jy, JC, erO, wV, tyD, tyT, isC, isT, eqT, ku, toD, Ji, inT, wQ, ko, JD, JA, kD, Jh, Jf, KB, KJ, Wq, bls, KW, KS, Wx, Jz, JH, tK, JK, JE, Ki, kw, pk, Jw, slT, Wn, frz, JI, List.lookup, List.map_cons, List.map_nil, List.length_cons, List.length_nil, List.replicate, List.cons_append, List.nil_append, List.getElem?_cons_zero, List.getElem?_cons_succ, List.set_cons_zero, List.set_cons_succ, List.getElem?_nil, jk, backR, Option.map_some, Option.map_none, Option.bind_some]
  rfl
theorem kB (l : List Nat) : Wn [.str l, .ty "str"] = some (.bl true, false) := by
  simp [Wn, tyT, kit_ss, kit_is]
theorem kC (l : Int) : Wn [.int l, .ty "str"] = some (.bl false, false) := by
  simp [Wn, tyT, kit_ss, kit_is]
/-- the needs of a web -/
structure Nds (R : Rows) (W : T) (E : Int) (n : Nat → Rat) : Prop where
  E0 : 0 < E
  E1 : E ≤ 709632000000000000
  pt : ∀ c ∈ places R, Pt E (n c)
  ge : ∀ c ∈ places R, 0 ≤ n c
  le : ∀ c ∈ places R, n c ≤ 1
  en : ∀ c ∈ places R, (what R c).isEn = true → n c = val (what R c).num
  half : ∀ c ∈ places R, (what R c).isEn = false → ∃ f ∈ (what R c).arrows, ∃ s ∈ (what R c).arrows, 2 * n c = n f + n s ∧ ∀ a ∈ (what R c).arrows, n f ≤ n a ∧ n a ≤ n s
  need : ∀ c ∈ places R, m_need ad [W, .str [c]] = ok1 (frQ (n c))
  needs : m_needs ad [W] = ok1 (.tup ((places R).map fun c => frQ (n c)))
  tps : ∃ (tp : Nat → Int) (TD : List (Key × T)), (∀ c ∈ places R, 0 ≤ tp c ∧ tp c ≤ E ∧ n c = Rat.divInt (tp c) E ∧ Wb TD (.inr (S [c])) = some (.int (tp c))) ∧ m_need_tops ad [W] = ok1 (.tup [.dct TD, .int E])
end Tr
end F_Q2
section F_Q3
set_option Elab.async false
set_option maxRecDepth 100000
set_option maxHeartbeats 4000000
set_option linter.all false
namespace Tr
open PySem PySem.Spec PyProof.Rows L2 LamX Vf
open SX (S)
variable (ad : String → Addr)
/-- how many spots: at least two, at most top -/
theorem spots_of {t : T} {ns : List Int} (ht : Scr t ns) (hl : ns.length ≤ 63) (top : Nat) (h2 : 2 ≤ top) (h9 : top ≤ 9) (ρ : Sls) (hρ : ρ[0]? = some (.va t)) : ∃ n : Nat, n ≤ top ∧ Wm (jb (km (jb (ret (.int 2)) (jb (km (jb (km (jb (var 0) noA) Kq) (jb (ret (.int (top : Nat))) noA)) KW) noA)) KS) noA) ρ = some (.ok (rgs 0 n) ρ) := by
  have l1 : ns.length ≤ 10000000 := by omega
  have ln : Kq [t] = some (.int ns.length, false) := by rcases ht with rfl | rfl <;> simp [Kq, T.row, l1]
  have key : ∀ n : Nat, n ≤ top → KW [.int ns.length, .int (top : Nat)] = some (.int (min (ns.length : Int) top), false) → KS [.int 2, .int (min (ns.length : Int) top)] = some (.int n, false) → ∃ n : Nat, n ≤ top ∧ Wm (jb (km (jb (ret (.int 2)) (jb (km (jb (km (jb (var 0) noA) Kq) (jb (ret (.int (top : Nat))) noA)) KW) noA)) KS) noA) ρ = some (.ok (rgs 0 n) ρ) := by
    intro n hn e1 e2
    refine ⟨n, hn, rngI_eq (n := n) (c := .va) ?_ (by omega)⟩
    obtain ⟨N, hN⟩ : ∃ N, N = T.int ns.length := ⟨_, rfl⟩
    obtain ⟨M, hM⟩ : ∃ N, N = T.int (min (ns.length : Int) top) := ⟨_, rfl⟩
    obtain ⟨K, hK⟩ : ∃ N, N = T.int (n : Nat) := ⟨_, rfl⟩
    obtain ⟨P, hP⟩ : ∃ N, N = T.int (top : Nat) := ⟨_, rfl⟩
    rw [← hN] at ln e1
    rw [← hM] at e1 e2
    rw [← hP] at e1 ⊢
    rw [← hK] at e2 ⊢
    clear hN hM hK hP ht
    simp [jH, wU, vg, vc, jL, jJ, vb, ve, Ko, kJ, wn, kK, KK, KL, vi, jr, vj, js, kL, kM, kN, vk, kO, kP, kQ, kR, vm, vn, kS, kT, vp, vB, kE, vq, kU, kF, vt, kW, kG, Kj, kX, kH, jI, kI, kY, kZ, wa, wb, Kp, JL, jM, jN, jt, wc, wd, we, ju, vv, jO, jv, wf, wg, jP, JM, jQ, vz, vA, wh, jl, wi, jm, jR, wj, jh, ky, jS, jw, wk, jT, jU, jV, jW, wl, jx, jy, jz, wm, jX, JN, JJ, kz, jY, jZ, fI, Jg, Jd, T.tupl, Wk, vK, fMul', KG, Jr, atT, T.row, L2.atI, L2.ixN, Js, jF, JG, big, Ju, wL, fGt, fGe, fLt, fLe, bo, stO, Sl.priv, Sl.fx, itT, jo, Cl.free, Jy, JC, erO, wV, tyD, tyT, isC, isT, eqT, ku, toD, Ji, inT, wQ, ko, JD, JA, kD, Jh, Jf, KB, KJ, Wq, bls, Wx, Jz, JH, tK, JK, JE, Ki, kw, pk, Jw, slT, Wn, frz, JI, List.lookup, List.map_cons, List.map_nil, List.length_cons, List.length_nil, List.replicate, List.cons_append, List.nil_append, List.getElem?_cons_zero, List.getElem?_cons_succ, List.set_cons_zero, List.set_cons_succ, List.getElem?_nil, jk, backR, Option.map_some, Option.map_none, Option.bind_some, hρ, ln, e1, e2]
  have m1 : KW [.int ns.length, .int (top : Nat)] = some (.int (min (ns.length : Int) top), false) := by
    simp only [KW]
    congr 2
    congr 1
    split <;> omega
  rcases Nat.lt_or_ge ns.length 2 with h | h
  · refine key 2 (by omega) m1 ?_
    simp only [KS]
    congr 2
    congr 1
    split <;> omega
  · rcases Nat.lt_or_ge ns.length (top + 1) with h6 | h6
    · refine key ns.length (by omega) m1 ?_
      simp only [KS]
      congr 2
      congr 1
      split <;> omega
    · refine key top (by omega) m1 ?_
      simp only [KS]
      congr 2
      congr 1
      split <;> omega
theorem law_end {n : Nat} {mb : MS} {t r : T} {ρ0 ρ : Sls} (e : ρ0 = .va t :: List.replicate (n - 1) .no) (h : mb ρ0 = some (.rt r false ρ)) : vH 1 n mb [t] = ok1 r := by
  subst e
  show runF n mb [t] = _
  show (match mb (.va t :: List.replicate (n - 1) .no) with | some (.rt t b _) => some (OutF.ok t b) | some (.nx _) => some (.ok .non false) | some (.er x) => some (.er x) | _ => none) = _
  rw [h]
end Tr
end F_Q3
section F_Q5
set_option Elab.async false
set_option maxRecDepth 100000
set_option maxHeartbeats 4000000
set_option linter.all false
namespace Tr
open PySem PySem.Spec PyProof.Rows L2 LamX Vf
open SX (S)
variable (ad : String → Addr)
theorem lc1 {α : Type} {mi : MI} {me : M} {ρ : Sls} {j : Nat} (l : List α) (e f : α → T) (hj : j < ρ.length) (hi : mi ρ = some (.ok (l.map e) ρ)) (hl : l.length ≤ 100000)
    (h : ∀ x ∈ l, ∃ c, me (ρ.set j (.va (e x))) = some (.ok (f x) c (ρ.set j (.va (e x)))) ∧ c.free = true) :
    lcM mi (jB false j) (fun ρ => some (.ok (.bl true) .va ρ)) me [j] ρ = some (.ok (.lst (l.map f)) .ow ρ) := by
  refine lcM_a l e (fun x => ρ.set j (.va (e x))) f hi (by simp only [big]; omega) ?_
  intro x hx
  refine ⟨?_, ?_, h x hx⟩
  · show jB false j (e x) .va (ρ.set j .no) = _
    rw [wy, List.set_set]
    rw [List.getElem?_set_self hj]
    exact KT
  · show (ρ.set j (.va (e x))).set j .no = ρ.set j .no
    rw [List.set_set]
end Tr
end F_Q5
section F_U1
set_option Elab.async false
set_option maxRecDepth 100000
set_option maxHeartbeats 4000000
set_option linter.all false
namespace Tr
open PySem PySem.Spec PyProof.Rows L2 LamX Vf
open SX (S)
variable (ad : String → Addr)
theorem z_dip {C : T} (hC : Cup C) (top : Int) (h : 0 < top) (h3 : top < 1073741824) : ∃ (r : Nat) (C' : T), Cup C' ∧ (r : Int) < top ∧ vh ad C [.int top] = some ((.int r, false), C') := by
  obtain ⟨a, b, rfl⟩ := hC
  have toN : ∀ {x : Int}, 0 ≤ x → x < top → ∀ {C' : T}, Cup C' → vh ad (WI a b) [.int top] = some ((.int x, false), C') → ∃ (r : Nat) (C' : T), Cup C' ∧ (r : Int) < top ∧ vh ad (WI a b) [.int top] = some ((.int r, false), C') := by
    intro x x0 x1 C' hC' e
    exact ⟨x.toNat, C', hC', by rw [Int.toNat_of_nonneg x0]; exact x1, by rw [Int.toNat_of_nonneg x0]; exact e⟩
  by_cases hb : 0 < a
  · refine toN (x := a % top) (Int.emod_nonneg _ (by omega)) (Int.emod_lt_of_pos _ h) (C' := WI (a / top) b) ⟨_, _, rfl⟩ ?_
    simp [vh, b_m__law_dip, jJ, vb, vc, wU, ve, Ko, kJ, wn, kK, KK, KL, vi, jr, vj, js, vg, jH, kL, kM, jL, kN, vk, kO, kP, kQ, kR, vm, vn, kS, kT, vp, vB, kE, vq, kU, kF, vt, kW, kG, Kj, kX, kH, jI, kI, kY, kZ, wa, wb, Kp, JL, jM, jN, jt, wc, wd, we, ju, vv, jO, jv, wf, wg, jP, JM, jQ, vz, vA, wh, jl, wi, jm, jR, wj, jh, ky, jS, jw, wk, jT, jU, jV, jW, wl, jx, jy, jz, wm, jX, JN, JJ, kz, jY, jZ, fI, Jg, Jd, T.tupl, Wk, vK, fMul', KG, Jr, atT, T.row, L2.atI, L2.ixN, Js, jF, JG, big, Ju, wL, fGt, fGe, fLt, fLe, bo, stO, Sl.priv, Sl.fx, itT, Kq, jo, Cl.free, Jy, JC, erO, wV, tyD, tyT, isC, isT, eqT, ku, toD, Ji, inT, wQ, ko, JD, JA, kD, Jh, Jf, KB, KJ, Wq, bls, KW, KS, Wx, Jz, JH, tK, JK, JE, Ki, kw, pk, Jw, slT, Wn, frz, JI, List.lookup, List.map_cons, List.map_nil, List.length_cons, List.length_nil, List.replicate, List.cons_append, List.nil_append, List.getElem?_cons_zero, List.getElem?_cons_succ, List.set_cons_zero, List.set_cons_succ, List.getElem?_nil, jk, backR, Option.map_some, Option.map_none, Option.bind_some, h, h3, hb]
  · have hb' : ¬ (0 < a) := hb
    have lg : Nat.log2 907 < 9000 := by decide +kernel
    refine toN (x := ((b * 64033 + 15013) % 2147482873) / 907 % top) (Int.emod_nonneg _ (by omega)) (Int.emod_lt_of_pos _ h) (C' := WI a ((b * 64033 + 15013) % 2147482873)) ⟨_, _, rfl⟩ ?_
    simp [vh, b_m__law_dip, jJ, vb, vc, wU, ve, Ko, kJ, wn, kK, KK, KL, vi, jr, vj, js, vg, jH, kL, kM, jL, kN, vk, kO, kP, kQ, kR, vm, vn, kS, kT, vp, vB, kE, vq, kU, kF, vt, kW, kG, Kj, kX, kH, jI, kI, kY, kZ, wa, wb, Kp, JL, jM, jN, jt, wc, wd, we, ju, vv, jO, jv, wf, wg, jP, JM, jQ, vz, vA, wh, jl, wi, jm, jR, wj, jh, ky, jS, jw, wk, jT, jU, jV, jW, wl, jx, jy, jz, wm, jX, JN, JJ, kz, jY, jZ, fI, Jg, Jd, T.tupl, Wk, vK, fMul', KG, Jr, atT, T.row, L2.atI, L2.ixN, Js, jF, JG, big, Ju, wL, fGt, fGe, fLt, fLe, bo, stO, Sl.priv, Sl.fx, itT, Kq, jo, Cl.free, Jy, JC, erO, wV, tyD, tyT, isC, isT, eqT, ku, toD, Ji, inT, wQ, ko, JD, JA, kD, Jh, Jf, KB, KJ, Wq, bls, KW, KS, Wx, Jz, JH, tK, JK, JE, Ki, kw, pk, Jw, slT, Wn, frz, JI, List.lookup, List.map_cons, List.map_nil, List.length_cons, List.length_nil, List.replicate, List.cons_append, List.nil_append, List.getElem?_cons_zero, List.getElem?_cons_succ, List.set_cons_zero, List.set_cons_succ, List.getElem?_nil, jk, backR, Option.map_some, Option.map_none, Option.bind_some, h, hb', lg]
theorem Wp {C : T} (hC : Cup C) (V : T) (f : Bool) (l : List T) (hv : V.row = some (f, l)) (hl : l ≠ []) (hs : l.length ≤ 1000) : ∃ t C', Cup C' ∧ t ∈ l ∧ wF ad C [V] = some ((t, false), C') := by
  have hp : 0 < l.length := List.length_pos_iff.mpr hl
  obtain ⟨r, C', hC', hr, e⟩ := z_dip ad hC l.length (by omega) (by omega)
  have e1 : Kq [V] = some (.int l.length, false) := by cases V <;> simp_all [Kq, T.row]
  have hr : r < l.length := by omega
  have e2 : atT V (.int (r : Nat)) = some (l[r]'hr, false) := by
    have e : atT V (.int (r : Nat)) = (atI l r).map fun x => (x, false) := by cases V <;> simp_all [atT, T.row]
    rw [e]
    simp only [L2.atI, L2.ixN]
    rw [if_pos (by omega), if_pos (by omega), Option.bind_some, Int.toNat_natCast, List.getElem?_eq_getElem hr]
    rfl
  obtain ⟨n, hn⟩ : ∃ n, n = (l.length : Int) := ⟨_, rfl⟩
  obtain ⟨u, hu⟩ : ∃ u, u = l[r]'hr := ⟨_, rfl⟩
  obtain ⟨K, hK⟩ : ∃ K, K = T.int (r : Nat) := ⟨_, rfl⟩
  rw [← hu, ← hK] at e2
  rw [← hK] at e
  rw [← hn] at e1 e
  refine ⟨u, C', hC', hu ▸ List.getElem_mem hr, ?_⟩
  clear hn hu hK
  obtain ⟨a, b, rfl⟩ := hC
  simp [wF, b_m__law_any, jJ, vb, vc, wU, ve, Ko, kJ, wn, kK, KK, KL, vi, jr, vj, js, vg, jH, kL, kM, jL, kN, vk, kO, kP, kQ, kR, vm, vn, kS, kT, vp, vB, kE, vq, kU, kF, vt, kW, kG, Kj, kX, kH, jI, kI, kY, kZ, wa, wb, Kp, JL, jM, jN, jt, wc, wd, we, ju, vv, jO, jv, wf, wg, jP, JM, jQ, vz, vA, wh, jl, wi, jm, jR, wj, jh, ky, jS, jw, wk, jT, jU, jV, jW, wl, jx, jy, jz, wm, jX, JN, JJ, kz, jY, jZ, fI, Jg, Jd, T.tupl, Wk, vK, fMul', KG, Jr, T.row, L2.atI, L2.ixN, Js, jF, JG, big, Ju, wL, fGt, fGe, fLt, fLe, bo, stO, Sl.priv, Sl.fx, itT, jo, Cl.free, Jy, JC, erO, wV, tyD, tyT, isC, isT, eqT, ku, toD, Ji, inT, wQ, ko, JD, JA, kD, Jh, Jf, KB, KJ, Wq, bls, KW, KS, Wx, Jz, JH, tK, JK, JE, Ki, kw, pk, Jw, slT, Wn, frz, JI, List.lookup, List.map_cons, List.map_nil, List.length_cons, List.length_nil, List.replicate, List.cons_append, List.nil_append, List.getElem?_cons_zero, List.getElem?_cons_succ, List.set_cons_zero, List.set_cons_succ, List.getElem?_nil, jk, backR, Option.map_some, Option.map_none, Option.bind_some, e, e1, e2]
theorem shared_loop : ∀ (n x y : Nat), y < n → Kf (op2 (var 1) (ret (.int 0)) fGt) (jn (WB 0 1 (jb (var 1) (jb (op2 (km (jb (var 0) noA) Js) (var 1) Wu) noA))) kq) n [.va (.int x), .va (.int y)] = some (.nx [.va (.int (Nat.gcd x y)), .va (.int 0)]) := by
  intro n
  induction n with
  | zero => intro x y h; omega
  | succ n ih =>
    intro x y h
    by_cases hy : y = 0
    · subst hy
      rw [whileM_end (ρ1 := [.va (.int x), .va (.int (0 : Nat))]) (c := .va) (by simp [jJ, vb, vc, wU, ve, Ko, kJ, wn, kK, KK, KL, vi, jr, vj, js, vg, jH, kL, kM, jL, kN, vk, kO, kP, kQ, kR, vm, vn, kS, kT, vp, vB, kE, vq, kU, kF, vt, kW, kG, Kj, kX, kH, jI, kI, kY, kZ, wa, wb, Kp, JL, jM, jN, jt, wc, wd, we, ju, vv, jO, jv, wf, wg, jP, JM, jQ, vz, vA, wh, jl, wi, jm, jR, wj, jh, ky, jS, jw, wk, jT, jU, jV, jW, wl, jx, jy, jz, wm, jX, JN, JJ, kz, jY, jZ, fI, Jg, Jd, T.tupl, Wk, vK, fMul', KG, Jr, atT, T.row, L2.atI, L2.ixN, Js, jF, JG, big, Ju, wL, fGt, fGe, fLt, fLe, bo, stO, Sl.priv, Sl.fx, itT, Kq, jo, Cl.free, Jy, JC, erO, wV, tyD, tyT, isC, isT, eqT, ku, toD, Ji, inT, wQ, ko, JD, JA, kD, Jh, Jf, KB, KJ, Wq, bls, KW, KS, Wx, Jz, JH, tK, JK, JE, Ki, kw, pk, Jw, slT, Wn, frz, JI, List.lookup, List.map_cons, List.map_nil, List.length_cons, List.length_nil, List.replicate, List.cons_append, List.nil_append, List.getElem?_cons_zero, List.getElem?_cons_succ, List.set_cons_zero, List.set_cons_succ, List.getElem?_nil, jk, backR, Option.map_some, Option.map_none, Option.bind_some])]
      simp
    · have hp : 0 < y := by omega
      rw [whileM_step (ρ1 := [.va (.int x), .va (.int y)]) (ρ2 := [.va (.int y), .va (.int ((x % y : Nat) : Int))]) (c := .va) (by simp [jJ, vb, vc, wU, ve, Ko, kJ, wn, kK, KK, KL, vi, jr, vj, js, vg, jH, kL, kM, jL, kN, vk, kO, kP, kQ, kR, vm, vn, kS, kT, vp, vB, kE, vq, kU, kF, vt, kW, kG, Kj, kX, kH, jI, kI, kY, kZ, wa, wb, Kp, JL, jM, jN, jt, wc, wd, we, ju, vv, jO, jv, wf, wg, jP, JM, jQ, vz, vA, wh, jl, wi, jm, jR, wj, jh, ky, jS, jw, wk, jT, jU, jV, jW, wl, jx, jy, jz, wm, jX, JN, JJ, kz, jY, jZ, fI, Jg, Jd, T.tupl, Wk, vK, fMul', KG, Jr, atT, T.row, L2.atI, L2.ixN, Js, jF, JG, big, Ju, wL, fGt, fGe, fLt, fLe, bo, stO, Sl.priv, Sl.fx, itT, Kq, jo, Cl.free, Jy, JC, erO, wV, tyD, tyT, isC, isT, eqT, ku, toD, Ji, inT, wQ, ko, JD, JA, kD, Jh, Jf, KB, KJ, Wq, bls, KW, KS, Wx, Jz, JH, tK, JK, JE, Ki, kw, pk, Jw, slT, Wn, frz, JI, List.lookup, List.map_cons, List.map_nil, List.length_cons, List.length_nil, List.replicate, List.cons_append, List.nil_append, List.getElem?_cons_zero, List.getElem?_cons_succ, List.set_cons_zero, List.set_cons_succ, List.getElem?_nil, jk, backR, Option.map_some, Option.map_none, Option.bind_some, hp]) (by simp [jJ, vb, vc, wU, ve, Ko, kJ, wn, kK, KK, KL, vi, jr, vj, js, vg, jH, kL, kM, jL, kN, vk, kO, kP, kQ, kR, vm, vn, kS, kT, vp, vB, kE, vq, kU, kF, vt, kW, kG, Kj, kX, kH, jI, kI, kY, kZ, wa, wb, Kp, JL, jM, jN, jt, wc, wd, we, ju, vv, jO, jv, wf, wg, jP, JM, jQ, vz, vA, wh, jl, wi, jm, jR, wj, jh, ky, jS, jw, wk, jT, jU, jV, jW, wl, jx, jy, jz, wm, jX, JN, JJ, kz, jY, jZ, fI, Jg, Jd, T.tupl, Wk, vK, fMul', KG, Jr, atT, T.row, L2.atI, L2.ixN, Js, jF, JG, big, Ju, wL, fGt, fGe, fLt, fLe, bo, stO, Sl.priv, Sl.fx, itT, Kq, jo, Cl.free, Jy, JC, erO, wV, tyD, tyT, isC, isT, eqT, ku, toD, Ji, inT, wQ, ko, JD, JA, kD, Jh, Jf, KB, KJ, Wq, bls, KW, KS, Wx, Jz, JH, tK, JK, JE, Ki, kw, pk, Jw, slT, Wn, frz, JI, List.lookup, List.map_cons, List.map_nil, List.length_cons, List.length_nil, List.replicate, List.cons_append, List.nil_append, List.getElem?_cons_zero, List.getElem?_cons_succ, List.set_cons_zero, List.set_cons_succ, List.getElem?_nil, jk, backR, Option.map_some, Option.map_none, Option.bind_some, hp])]
      rw [ih y (x % y) (by have := Nat.mod_lt x hp; omega)]
      rw [show Nat.gcd y (x % y) = Nat.gcd x y by rw [Nat.gcd_comm y, ← Nat.gcd_rec, Nat.gcd_comm]]
theorem q_shared (a b : Int) (hs : b.natAbs < 1000000000000000000000000000000000000000000000000000000000000) : m__law_shared ad [.int a, .int b] = ok1 (.int (Int.gcd a b)) := by
  have e := shared_loop lots a.natAbs b.natAbs (by rw [lots_eq]; omega)
  have eb : ((b.natAbs : Nat) : Int) = if b < 0 then -b else b := by split <;> omega
  have ea : ((a.natAbs : Nat) : Int) = if a < 0 then -a else a := by split <;> omega
  rw [eb, ea, show Nat.gcd a.natAbs b.natAbs = Int.gcd a b from rfl] at e
  obtain ⟨g, hg⟩ : ∃ g, g = Int.gcd a b := ⟨_, rfl⟩
  rw [← hg] at e ⊢
  obtain ⟨F, hF⟩ : ∃ F, F = lots := ⟨_, rfl⟩
  rw [← hF] at e
  simp only [m__law_shared, b_m__law_shared]
  rw [← hF]
  clear hF
  simp [jJ, vb, vc, wU, ve, Ko, kJ, wn, kK, KK, KL, vi, jr, vj, js, vg, jH, kL, kM, jL, kN, vk, kO, kP, kQ, kR, vm, vn, kS, kT, vp, vB, kE, vq, kU, kF, vt, kW, kG, Kj, kX, kH, jI, kI, kY, kZ, wa, wb, Kp, JL, jM, jN, jt, wc, wd, we, ju, vv, jO, jv, wf, wg, jP, JM, jQ, vz, vA, wh, jl, wi, jm, jR, wj, jh, ky, jS, jw, wk, jT, jU, jV, jW, wl, jx, jy, jz, wm, jX, JN, JJ, kz, jY, jZ, fI, Jg, Jd, T.tupl, Wk, vK, fMul', KG, Jr, atT, T.row, L2.atI, L2.ixN, Js, jF, JG, big, Ju, wL, fGt, fGe, fLt, fLe, bo, stO, Sl.priv, Sl.fx, itT, Kq, jo, Cl.free, Jy, JC, erO, wV, tyD, tyT, isC, isT, eqT, ku, toD, Ji, inT, wQ, ko, JD, JA, kD, Jh, Jf, KB, KJ, Wq, bls, KW, KS, Wx, Jz, JH, tK, JK, JE, Ki, kw, pk, Jw, slT, Wn, frz, JI, List.lookup, List.map_cons, List.map_nil, List.length_cons, List.length_nil, List.replicate, List.cons_append, List.nil_append, List.getElem?_cons_zero, List.getElem?_cons_succ, List.set_cons_zero, List.set_cons_succ, List.getElem?_nil, jk, backR, Option.map_some, Option.map_none, Option.bind_some, ky, e]
theorem z_low1 (a b : Int) (hb : 0 < b) (hs : b < 100000000000000000000000000000000000000000000000000000000000) : vI ad [.int a, .int b] = ok1 (frQ (Rat.divInt a b)) := by
  have e := q_shared ad a b (by omega)
  have h0 : 0 < (Int.gcd a b : Int) := by
    have : Int.gcd a b ≠ 0 := fun z => by have := (Int.gcd_eq_zero_iff.mp z).2; omega
    omega
  have l : Int.gcd a b ≤ b.natAbs := Nat.le_of_dvd (by omega) (Int.gcd_dvd_natAbs_right a b)
  have h1 : (Int.gcd a b).log2 < 9000 := by
    have n0 : Int.gcd a b ≠ 0 := by omega
    have : (Int.gcd a b).log2 < 200 := (Nat.log2_lt n0).mpr (by omega)
    omega
  rw [← fr_v (low_Low a b hb) (val_low a b hb)]
  unfold Wa
  obtain ⟨g, hg⟩ : ∃ g, g = Int.gcd a b := ⟨_, rfl⟩
  rw [← hg] at e h1 h0 ⊢
  have h0' : 0 < g := by omega
  clear hg l
  simp [vI, b_m__law_low_v1, jJ, vb, vc, wU, ve, Ko, kJ, wn, kK, KK, KL, vi, jr, vj, js, vg, jH, kL, kM, jL, kN, vk, kO, kP, kQ, kR, vm, vn, kS, kT, vp, vB, kE, vq, kU, kF, vt, kW, kG, Kj, kX, kH, jI, kI, kY, kZ, wa, wb, Kp, JL, jM, jN, jt, wc, wd, we, ju, vv, jO, jv, wf, wg, jP, JM, jQ, vz, vA, wh, jl, wi, jm, jR, wj, jh, ky, jS, jw, wk, jT, jU, jV, jW, wl, jx, jy, jz, wm, jX, JN, JJ, kz, jY, jZ, fI, Jg, Jd, T.tupl, Wk, vK, fMul', KG, Jr, atT, T.row, L2.atI, L2.ixN, Js, jF, JG, big, Ju, wL, fGt, fGe, fLt, fLe, bo, stO, Sl.priv, Sl.fx, itT, Kq, jo, Cl.free, Jy, JC, erO, wV, tyD, tyT, isC, isT, eqT, ku, toD, Ji, inT, wQ, ko, JD, JA, kD, Jh, Jf, KB, KJ, Wq, bls, KW, KS, Wx, Jz, JH, tK, JK, JE, Ki, kw, pk, Jw, slT, Wn, frz, JI, List.lookup, List.map_cons, List.map_nil, List.length_cons, List.length_nil, List.replicate, List.cons_append, List.nil_append, List.getElem?_cons_zero, List.getElem?_cons_succ, List.set_cons_zero, List.set_cons_succ, List.getElem?_nil, jk, backR, Option.map_some, Option.map_none, Option.bind_some, e, h0', h1]
theorem z_less {a b : Rat} (ha : Ok a) (hb : Ok b) : wX ad [frQ a, frQ b] = ok1 (.bl (decide (a < b))) := by
  have e1 := fMul_ok ha.a hb.b
  have e2 := fMul_ok hb.a ha.b
  have u := under_val _ _ ha.pos hb.pos
  rw [val_pr, val_pr] at u
  have a0 : atT (frQ a) (.int 0) = some (.int (pr a).1, false) := rfl
  have a1 : atT (frQ a) (.int 1) = some (.int (pr a).2, false) := rfl
  have b0 : atT (frQ b) (.int 0) = some (.int (pr b).1, false) := rfl
  have b1 : atT (frQ b) (.int 1) = some (.int (pr b).2, false) := rfl
  rw [← u]
  unfold under
  obtain ⟨x, hx⟩ : ∃ x, x = (pr a).1 * (pr b).2 := ⟨_, rfl⟩
  obtain ⟨y, hy⟩ : ∃ y, y = (pr b).1 * (pr a).2 := ⟨_, rfl⟩
  rw [← hx] at e1 ⊢; rw [← hy] at e2 ⊢
  simp [wX, b_m__law_is_less, jJ, vb, vc, wU, ve, kJ, wn, kK, vi, jr, vj, js, vg, jH, kL, kM, jL, kN, vk, kO, kP, kQ, kR, vm, vn, kS, kT, vp, vB, kE, vq, kU, kF, vt, kW, kG, kX, kH, jI, kI, kY, kZ, wa, wb, jM, jN, jt, wc, wd, we, ju, vv, jO, jv, wf, wg, jP, jQ, vz, vA, wh, jl, wi, jm, jR, wj, jh, ky, jS, jw, wk, jT, jU, jV, jW, wl, jx, jy, jz, wm, jX, JJ, kz, jY, jZ, fI, Jg, Jd, T.tupl, fMul', Jr, Js, jF, JG, big, Ju, wL, fGt, fGe, fLt, fLe, bo, stO, Sl.priv, Sl.fx, jo, Cl.free, Jy, JC, erO, wV, tyD, tyT, isC, isT, eqT, ku, toD, Ji, wQ, ko, JD, JA, kD, Jh, bls, Jz, JH, tK, JK, JE, kw, pk, Jw, slT, frz, JI, List.lookup, List.replicate, jk, backR, wy, kA, jk_va', jk_no', vU, vP, vV, vW, vX, vY, vZ, vO, Ja, wO, kB, kC, ki, kr, vT, wN, kf, vQ, vR, vS, a0, a1, b0, b1, e1, e2]
end Tr
end F_U1
section F_Q7
set_option Elab.async false
set_option maxRecDepth 100000
set_option maxHeartbeats 4000000
set_option linter.all false
namespace Tr
open PySem PySem.Spec PyProof.Rows L2 LamX Vf
open SX (S)
variable (ad : String → Addr)
/-- a tree of numbers, texts, rows of such -/
def Sh (k : Nat) (t : T) : Prop := ∃ d, toD t = some d ∧ d.canLay0 = true ∧ d.depth ≤ k
theorem Sh.mono {k m : Nat} {t : T} (h : Sh k t) (hm : k ≤ m) : Sh m t := by
  obtain ⟨d, a, b, c⟩ := h
  exact ⟨d, a, b, by omega⟩
end Tr
end F_Q7
section F_Q8
set_option Elab.async false
set_option maxRecDepth 100000
set_option maxHeartbeats 4000000
set_option linter.all false
namespace Tr
open PySem PySem.Spec PyProof.Rows L2 LamX Vf
open SX (S)
variable (ad : String → Addr)
theorem row_ow {m : M} {ρ ρ' : Sls} {t : T} {l : List T} (h : m ρ = some (.ok t .ow ρ')) (e : itT t = some l) : JT m ρ = some (.ok l ρ') := by
  unfold JT; rw [h]; simp [e]
theorem row_va {m : M} {ρ ρ' : Sls} {t : T} {l : List T} (h : m ρ = some (.ok t .va ρ')) (e : itT t = some l) : JT m ρ = some (.ok l ρ') := by
  unfold JT; rw [h]; simp [e]
/-- the numbers of places by moves, as the laws tell them -/
abbrev nq (R : Rows) (e : Int) (k c : Nat) : Rat := val (nwF R e k c)
theorem fz_va (V : T) : JI (.va V) = .va V := rfl
theorem fz_no : JI .no = .no := rfl
end Tr
end F_Q8
section F_Q10
set_option Elab.async false
set_option maxRecDepth 100000
set_option maxHeartbeats 4000000
set_option linter.all false
namespace Tr
open PySem PySem.Spec PyProof.Rows L2 LamX Vf
open SX (S)
variable (ad : String → Addr)
/-- at most half of the least and the greatest where arrows lead -/
def Sub_ (as : List Nat) (x : Nat → Rat) (c : Nat) : Prop := ∃ f ∈ as, ∃ s ∈ as, 2 * x c ≤ x f + x s ∧ ∀ a ∈ as, x f ≤ x a ∧ x a ≤ x s
theorem Nds.sub {R : Rows} {W : T} {E : Int} {n : Nat → Rat} (N : Nds ad R W E n) : ∀ c ∈ places R, (what R c).isEn = false → Sub_ (what R c).arrows n c := by
  intro c hc hen
  obtain ⟨f, hf, s, hs, e, b⟩ := N.half c hc hen
  exact ⟨f, hf, s, hs, by rw [e]; exact Rat.le_refl, b⟩
end Tr
end F_Q10
section F_U2
set_option Elab.async false
set_option maxRecDepth 100000
set_option maxHeartbeats 4000000
set_option linter.all false
namespace Tr
open PySem PySem.Spec PyProof.Rows L2 LamX Vf
open SX (S)
variable (ad : String → Addr)
theorem min_loop (V : T) : ∀ (L : List Rat) (m : Rat), Ok m → (∀ y ∈ L, Ok y) → ∀ z2, Jk z2 → ∃ m' z2', Jk z2' ∧ m' ≤ m ∧ (∀ y ∈ L, m' ≤ y) ∧ (m' = m ∨ m' ∈ L) ∧
    Wv (jB false 2) ((jn (wp false (ifE (Kr (jK (jb (var 2) (jb (var 1) noA)) (wX ad))) (var 2) (var 1)) (jB false 1)) kq)) (L.map frQ) [.va V, .va (frQ m), z2] = some (.nx [.va V, .va (frQ m'), z2']) := by
  intro L
  induction L with
  | nil => intro m _ _ z2 j2; exact ⟨m, z2, j2, Rat.le_refl, (fun y hy => nomatch hy), .inl rfl, rfl⟩
  | cons x L ih =>
    intro m om oL z2 j2
    have ox := oL x (List.mem_cons_self ..)
    have u := z_less ad ox om
    obtain ⟨m1, hm1⟩ : ∃ r, r = if x < m then x else m := ⟨_, rfl⟩
    have f1 : Ok m1 ∧ m1 ≤ m ∧ m1 ≤ x ∧ (m1 = m ∨ m1 = x) := by
      rw [hm1]; split
      · exact ⟨ox, by grind, by grind, .inr rfl⟩
      · exact ⟨om, by grind, by grind, .inl rfl⟩
    obtain ⟨m2, z2', j2', l1, l2, l3, w⟩ := ih m1 f1.1 (fun y hy => oL y (List.mem_cons_of_mem _ hy)) (.va (frQ x)) (Wj _)
    refine ⟨m2, z2', j2', by grind, ?_, ?_, ?_⟩
    · intro y hy
      rcases List.mem_cons.mp hy with rfl | hy
      · grind
      · exact l2 y hy
    · rcases l3 with rfl | l3
      · rcases f1.2.2.2 with e | e
        · exact .inl e
        · rw [e]; exact .inr (List.mem_cons_self ..)
      · exact .inr (List.mem_cons_of_mem _ l3)
    · rw [List.map_cons]
      have s2 : jB false 2 (frQ x) .va [.va V, .va (frQ m), z2] = some [.va V, .va (frQ m), .va (frQ x)] := setG_j j2 rfl
      have bd : ((jn (wp false (ifE (Kr (jK (jb (var 2) (jb (var 1) noA)) (wX ad))) (var 2) (var 1)) (jB false 1)) kq)) [.va V, .va (frQ m), .va (frQ x)] = some (.nx [.va V, .va (frQ m1), .va (frQ x)]) := by
        clear w s2
        by_cases q : x < m
        · rw [decide_eq_true q] at u
          rw [if_pos q] at hm1
          rw [hm1]
          simp [jJ, vb, vc, wU, ve, kJ, wn, kK, vi, jr, vj, js, vg, jH, kL, kM, jL, kN, vk, kO, kP, kQ, kR, vm, vn, kS, kT, vp, vB, kE, vq, kU, kF, vt, kW, kG, kX, kH, jI, kI, kY, kZ, wa, wb, jM, jN, jt, wc, wd, we, ju, vv, jO, jv, wf, wg, jP, jQ, vz, vA, wh, jl, wi, jm, jR, wj, jh, ky, jS, jw, wk, jT, jU, jV, jW, wl, jx, jy, jz, wm, jX, JJ, kz, jY, jZ, fI, Jg, Jd, T.tupl, vK, fMul', Jr, Js, jF, JG, big, Ju, wL, fGt, fGe, fLt, fLe, bo, stO, Sl.priv, Sl.fx, jo, Cl.free, Jy, JC, erO, wV, tyD, tyT, isC, isT, eqT, ku, toD, Ji, wQ, ko, JD, JA, kD, Jh, bls, Jz, JH, tK, JK, JE, kw, pk, Jw, slT, frz, JI, List.lookup, List.replicate, jk, backR, wy, kA, jk_va', jk_no', vU, vP, vV, vW, vX, vY, vZ, vO, Ja, wO, kB, kC, ki, kr, vT, wN, kf, vQ, vR, vS, u]
        · rw [decide_eq_false q] at u
          rw [if_neg q] at hm1
          rw [hm1]
          simp [jJ, vb, vc, wU, ve, kJ, wn, kK, vi, jr, vj, js, vg, jH, kL, kM, jL, kN, vk, kO, kP, kQ, kR, vm, vn, kS, kT, vp, vB, kE, vq, kU, kF, vt, kW, kG, kX, kH, jI, kI, kY, kZ, wa, wb, jM, jN, jt, wc, wd, we, ju, vv, jO, jv, wf, wg, jP, jQ, vz, vA, wh, jl, wi, jm, jR, wj, jh, ky, jS, jw, wk, jT, jU, jV, jW, wl, jx, jy, jz, wm, jX, JJ, kz, jY, jZ, fI, Jg, Jd, T.tupl, vK, fMul', Jr, Js, jF, JG, big, Ju, wL, fGt, fGe, fLt, fLe, bo, stO, Sl.priv, Sl.fx, jo, Cl.free, Jy, JC, erO, wV, tyD, tyT, isC, isT, eqT, ku, toD, Ji, wQ, ko, JD, JA, kD, Jh, bls, Jz, JH, tK, JK, JE, kw, pk, Jw, slT, frz, JI, List.lookup, List.replicate, jk, backR, wy, kA, jk_va', jk_no', vU, vP, vV, vW, vX, vY, vZ, vO, Ja, wO, kB, kC, ki, kr, vT, wN, kf, vQ, vR, vS, u]
      simp only [Wv, s2, bd]
      exact w
theorem max_loop (V : T) : ∀ (L : List Rat) (m : Rat), Ok m → (∀ y ∈ L, Ok y) → ∀ z2, Jk z2 → ∃ m' z2', Jk z2' ∧ m ≤ m' ∧ (∀ y ∈ L, y ≤ m') ∧ (m' = m ∨ m' ∈ L) ∧
    Wv (jB false 2) ((jn (wp false (ifE (Kr (jK (jb (var 1) (jb (var 2) noA)) (wX ad))) (var 2) (var 1)) (jB false 1)) kq)) (L.map frQ) [.va V, .va (frQ m), z2] = some (.nx [.va V, .va (frQ m'), z2']) := by
  intro L
  induction L with
  | nil => intro m _ _ z2 j2; exact ⟨m, z2, j2, Rat.le_refl, (fun y hy => nomatch hy), .inl rfl, rfl⟩
  | cons x L ih =>
    intro m om oL z2 j2
    have ox := oL x (List.mem_cons_self ..)
    have u := z_less ad om ox
    obtain ⟨m1, hm1⟩ : ∃ r, r = if m < x then x else m := ⟨_, rfl⟩
    have f1 : Ok m1 ∧ m ≤ m1 ∧ x ≤ m1 ∧ (m1 = m ∨ m1 = x) := by
      rw [hm1]; split
      · exact ⟨ox, by grind, by grind, .inr rfl⟩
      · exact ⟨om, by grind, by grind, .inl rfl⟩
    obtain ⟨m2, z2', j2', l1, l2, l3, w⟩ := ih m1 f1.1 (fun y hy => oL y (List.mem_cons_of_mem _ hy)) (.va (frQ x)) (Wj _)
    refine ⟨m2, z2', j2', by grind, ?_, ?_, ?_⟩
    · intro y hy
      rcases List.mem_cons.mp hy with rfl | hy
      · grind
      · exact l2 y hy
    · rcases l3 with rfl | l3
      · rcases f1.2.2.2 with e | e
        · exact .inl e
        · rw [e]; exact .inr (List.mem_cons_self ..)
      · exact .inr (List.mem_cons_of_mem _ l3)
    · rw [List.map_cons]
      have s2 : jB false 2 (frQ x) .va [.va V, .va (frQ m), z2] = some [.va V, .va (frQ m), .va (frQ x)] := setG_j j2 rfl
      have bd : ((jn (wp false (ifE (Kr (jK (jb (var 1) (jb (var 2) noA)) (wX ad))) (var 2) (var 1)) (jB false 1)) kq)) [.va V, .va (frQ m), .va (frQ x)] = some (.nx [.va V, .va (frQ m1), .va (frQ x)]) := by
        clear w s2
        by_cases q : m < x
        · rw [decide_eq_true q] at u
          rw [if_pos q] at hm1
          rw [hm1]
          simp [jJ, vb, vc, wU, ve, kJ, wn, kK, vi, jr, vj, js, vg, jH, kL, kM, jL, kN, vk, kO, kP, kQ, kR, vm, vn, kS, kT, vp, vB, kE, vq, kU, kF, vt, kW, kG, kX, kH, jI, kI, kY, kZ, wa, wb, jM, jN, jt, wc, wd, we, ju, vv, jO, jv, wf, wg, jP, jQ, vz, vA, wh, jl, wi, jm, jR, wj, jh, ky, jS, jw, wk, jT, jU, jV, jW, wl, jx, jy, jz, wm, jX, JJ, kz, jY, jZ, fI, Jg, Jd, T.tupl, vK, fMul', Jr, Js, jF, JG, big, Ju, wL, fGt, fGe, fLt, fLe, bo, stO, Sl.priv, Sl.fx, jo, Cl.free, Jy, JC, erO, wV, tyD, tyT, isC, isT, eqT, ku, toD, Ji, wQ, ko, JD, JA, kD, Jh, bls, Jz, JH, tK, JK, JE, kw, pk, Jw, slT, frz, JI, List.lookup, List.replicate, jk, backR, wy, kA, jk_va', jk_no', vU, vP, vV, vW, vX, vY, vZ, vO, Ja, wO, kB, kC, ki, kr, vT, wN, kf, vQ, vR, vS, u]
        · rw [decide_eq_false q] at u
          rw [if_neg q] at hm1
          rw [hm1]
          simp [jJ, vb, vc, wU, ve, kJ, wn, kK, vi, jr, vj, js, vg, jH, kL, kM, jL, kN, vk, kO, kP, kQ, kR, vm, vn, kS, kT, vp, vB, kE, vq, kU, kF, vt, kW, kG, kX, kH, jI, kI, kY, kZ, wa, wb, jM, jN, jt, wc, wd, we, ju, vv, jO, jv, wf, wg, jP, jQ, vz, vA, wh, jl, wi, jm, jR, wj, jh, ky, jS, jw, wk, jT, jU, jV, jW, wl, jx, jy, jz, wm, jX, JJ, kz, jY, jZ, fI, Jg, Jd, T.tupl, vK, fMul', Jr, Js, jF, JG, big, Ju, wL, fGt, fGe, fLt, fLe, bo, stO, Sl.priv, Sl.fx, jo, Cl.free, Jy, JC, erO, wV, tyD, tyT, isC, isT, eqT, ku, toD, Ji, wQ, ko, JD, JA, kD, Jh, bls, Jz, JH, tK, JK, JE, kw, pk, Jw, slT, frz, JI, List.lookup, List.replicate, jk, backR, wy, kA, jk_va', jk_no', vU, vP, vV, vW, vX, vY, vZ, vO, Ja, wO, kB, kC, ki, kr, vT, wN, kf, vQ, vR, vS, u]
      simp only [Wv, s2, bd]
      exact w
theorem z_min {L : List Rat} (ne : L ≠ []) (o : ∀ y ∈ L, Ok y) : ∃ x ∈ L, (∀ y ∈ L, x ≤ y) ∧ m__law_min ad [.lst (L.map frQ)] = ok1 (frQ x) := by
  cases L with
  | nil => exact absurd rfl ne
  | cons a L =>
    obtain ⟨V, hV⟩ : ∃ V, V = T.lst ((a :: L).map frQ) := ⟨_, rfl⟩
    have it : itT V = some ((a :: L).map frQ) := by rw [hV]; rfl
    have a0 : atT V (.int 0) = some (frQ a, false) := by rw [hV]; exact vO ..
    obtain ⟨m, z2, j2, l1, l2, l3, w⟩ := min_loop ad V (a :: L) a (o a (List.mem_cons_self ..)) o .no KT
    refine ⟨m, ?_, l2, ?_⟩
    · rcases l3 with rfl | l3
      · exact List.mem_cons_self ..
      · exact l3
    · rw [← hV]
      have w := (for_ok (g := jB false 2) (b := (jn (wp false (ifE (Kr (jK (jb (var 2) (jb (var 1) noA)) (wX ad))) (var 2) (var 1)) (jB false 1)) kq)) (row_va (m := var 0) (ρ := [.va V, .va (frQ a), .no]) (by simp [wU]) it)).trans w
      show runF 3 (b_m__law_min ad) [V] = _
      have e : b_m__law_min ad [.va V, .no, .no] = some (.rt (frQ m) false [.va V, .va (frQ m), z2]) := by
        unfold b_m__law_min
        refine (nxt (ρ1 := [.va V, .va (frQ a), .no]) ?_).trans ?_
        · clear w hV l3; simp [jJ, vb, vc, wU, ve, kJ, wn, kK, vi, jr, vj, js, vg, jH, kL, kM, jL, kN, vk, kO, kP, kQ, kR, vm, vn, kS, kT, vp, vB, kE, vq, kU, kF, vt, kW, kG, kX, kH, jI, kI, kY, kZ, wa, wb, jM, jN, jt, wc, wd, we, ju, vv, jO, jv, wf, wg, jP, jQ, vz, vA, wh, jl, wi, jm, jR, wj, jh, ky, jS, jw, wk, jT, jU, jV, jW, wl, jx, jy, jz, wm, jX, JJ, kz, jY, jZ, fI, Jg, Jd, T.tupl, vK, fMul', Jr, Js, jF, JG, big, Ju, wL, fGt, fGe, fLt, fLe, bo, stO, Sl.priv, Sl.fx, jo, Cl.free, Jy, JC, erO, wV, tyD, tyT, isC, isT, eqT, ku, toD, Ji, wQ, ko, JD, JA, kD, Jh, bls, Jz, JH, tK, JK, JE, kw, pk, Jw, slT, frz, JI, List.lookup, List.replicate, jk, backR, wy, kA, jk_va', jk_no', vU, vP, vV, vW, vX, vY, vZ, vO, Ja, wO, kB, kC, ki, kr, vT, wN, kf, vQ, vR, vS, a0]
        refine (nxt w).trans ?_
        clear w hV l3
        simp [jJ, vb, vc, wU, ve, kJ, wn, kK, vi, jr, vj, js, vg, jH, kL, kM, jL, kN, vk, kO, kP, kQ, kR, vm, vn, kS, kT, vp, vB, kE, vq, kU, kF, vt, kW, kG, kX, kH, jI, kI, kY, kZ, wa, wb, jM, jN, jt, wc, wd, we, ju, vv, jO, jv, wf, wg, jP, jQ, vz, vA, wh, jl, wi, jm, jR, wj, jh, ky, jS, jw, wk, jT, jU, jV, jW, wl, jx, jy, jz, wm, jX, JJ, kz, jY, jZ, fI, Jg, Jd, T.tupl, vK, fMul', Jr, Js, jF, JG, big, Ju, wL, fGt, fGe, fLt, fLe, bo, stO, Sl.priv, Sl.fx, jo, Cl.free, Jy, JC, erO, wV, tyD, tyT, isC, isT, eqT, ku, toD, Ji, wQ, ko, JD, JA, kD, Jh, bls, Jz, JH, tK, JK, JE, kw, pk, Jw, slT, frz, List.lookup, List.replicate, jk, backR, wy, kA, jk_va', jk_no', vU, vP, vV, vW, vX, vY, vZ, vO, Ja, wO, kB, kC, ki, kr, vT, wN, kf, vQ, vR, vS, fz_va, KQ j2]
      show (match b_m__law_min ad [.va V, .no, .no] with | some (.rt t b _) => some (OutF.ok t b) | some (.nx _) => some (.ok .non false) | some (.er x) => some (.er x) | _ => none) = _
      rw [e]
theorem z_max {L : List Rat} (ne : L ≠ []) (o : ∀ y ∈ L, Ok y) : ∃ x ∈ L, (∀ y ∈ L, y ≤ x) ∧ m__law_max ad [.lst (L.map frQ)] = ok1 (frQ x) := by
  cases L with
  | nil => exact absurd rfl ne
  | cons a L =>
    obtain ⟨V, hV⟩ : ∃ V, V = T.lst ((a :: L).map frQ) := ⟨_, rfl⟩
    have it : itT V = some ((a :: L).map frQ) := by rw [hV]; rfl
    have a0 : atT V (.int 0) = some (frQ a, false) := by rw [hV]; exact vO ..
    obtain ⟨m, z2, j2, l1, l2, l3, w⟩ := max_loop ad V (a :: L) a (o a (List.mem_cons_self ..)) o .no KT
    refine ⟨m, ?_, l2, ?_⟩
    · rcases l3 with rfl | l3
      · exact List.mem_cons_self ..
      · exact l3
    · rw [← hV]
      have w := (for_ok (g := jB false 2) (b := (jn (wp false (ifE (Kr (jK (jb (var 1) (jb (var 2) noA)) (wX ad))) (var 2) (var 1)) (jB false 1)) kq)) (row_va (m := var 0) (ρ := [.va V, .va (frQ a), .no]) (by simp [wU]) it)).trans w
      show runF 3 (b_m__law_max ad) [V] = _
      have e : b_m__law_max ad [.va V, .no, .no] = some (.rt (frQ m) false [.va V, .va (frQ m), z2]) := by
        unfold b_m__law_max
        refine (nxt (ρ1 := [.va V, .va (frQ a), .no]) ?_).trans ?_
        · clear w hV l3; simp [jJ, vb, vc, wU, ve, kJ, wn, kK, vi, jr, vj, js, vg, jH, kL, kM, jL, kN, vk, kO, kP, kQ, kR, vm, vn, kS, kT, vp, vB, kE, vq, kU, kF, vt, kW, kG, kX, kH, jI, kI, kY, kZ, wa, wb, jM, jN, jt, wc, wd, we, ju, vv, jO, jv, wf, wg, jP, jQ, vz, vA, wh, jl, wi, jm, jR, wj, jh, ky, jS, jw, wk, jT, jU, jV, jW, wl, jx, jy, jz, wm, jX, JJ, kz, jY, jZ, fI, Jg, Jd, T.tupl, vK, fMul', Jr, Js, jF, JG, big, Ju, wL, fGt, fGe, fLt, fLe, bo, stO, Sl.priv, Sl.fx, jo, Cl.free, Jy, JC, erO, wV, tyD, tyT, isC, isT, eqT, ku, toD, Ji, wQ, ko, JD, JA, kD, Jh, bls, Jz, JH, tK, JK, JE, kw, pk, Jw, slT, frz, JI, List.lookup, List.replicate, jk, backR, wy, kA, jk_va', jk_no', vU, vP, vV, vW, vX, vY, vZ, vO, Ja, wO, kB, kC, ki, kr, vT, wN, kf, vQ, vR, vS, a0]
        refine (nxt w).trans ?_
        clear w hV l3
        simp [jJ, vb, vc, wU, ve, kJ, wn, kK, vi, jr, vj, js, vg, jH, kL, kM, jL, kN, vk, kO, kP, kQ, kR, vm, vn, kS, kT, vp, vB, kE, vq, kU, kF, vt, kW, kG, kX, kH, jI, kI, kY, kZ, wa, wb, jM, jN, jt, wc, wd, we, ju, vv, jO, jv, wf, wg, jP, jQ, vz, vA, wh, jl, wi, jm, jR, wj, jh, ky, jS, jw, wk, jT, jU, jV, jW, wl, jx, jy, jz, wm, jX, JJ, kz, jY, jZ, fI, Jg, Jd, T.tupl, vK, fMul', Jr, Js, jF, JG, big, Ju, wL, fGt, fGe, fLt, fLe, bo, stO, Sl.priv, Sl.fx, jo, Cl.free, Jy, JC, erO, wV, tyD, tyT, isC, isT, eqT, ku, toD, Ji, wQ, ko, JD, JA, kD, Jh, bls, Jz, JH, tK, JK, JE, kw, pk, Jw, slT, frz, List.lookup, List.replicate, jk, backR, wy, kA, jk_va', jk_no', vU, vP, vV, vW, vX, vY, vZ, vO, Ja, wO, kB, kC, ki, kr, vT, wN, kf, vQ, vR, vS, fz_va, KQ j2]
      show (match b_m__law_max ad [.va V, .no, .no] with | some (.rt t b _) => some (OutF.ok t b) | some (.nx _) => some (.ok .non false) | some (.er x) => some (.er x) | _ => none) = _
      rw [e]
theorem wipe2 (ρ : Sls) {i j : Nat} (hij : i ≠ j) : jk ρ [i, j] = (ρ.set i .no).set j .no := by
  first
  | rfl
  | exact List.set_comm _ _ (by omega)
/-- a comprehension over pairs -/
theorem lp {α : Type} {mi : MI} {me : M} {ρ : Sls} {i j : Nat} (l : List α) (e1 e2 f : α → T) (hi : i < ρ.length) (hj : j < ρ.length) (hij : i ≠ j) (hm : mi ρ = some (.ok (l.map fun x => .tup [e1 x, e2 x]) ρ)) (hl : l.length ≤ 100000)
    (h : ∀ x ∈ l, ∃ c, me ((ρ.set i (.va (e1 x))).set j (.va (e2 x))) = some (.ok (f x) c ((ρ.set i (.va (e1 x))).set j (.va (e2 x)))) ∧ c.free = true) :
    lcM mi (KM (vd (jB false i) (vd (jB false j) KI))) (fun ρ => some (.ok (.bl true) .va ρ)) me [i, j] ρ = some (.ok (.lst (l.map f)) .ow ρ) := by
  refine lcM_a l (fun x => .tup [e1 x, e2 x]) (fun x => (ρ.set i (.va (e1 x))).set j (.va (e2 x))) f hm (by simp only [big]; omega) ?_
  intro x hx
  refine ⟨?_, ?_, h x hx⟩
  · rw [wipe2 ρ hij]
    have s1 : jB false i (e1 x) .va ((ρ.set i .no).set j .no) = some ((ρ.set i (.va (e1 x))).set j .no) := by
      rw [wy, List.set_comm _ _ (by omega : j ≠ i), List.set_set]
      rw [List.getElem?_set_ne (by omega), List.getElem?_set_self hi]
      exact KT
    have s2 : jB false j (e2 x) .va ((ρ.set i (.va (e1 x))).set j .no) = some ((ρ.set i (.va (e1 x))).set j (.va (e2 x))) := by
      rw [wy, List.set_set]
      rw [List.getElem?_set_self (by rw [List.length_set]; exact hj)]
      exact KT
    simp only [kI, jI, kH, T.row]
    simp [s1, s2]
  · rw [wipe2 _ hij, wipe2 _ hij]
    rw [List.set_comm _ _ (by omega : i ≠ j), List.set_set, List.set_comm _ _ (by omega : j ≠ i), List.set_set]
end Tr
end F_U2
section F_U3
set_option Elab.async false
set_option maxRecDepth 100000
set_option maxHeartbeats 4000000
set_option linter.all false
namespace Tr
open PySem PySem.Spec PyProof.Rows L2 LamX Vf
open SX (S)
variable (ad : String → Addr)
theorem for_keep {α : Type} {g : MG} {body : MS} (e : α → T) (I : Sls → Prop) (l : List α) (h : ∀ x ∈ l, ∀ ρ, I ρ → ∃ ρ1 ρ2, g (e x) .va ρ = some ρ1 ∧ body ρ1 = some (.nx ρ2) ∧ I ρ2) :
    ∀ ρ, I ρ → ∃ ρ', Wv g body (l.map e) ρ = some (.nx ρ') ∧ I ρ' := by
  induction l with
  | nil => intro ρ i; exact ⟨ρ, rfl, i⟩
  | cons x l ih =>
    intro ρ i
    obtain ⟨ρ1, ρ2, a1, a2, a3⟩ := h x (List.mem_cons_self ..) ρ i
    obtain ⟨ρ', b1, b2⟩ := ih (fun y hy => h y (List.mem_cons_of_mem _ hy)) ρ2 a3
    refine ⟨ρ', ?_, b2⟩
    simp only [List.map_cons, Wv, a1, a2]
    exact b1
end Tr
end F_U3
section F_U5
set_option Elab.async false
set_option maxRecDepth 100000
set_option maxHeartbeats 4000000
set_option linter.all false
namespace Tr
open PySem PySem.Spec PyProof.Rows L2 LamX Vf
open SX (S)
variable (ad : String → Addr)
theorem fLt_i (a b : Int) : fLt (.int a) (.int b) = some (.bl (decide (a < b)), false) := rfl
end Tr
end F_U5
section F_U6
set_option Elab.async false
set_option maxRecDepth 100000
set_option maxHeartbeats 4000000
set_option linter.all false
namespace Tr
open PySem PySem.Spec PyProof.Rows L2 LamX Vf
open SX (S)
variable (ad : String → Addr)
/-- rows that may lead nowhere -/
structure Pre (R : Rows) : Prop where
  web : WOk R
  ne : 1 ≤ R.length
  le : R.length ≤ 10
  let_ : ∀ p ∈ R, isLet p.1 = true
  ar : ∀ p ∈ R, ∀ l, p.2 = .ar l → l ≠ [] ∧ l.all isLet = true ∧ ascB l = true
  asc : ascB (places R) = true
  sm : Sm R BTn
  lts : Lts R
end Tr
end F_U6
section F_U8
set_option Elab.async false
set_option maxRecDepth 100000
set_option maxHeartbeats 4000000
set_option linter.all false
namespace Tr
open PySem PySem.Spec PyProof.Rows L2 LamX Vf
open SX (S)
variable (ad : String → Addr)
section
variable {ad} {R : Rows} (P : Pre R)
include P
theorem Pre.dict {c : Nat} (hc : c ∈ places R) : ∃ D, Wd [rowsT R] = some (.dct D, true) ∧ Wb D (.inr (S [c])) = some (whT (what R c)) := by
  have m := mergeT_d (R.map fun x => (x.1, whT x.2)) (by
    unfold Nod; rw [List.map_map]; exact P.web.nod)
  refine ⟨dT (R.map fun x => (x.1, whT x.2)), ?_, ?_⟩
  · have e : R.map pairT = (R.map fun x => (x.1, whT x.2)).map (fun x => .tup [.str [x.1], x.2]) := by rw [List.map_map]; rfl
    show Wd [.tup (R.map pairT)] = _
    rw [e]
    simp only [Wd, pairsT_d, m]
  · rw [getT_d]
    obtain ⟨w, e1, e2, _⟩ := what_some hc
    rw [lk_map, e1]
    show some (whT w) = some (whT (what R c))
    rw [e2]
end
end Tr
end F_U8
section F_U9
set_option Elab.async false
set_option maxRecDepth 100000
set_option maxHeartbeats 4000000
set_option linter.all false
namespace Tr
open PySem PySem.Spec PyProof.Rows L2 LamX Vf
open SX (S)
variable (ad : String → Addr)
theorem mul_s {a b : Int} (h : -(2 ^ 64) < b ∧ b < 2 ^ 64) : vK (.int a) (.int b) = some (.int (a * b), false) := by
  simp only [vK, fMul']
  rw [if_pos (.inr (.inl h))]; rfl
theorem mul_s' {a b : Int} (h : -(2 ^ 64) < a ∧ a < 2 ^ 64) : vK (.int a) (.int b) = some (.int (a * b), false) := by
  simp only [vK, fMul']
  rw [if_pos (.inl h)]; rfl
theorem mod_s {a b : Int} (h : 0 < b) : Wu (.int a) (.int b) = some (.int (a % b), false) := by
  simp only [Wu, fI]
  rw [if_pos h]; rfl
theorem fGe_i (a b : Int) : fGe (.int a) (.int b) = some (.bl (decide (b ≤ a)), false) := rfl
theorem z_urn {t : T} {ns : List Int} (ht : Scr t ns) (hl : ns.length ≤ 63) (k : Nat) (hk : k < 9) : ∃ C, Cup C ∧ m__law_urn ad [t, .int k] = some (.ok C true) := by
  have l1 : ns.length ≤ 10000000 := by omega
  obtain ⟨z, w1⟩ : ∃ z : Int, ((wp false (ifE (op2 (var 1) (km (jb (var 0) noA) Kq) fLt) (op2 (var 0) (var 1) atT) (op2 (ret (.int 52027)) (op2 (var 1) (ret (.int 5)) kg) vK)) (jB false 2))) [.va t, .va (.int k), .no, .no, .no] = some (.nx [.va t, .va (.int k), .va (.int z), .no, .no]) := by
    have ln : Kq [t] = some (.int ns.length, false) := by rcases ht with rfl | rfl <;> simp [Kq, T.row, l1]
    by_cases q : (k : Int) < ns.length
    · have q' : k < ns.length := by omega
      have ai : atT t (.int k) = some (.int ns[k], false) := by
        rcases ht with rfl | rfl <;> simp [atT, T.row, L2.atI, L2.ixN, q']
      refine ⟨ns[k], ?_⟩
      have lt := fLt_i (k : Nat) ns.length
      rw [decide_eq_true q] at lt
      obtain ⟨K, hK⟩ : ∃ K, K = T.int (k : Int) := ⟨_, rfl⟩
      obtain ⟨N, hN⟩ : ∃ K, K = T.int (ns.length : Int) := ⟨_, rfl⟩
      obtain ⟨Z, hZ⟩ : ∃ K, K = T.int ns[k] := ⟨_, rfl⟩
      rw [← hK, ← hZ] at ai
      rw [← hN] at ln
      rw [← hK, ← hN] at lt
      rw [← hK, ← hZ]
      clear ht hK hN hZ
      simp [jJ, vb, vc, wU, ve, kJ, wn, kK, vi, jr, vj, js, vg, jH, kL, kM, jL, kN, vk, kO, kP, kQ, kR, vm, vn, kS, kT, vp, vB, kE, vq, kU, kF, vt, kW, kG, kX, kH, jI, kI, kY, kZ, wa, wb, jM, jN, jt, wc, wd, we, ju, vv, jO, jv, wf, wg, jP, jQ, vz, vA, wh, jl, wi, jm, jR, wj, jh, ky, jS, jw, wk, jT, jU, jV, jW, wl, jx, jy, jz, wm, jX, JJ, kz, jY, jZ, fI, Jg, Jd, T.tupl, vK, fMul', Jr, Js, jF, JG, big, Ju, wL, fGt, fGe, fLe, bo, stO, Sl.priv, Sl.fx, jo, Cl.free, Jy, JC, erO, wV, tyD, tyT, isC, isT, eqT, ku, toD, Ji, wQ, ko, JD, JA, kD, Jh, bls, Jz, JH, tK, JK, JE, kw, pk, Jw, slT, frz, JI, List.lookup, List.replicate, jk, backR, wy, kA, jk_va', jk_no', vU, vP, vV, vW, vX, vY, vZ, vO, Ja, wO, kB, kC, ki, kr, vT, wN, kf, vQ, vR, vS, ln, ai, lt]
    · refine ⟨52027 * ((k : Int) + 5), ?_⟩
      have lt := fLt_i (k : Nat) ns.length
      rw [decide_eq_false q] at lt
      have ad_ := ki (k : Nat) 5
      have mu := mul_s' (a := 52027) (b := (k : Int) + 5) (by decide)
      obtain ⟨K, hK⟩ : ∃ K, K = T.int (k : Int) := ⟨_, rfl⟩
      obtain ⟨N, hN⟩ : ∃ K, K = T.int (ns.length : Int) := ⟨_, rfl⟩
      obtain ⟨M, hM⟩ : ∃ K, K = T.int ((k : Int) + 5) := ⟨_, rfl⟩
      obtain ⟨Z, hZ⟩ : ∃ K, K = T.int (52027 * ((k : Int) + 5)) := ⟨_, rfl⟩
      rw [← hN] at ln
      rw [← hK, ← hN] at lt
      rw [← hM] at ad_ mu
      rw [← hK] at ad_
      rw [← hZ] at mu
      rw [← hK, ← hZ]
      clear ht hK hN hM hZ
      simp [jJ, vb, vc, wU, ve, kJ, wn, kK, vi, jr, vj, js, vg, jH, kL, kM, jL, kN, vk, kO, kP, kQ, kR, vm, vn, kS, kT, vp, vB, kE, vq, kU, kF, vt, kW, kG, kX, kH, jI, kI, kY, kZ, wa, wb, jM, jN, jt, wc, wd, we, ju, vv, jO, jv, wf, wg, jP, jQ, vz, vA, wh, jl, wi, jm, jR, wj, jh, ky, jS, jw, wk, jT, jU, jV, jW, wl, jx, jy, jz, wm, jX, JJ, kz, jY, jZ, fI, Jg, Jd, T.tupl, fMul', Jr, Js, jF, JG, big, Ju, wL, fGt, fGe, fLe, bo, stO, Sl.priv, Sl.fx, jo, Cl.free, Jy, JC, erO, wV, tyD, tyT, isC, isT, eqT, ku, toD, Ji, wQ, ko, JD, JA, kD, Jh, bls, Jz, JH, tK, JK, JE, kw, pk, Jw, slT, frz, JI, List.lookup, List.replicate, jk, backR, wy, kA, jk_va', jk_no', vU, vP, vV, vW, vX, vY, vZ, vO, Ja, wO, kB, kC, ki, kr, vT, wN, kf, vQ, vR, vS, ln, lt, mu, ad_]
  obtain ⟨s0, w2⟩ : ∃ s0 : Int, ((wp false (op2 (ret (.int 31013)) (op2 (ret (.int 7027)) (var 1) vK) kg) (jB false 3))) [.va t, .va (.int k), .va (.int z), .no, .no] = some (.nx [.va t, .va (.int k), .va (.int z), .va (.int s0), .no]) := by
    refine ⟨31013 + 7027 * (k : Int), ?_⟩
    have mu := mul_s' (a := 7027) (b := (k : Int)) (by decide)
    have ad_ := ki 31013 (7027 * (k : Int))
    obtain ⟨K, hK⟩ : ∃ K, K = T.int (k : Int) := ⟨_, rfl⟩
    obtain ⟨M, hM⟩ : ∃ K, K = T.int (7027 * (k : Int)) := ⟨_, rfl⟩
    obtain ⟨Z, hZ⟩ : ∃ K, K = T.int (31013 + 7027 * (k : Int)) := ⟨_, rfl⟩
    rw [← hK, ← hM] at mu
    rw [← hM, ← hZ] at ad_
    rw [← hK, ← hZ]
    clear hK hM hZ ht w1
    simp [jJ, vb, vc, wU, ve, kJ, wn, kK, vi, jr, vj, js, vg, jH, kL, kM, jL, kN, vk, kO, kP, kQ, kR, vm, vn, kS, kT, vp, vB, kE, vq, kU, kF, vt, kW, kG, kX, kH, jI, kI, kY, kZ, wa, wb, jM, jN, jt, wc, wd, we, ju, vv, jO, jv, wf, wg, jP, jQ, vz, vA, wh, jl, wi, jm, jR, wj, jh, ky, jS, jw, wk, jT, jU, jV, jW, wl, jx, jy, jz, wm, jX, JJ, kz, jY, jZ, fI, Jg, Jd, T.tupl, fMul', Jr, Js, jF, JG, big, Ju, wL, fGt, fGe, fLt, fLe, bo, stO, Sl.priv, Sl.fx, jo, Cl.free, Jy, JC, erO, wV, tyD, tyT, isC, isT, eqT, ku, toD, Ji, wQ, ko, JD, JA, kD, Jh, bls, Jz, JH, tK, JK, JE, kw, pk, Jw, slT, frz, JI, List.lookup, List.replicate, jk, backR, wy, kA, jk_va', jk_no', vU, vP, vV, vW, vX, vY, vZ, vO, Ja, wO, kB, kC, ki, kr, vT, wN, kf, vQ, vR, vS, mu, ad_]
  -- the numbers that are mixed in
  have r3 : ∀ ρ : Sls, ρ[0]? = some (.va t) → ρ[2]? = some (.va (.int z)) → JT (op2 (Wy (var 0) none (some (ret (.int 5)))) (vD (jb (var 2) noA)) kg) ρ = some (.ok ((ns.take 5 ++ [z]).map T.int) ρ) := by
    intro ρ h0 h2
    have e : Jw none (some 5) t = some (.lst ((ns.take 5).map .int), true) := by
      have cu : cutI (ns.map T.int) none (some 5) = (ns.take 5).map .int := by
        unfold cutI
        have e1 : HT.sIx (ns.map T.int).length 0 none = 0 := rfl
        have e2 : HT.sIx (ns.map T.int).length (ns.map T.int).length (some 5) = min 5 ns.length := by simp only [HT.sIx, List.length_map]; rw [if_neg (by decide)]; rfl
        rw [e1, e2, List.drop_zero, Nat.sub_zero, ← List.map_take]
        congr 1
        rcases Nat.le_total 5 ns.length with h | h
        · rw [Nat.min_eq_left h]
        · rw [Nat.min_eq_right h, List.take_of_length_le (Nat.le_refl _), List.take_of_length_le h]
      rcases ht with rfl | rfl <;> simp only [Jw, cu]
    have sm : Wy (var 0) none (some (ret (.int 5))) ρ = some (.ok (.lst ((ns.take 5).map .int)) .ow ρ) := by
      simp [kz, vb, wU, vc, bO, h0, Jg, Jd, e, Jr]
    have lm : vD (jb (var 2) noA) ρ = some (.ok (.lst [.int z]) .ow ρ) := by
      simp [jJ, vb, vc, wU, ve, kJ, wn, kK, vi, jr, vj, js, vg, jH, kL, kM, jL, kN, vk, kO, kP, kQ, kR, vm, vn, kS, kT, vp, vB, kE, vq, kU, kF, vt, kW, kG, kX, kH, jI, kI, kY, kZ, wa, wb, jM, jN, jt, wc, wd, we, ju, vv, jO, jv, wf, wg, jP, jQ, vz, vA, wh, jl, wi, jm, jR, wj, jh, ky, jS, jw, wk, jT, jU, jV, jW, wl, jx, jy, jz, wm, jX, JJ, kz, jY, jZ, fI, Jg, Jd, T.tupl, vK, fMul', Jr, Js, jF, JG, big, Ju, wL, fGt, fGe, fLt, fLe, bo, stO, Sl.priv, Sl.fx, jo, Cl.free, Jy, JC, erO, wV, tyD, tyT, isC, isT, eqT, ku, toD, Ji, wQ, ko, JD, JA, kD, Jh, bls, Jz, JH, tK, JK, JE, kw, pk, Jw, slT, frz, JI, List.lookup, List.replicate, jk, backR, wy, kA, jk_va', jk_no', vU, vP, vV, vW, vX, vY, vZ, vO, Ja, wO, kB, kC, ki, kr, vT, wN, kf, vQ, vR, vS, wU, h2]
    have ap := kr ((ns.take 5).map T.int) [.int z]
    rw [if_pos (by simp; omega)] at ap
    have mp : (ns.take 5 ++ [z]).map T.int = (ns.take 5).map T.int ++ [.int z] := by simp
    rw [mp]
    refine row_ow (t := .lst ((ns.take 5).map T.int ++ [.int z])) ?_ rfl
    obtain ⟨L1, h1⟩ : ∃ L, L = T.lst ((ns.take 5).map T.int) := ⟨_, rfl⟩
    obtain ⟨L2, h3⟩ : ∃ L, L = T.lst [.int z] := ⟨_, rfl⟩
    obtain ⟨L3, h4⟩ : ∃ L, L = T.lst ((ns.take 5).map T.int ++ [.int z]) := ⟨_, rfl⟩
    rw [← h1] at sm ap
    rw [← h3] at lm ap
    rw [← h4] at ap ⊢
    clear h1 h3 h4 mp e ht w1 w2
    simp [ve, vb, sm, lm, ap, Jg, Jr, Jd]
  obtain ⟨ρ', w3, s', z4, rfl, j4⟩ := for_keep (g := jB false 4) (body := (jn (wp false (op2 (km (jb (op2 (op2 (op2 (var 3) (ret (.int 41011)) vK) (op2 (km (jb (var 4) noA) Js) (ret (.int 2147482873)) Wu) kg) (ret (.int 53)) kg) noA) Js) (ret (.int 2147482873)) Wu) (jB false 3)) kq)) (fun c : Int => T.int c) (fun ρ => ∃ (s : Int) (z4 : Sl), ρ = [.va t, .va (.int k), .va (.int z), .va (.int s), z4] ∧ Jk z4) (ns.take 5 ++ [z]) (by
    rintro c _ _ ⟨s, z4, rfl, j4⟩
    refine ⟨[.va t, .va (.int k), .va (.int z), .va (.int s), .va (.int c)], [.va t, .va (.int k), .va (.int z), .va (.int ((s * 41011 + c % 2147482873 + 53) % 2147482873)), .va (.int c)], setG_j j4 rfl, ?_, _, _, rfl, Wj _⟩
    have f1 := mul_s (a := s) (b := 41011) (by decide)
    have f2 := mod_s (a := c) (b := 2147482873) (by decide)
    have f3 := ki (s * 41011) (c % 2147482873)
    have f4 := ki (s * 41011 + c % 2147482873) 53
    have f5 := mod_s (a := s * 41011 + c % 2147482873 + 53) (b := 2147482873) (by decide)
    have i1 : Js [.int c] = some (.int c, false) := rfl
    have i2 : Js [.int (s * 41011 + c % 2147482873 + 53)] = some (.int (s * 41011 + c % 2147482873 + 53), false) := rfl
    obtain ⟨K, hK⟩ : ∃ K, K = T.int (k : Int) := ⟨_, rfl⟩
    obtain ⟨C, hC⟩ : ∃ K, K = T.int c := ⟨_, rfl⟩
    obtain ⟨SS, hS⟩ : ∃ K, K = T.int s := ⟨_, rfl⟩
    obtain ⟨Z, hZ⟩ : ∃ K, K = T.int z := ⟨_, rfl⟩
    obtain ⟨A1, h1⟩ : ∃ K, K = T.int (s * 41011) := ⟨_, rfl⟩
    obtain ⟨A2, h2⟩ : ∃ K, K = T.int (c % 2147482873) := ⟨_, rfl⟩
    obtain ⟨A3, h3⟩ : ∃ K, K = T.int (s * 41011 + c % 2147482873) := ⟨_, rfl⟩
    obtain ⟨A4, h4⟩ : ∃ K, K = T.int (s * 41011 + c % 2147482873 + 53) := ⟨_, rfl⟩
    obtain ⟨A5, h5⟩ : ∃ K, K = T.int ((s * 41011 + c % 2147482873 + 53) % 2147482873) := ⟨_, rfl⟩
    rw [← hS, ← h1] at f1
    rw [← hC, ← h2] at f2
    rw [← h1, ← h2, ← h3] at f3
    rw [← h3, ← h4] at f4
    rw [← h4, ← h5] at f5
    rw [← hC] at i1
    rw [← h4] at i2
    rw [← hK, ← hC, ← hS, ← hZ, ← h5]
    clear hK hC hS hZ h1 h2 h3 h4 h5 w1 w2 ht r3
    simp [jJ, vb, vc, wU, ve, kJ, kK, vi, jr, vj, js, vg, jH, kL, kM, jL, kN, vk, kO, kP, kQ, kR, vm, vn, kS, kT, vp, vB, kE, vq, kU, kF, vt, kW, kG, kX, kH, jI, kI, kY, kZ, wa, wb, jM, jN, jt, wc, wd, we, ju, vv, jO, jv, wf, wg, jP, jQ, vz, vA, wh, jl, wi, jm, jR, wj, jh, ky, jS, jw, wk, jT, jU, jV, jW, wl, jx, jy, jz, wm, jX, JJ, kz, jY, jZ, fI, Jg, Jd, T.tupl, fMul', Jr, jF, JG, big, Ju, wL, fGt, fGe, fLt, fLe, bo, stO, Sl.priv, Sl.fx, jo, Cl.free, Jy, JC, erO, wV, tyD, tyT, isC, isT, eqT, ku, toD, Ji, wQ, ko, JD, JA, kD, Jh, bls, Jz, JH, tK, JK, JE, kw, pk, Jw, slT, frz, JI, List.lookup, List.replicate, jk, backR, wy, kA, jk_va', jk_no', vU, vP, vV, vW, vX, vY, vZ, vO, Ja, wO, kB, kC, ki, kr, vT, wN, kf, vQ, vR, vS, f1, f2, f3, f4, f5, i1, i2]) [.va t, .va (.int k), .va (.int z), .va (.int s0), .no] ⟨_, _, rfl, KT⟩
  have w3 := (for_ok (g := jB false 4) (b := (jn (wp false (op2 (km (jb (op2 (op2 (op2 (var 3) (ret (.int 41011)) vK) (op2 (km (jb (var 4) noA) Js) (ret (.int 2147482873)) Wu) kg) (ret (.int 53)) kg) noA) Js) (ret (.int 2147482873)) Wu) (jB false 3)) kq)) (r3 _ rfl rfl)).trans w3
  obtain ⟨a, w4⟩ : ∃ a : Int, (ifE (orT (op2 (var 2) (ret (.int 0)) fLt) (op2 (var 2) (op2 (ret (.int 10)) (ret (.int 18)) WH) fGe)) (km (jb (var 2) noA) JC) (ret (.int 0))) [.va t, .va (.int k), .va (.int z), .va (.int s'), z4] = some (.ok (.int a) .va [.va t, .va (.int k), .va (.int z), .va (.int s'), z4]) := by
    have pw : WH (.int 10) (.int 18) = some (.int 1000000000000000000, false) := by simp [WH, fI]
    have lt := fLt_i z 0
    have ge := fGe_i z 1000000000000000000
    have ab : ∃ a, JC [.int z] = some (.int a, false) := ⟨_, rfl⟩
    obtain ⟨a, ab⟩ := ab
    obtain ⟨b1, hb1⟩ : ∃ b, b = decide (z < 0) := ⟨_, rfl⟩
    obtain ⟨b2, hb2⟩ : ∃ b, b = decide (1000000000000000000 ≤ z) := ⟨_, rfl⟩
    rw [← hb1] at lt
    rw [← hb2] at ge
    obtain ⟨K, hK⟩ : ∃ K, K = T.int (k : Int) := ⟨_, rfl⟩
    obtain ⟨SS, hS⟩ : ∃ K, K = T.int s' := ⟨_, rfl⟩
    obtain ⟨Z, hZ⟩ : ∃ K, K = T.int z := ⟨_, rfl⟩
    rw [← hZ] at lt ge ab
    rw [← hK, ← hS, ← hZ]
    clear hK hS hZ w1 w2 w3 r3 ht hb1 hb2
    cases b1 with
    | true => exact ⟨a, by simp [jJ, vb, vc, wU, ve, kJ, wn, kK, vi, jr, vj, js, vg, jH, kL, kM, jL, kN, vk, kO, kP, kQ, kR, vm, vn, kS, kT, vp, vB, kE, vq, kU, kF, vt, kW, kG, kX, kH, jI, kI, kY, kZ, wa, wb, jM, jN, jt, wc, wd, we, ju, vv, jO, jv, wf, wg, jP, jQ, vz, vA, wh, jl, wi, jm, jR, wj, jh, ky, jS, jw, wk, jT, jU, jV, jW, wl, jx, jy, jz, wm, jX, JJ, kz, jY, jZ, fI, Jg, Jd, T.tupl, vK, fMul', Jr, Js, jF, JG, big, Ju, wL, fGt, fLe, bo, stO, Sl.priv, Sl.fx, jo, Cl.free, Jy, erO, wV, tyD, tyT, isC, isT, eqT, ku, toD, Ji, wQ, ko, JD, JA, kD, Jh, bls, Jz, JH, tK, JK, JE, kw, pk, Jw, slT, frz, JI, List.lookup, List.replicate, jk, backR, wy, kA, jk_va', jk_no', vU, vP, vV, vW, vX, vY, vZ, vO, Ja, wO, kB, kC, ki, kr, vT, wN, kf, vQ, vR, vS, lt, ab]⟩
    | false =>
      cases b2 with
      | true => exact ⟨a, by simp [jJ, vb, vc, wU, ve, kJ, wn, kK, vi, jr, vj, js, vg, jH, kL, kM, jL, kN, vk, kO, kP, kQ, kR, vm, vn, kS, kT, vp, vB, kE, vq, kU, kF, vt, kW, kG, kX, kH, jI, kI, kY, kZ, wa, wb, jM, jN, jt, wc, wd, we, ju, vv, jO, jv, wf, wg, jP, jQ, vz, vA, wh, jl, wi, jm, jR, wj, jh, ky, jS, jw, wk, jT, jU, jV, jW, wl, jx, jy, jz, wm, jX, JJ, kz, jY, jZ, fI, Jg, Jd, T.tupl, vK, fMul', Jr, Js, jF, JG, big, Ju, wL, fGt, fLe, bo, stO, Sl.priv, Sl.fx, jo, Cl.free, Jy, erO, wV, tyD, tyT, isC, isT, eqT, ku, toD, Ji, wQ, ko, JD, JA, kD, Jh, bls, Jz, JH, tK, JK, JE, kw, pk, Jw, slT, frz, JI, List.lookup, List.replicate, jk, backR, wy, kA, jk_va', jk_no', vU, vP, vV, vW, vX, vY, vZ, vO, Ja, wO, kB, kC, ki, kr, vT, wN, kf, vQ, vR, vS, lt, ge, pw, ab]⟩
      | false => exact ⟨0, by simp [jJ, vb, vc, wU, ve, kJ, wn, kK, vi, jr, vj, js, vg, jH, kL, kM, jL, kN, vk, kO, kP, kQ, kR, vm, vn, kS, kT, vp, vB, kE, vq, kU, kF, vt, kW, kG, kX, kH, jI, kI, kY, kZ, wa, wb, jM, jN, jt, wc, wd, we, ju, vv, jO, jv, wf, wg, jP, jQ, vz, vA, wh, jl, wi, jm, jR, wj, jh, ky, jS, jw, wk, jT, jU, jV, jW, wl, jx, jy, jz, wm, jX, JJ, kz, jY, jZ, fI, Jg, Jd, T.tupl, vK, fMul', Jr, Js, jF, JG, big, Ju, wL, fGt, fLe, bo, stO, Sl.priv, Sl.fx, jo, Cl.free, Jy, erO, wV, tyD, tyT, isC, isT, eqT, ku, toD, Ji, wQ, ko, JD, JA, kD, Jh, bls, Jz, JH, tK, JK, JE, kw, pk, Jw, slT, frz, JI, List.lookup, List.replicate, jk, backR, wy, kA, jk_va', jk_no', vU, vP, vV, vW, vX, vY, vZ, vO, Ja, wO, kB, kC, ki, kr, vT, wN, kf, vQ, vR, vS, lt, ge, pw]⟩
  refine ⟨WI a s', ⟨a, s', rfl⟩, ?_⟩
  have e : b_m__law_urn ad [.va t, .va (.int k), .no, .no, .no] = some (.rt (WI a s') true [.va t, .va (.int k), .va (.int z), .va (.int s'), z4]) := by
    unfold b_m__law_urn
    refine (nxt w1).trans ((nxt w2).trans ((nxt w3).trans ?_))
    obtain ⟨K, hK⟩ : ∃ K, K = T.int (k : Int) := ⟨_, rfl⟩
    obtain ⟨SS, hS⟩ : ∃ K, K = T.int s' := ⟨_, rfl⟩
    obtain ⟨Z, hZ⟩ : ∃ K, K = T.int z := ⟨_, rfl⟩
    obtain ⟨A, hA⟩ : ∃ K, K = T.int a := ⟨_, rfl⟩
    unfold WI
    rw [← hK, ← hS, ← hZ, ← hA] at w4 ⊢
    clear hK hS hZ hA w1 w2 w3 r3 ht
    simp [jJ, vb, vc, wU, ve, kJ, wn, kK, vi, jr, vj, js, vg, jH, kL, kM, jL, kN, vk, kO, kP, kQ, kR, vm, vn, kS, kT, vp, kE, vq, kU, kF, vt, kW, kG, kX, kH, jI, kI, kY, kZ, wa, wb, jM, jN, jt, wc, wd, we, ju, vv, jO, jv, wf, wg, jP, jQ, vz, vA, wh, jl, wi, jm, jR, wj, jh, ky, jS, jw, wk, jT, jU, jV, jW, wl, jx, jy, jz, wm, jX, JJ, kz, jY, jZ, fI, Jg, Jd, T.tupl, vK, fMul', Jr, Js, jF, JG, big, Ju, wL, fGt, fGe, fLt, fLe, bo, stO, Sl.priv, Sl.fx, jo, Cl.free, Jy, JC, erO, wV, tyD, tyT, isC, isT, eqT, ku, toD, Ji, wQ, ko, JD, JA, kD, Jh, bls, Jz, JH, tK, JK, JE, kw, pk, Jw, slT, frz, List.lookup, List.replicate, jk, backR, wy, kA, jk_va', jk_no', vU, vP, vV, vW, vX, vY, vZ, vO, Ja, wO, kB, kC, ki, kr, vT, wN, kf, vQ, vR, vS, w4, frz, fz_va, KQ j4]
  show (match b_m__law_urn ad [.va t, .va (.int k), .no, .no, .no] with | some (.rt t b _) => some (OutF.ok t b) | some (.nx _) => some (.ok .non false) | some (.er x) => some (.er x) | _ => none) = _
  rw [e]
/-- all urns are right -/
theorem all_urns {t : T} {ns : List Int} (ht : Scr t ns) (hl : ns.length ≤ 63) (mr : MC) (hr : ∀ C, Cup C → ∃ C', mr C [] = some ((.bl true, false), C')) (top : Nat) (h2 : 2 ≤ top) (h9 : top ≤ 9) :
    (km (jb (lcM (Wm (jb (km (jb (ret (.int 2)) (jb (km (jb (km (jb (var 0) noA) Kq) (jb (ret (.int (top : Nat))) noA)) KW) noA)) KS) noA)) (jB false 1) (fun ρ => some (.ok (.bl true) .va ρ)) (callT (jK (jb (var 0) (jb (var 1) noA)) (m__law_urn ad)) noA mr) [1]) noA) KJ) [.va t, .no] = some (.ok (.bl true) .va [.va t, .no]) := by
  obtain ⟨n, hn, rg⟩ := spots_of ht hl top h2 (by omega) [.va t, .no] rfl
  have lc : lcM (Wm (jb (km (jb (ret (.int 2)) (jb (km (jb (km (jb (var 0) noA) Kq) (jb (ret (.int (top : Nat))) noA)) KW) noA)) KS) noA)) (jB false 1) (fun ρ => some (.ok (.bl true) .va ρ)) (callT (jK (jb (var 0) (jb (var 1) noA)) (m__law_urn ad)) noA mr) [1] [.va t, .no]
      = some (.ok (.lst ((List.range n).map fun _ => T.bl true)) .ow [.va t, .no]) := by
    refine lcM_a (List.range n) (fun k => T.int (0 + (k : Nat))) (fun k => [.va t, .va (.int (0 + (k : Nat)))]) _ rg (by simp only [List.length_range, big]; omega) ?_
    intro k hk
    have hk := List.mem_range.mp hk
    obtain ⟨C, hC, c⟩ := z_urn ad ht hl k (by omega)
    obtain ⟨C', w⟩ := hr C hC
    rw [show T.int (0 + ((k : Nat) : Int)) = T.int (k : Nat) by rw [Int.zero_add]]
    obtain ⟨K, hK⟩ : ∃ N, N = T.int (k : Nat) := ⟨_, rfl⟩
    rw [← hK] at c
    rw [← hK]
    clear hK ht
    refine ⟨by simp [Kj, jk, Sl.priv], by simp [jk], .va, ?_, rfl⟩
    simp [jJ, vb, vc, wU, ve, Ko, kJ, wn, kK, KK, KL, vi, jr, vj, js, vg, jH, kL, kM, jL, kN, vk, kO, kP, kQ, kR, vm, vn, kS, kT, vp, vB, kE, vq, kU, kF, vt, kW, kG, Kj, kX, kH, jI, kI, kY, kZ, wa, wb, Kp, JL, jM, jN, jt, wc, wd, we, ju, vv, jO, jv, wf, wg, jP, JM, jQ, vz, vA, wh, jl, wi, jm, jR, wj, jh, ky, jS, jw, wk, jT, jU, jV, jW, wl, jx, jy, jz, wm, jX, JN, JJ, kz, jY, jZ, fI, Jg, Jd, T.tupl, Wk, vK, fMul', KG, Jr, atT, T.row, L2.atI, L2.ixN, Js, jF, JG, big, Ju, wL, fGt, fGe, fLt, fLe, bo, stO, Sl.priv, Sl.fx, itT, Kq, jo, Cl.free, Jy, JC, erO, wV, tyD, tyT, isC, isT, eqT, ku, toD, Ji, inT, wQ, ko, JD, JA, kD, Jh, Jf, KB, KJ, Wq, bls, KW, KS, Wx, Jz, JH, tK, JK, JE, Ki, kw, pk, Jw, slT, Wn, frz, JI, List.lookup, List.map_cons, List.map_nil, List.length_cons, List.length_nil, List.replicate, List.cons_append, List.nil_append, List.getElem?_cons_zero, List.getElem?_cons_succ, List.set_cons_zero, List.set_cons_succ, List.getElem?_nil, jk, backR, Option.map_some, Option.map_none, Option.bind_some, c, w]
  have fa := fAll_map (fun _ : Nat => true) (List.range n)
  rw [show ((List.range n).all fun _ => true) = true by simp] at fa
  obtain ⟨LL, hLL⟩ : ∃ L, L = T.lst ((List.range n).map fun _ => T.bl true) := ⟨_, rfl⟩
  rw [← hLL] at lc fa
  clear hLL rg ht
  simp [jJ, vb, vc, wU, ve, Ko, kJ, wn, kK, KK, KL, vi, jr, vj, js, vg, jH, kL, kM, jL, kN, vk, kO, kP, kQ, kR, vm, vn, kS, kT, vp, vB, kE, vq, kU, kF, vt, kW, kG, Kj, kX, kH, jI, kI, kY, kZ, wa, wb, Kp, JL, jM, jN, jt, wc, wd, we, ju, vv, jO, jv, wf, wg, jP, JM, jQ, vz, vA, wh, jl, wi, jm, jR, wj, jh, ky, jS, jw, wk, jT, jU, jV, jW, wl, jx, jy, jz, wm, jX, JN, JJ, kz, jY, jZ, fI, Jg, Jd, T.tupl, Wk, vK, fMul', KG, Jr, atT, T.row, L2.atI, L2.ixN, Js, jF, JG, big, Ju, wL, fGt, fGe, fLt, fLe, bo, stO, Sl.priv, Sl.fx, itT, Kq, jo, Cl.free, Jy, JC, erO, wV, tyD, tyT, isC, isT, eqT, ku, toD, Ji, inT, wQ, ko, JD, JA, kD, Jh, Jf, KB, Wq, bls, KW, KS, Wx, Jz, JH, tK, JK, JE, Ki, kw, pk, Jw, slT, Wn, frz, JI, List.lookup, List.map_cons, List.map_nil, List.length_cons, List.length_nil, List.replicate, List.cons_append, List.nil_append, List.getElem?_cons_zero, List.getElem?_cons_succ, List.set_cons_zero, List.set_cons_succ, List.getElem?_nil, jk, backR, Option.map_some, Option.map_none, Option.bind_some, lc, fa]
end Tr
end F_U9
section F_X77
set_option Elab.async false
set_option maxRecDepth 100000
set_option maxHeartbeats 4000000
set_option linter.all false
namespace Tr
open PySem PySem.Spec PyProof.Rows L2 LamX Vf
open SX (S)
def adX (_ : String) : Addr := 0
def F77 : T := .tup [.tup [.str [97], .tup [.str [98], .str [99]]], .tup [.str [98], .tup [.int 0, .int 1]], .tup [.str [99], .tup [.int 1, .int 1]]]
def Wz (b : Bool) : Option OutF → Bool
  | some (.ok (.bl c) false) => c == b
  | _ => false
theorem isOk_eq {b : Bool} {o : Option OutF} (h : Wz b o = true) : o = ok1 (.bl b) := by
  match o, h with
  | some (.ok (.bl c) false), h => simp [Wz] at h; subst h; rfl
def NO5 : List T := [.tup [.str [110, 101, 101, 100, 115], .tup [.tup [.str [97], .tup [.str [98], .str [99]]], .tup [.str [98], .tup [.int 0, .int 1]], .tup [.str [99], .tup [.int 1, .int 1]]], .str [97]], .tup [.str [110, 101, 101, 100, 115], .tup [.tup [.str [97], .tup [.str [98], .str [99]]], .tup [.str [98], .tup [.int 0, .int 1]], .tup [.str [99], .tup [.int 1, .int 1]]], .str [97], .tup [.int 1, .int 2], .int 0], .lst [.str [110, 101, 101, 100, 115], .tup [.tup [.str [97], .tup [.str [98], .str [99]]], .tup [.str [98], .tup [.int 0, .int 1]], .tup [.str [99], .tup [.int 1, .int 1]]], .str [97], .tup [.int 1, .int 2]], .tup [.str [110, 101, 101, 100], .tup [.tup [.str [97], .tup [.str [98], .str [99]]], .tup [.str [98], .tup [.int 0, .int 1]], .tup [.str [99], .tup [.int 1, .int 1]]], .str [97], .tup [.int 1, .int 2]], .tup [.str [110, 101, 101, 100, 115], .tup [.tup [.str [97], .tup [.str [98], .str [99]]], .tup [.str [98], .tup [.int 0, .int 1]], .tup [.str [99], .tup [.int 1, .int 1]]], .str [122], .tup [.int 1, .int 2]], .tup [.str [110, 101, 101, 100, 115], .tup [.tup [.str [97], .tup [.str [98], .str [99]]], .tup [.str [98], .tup [.int 0, .int 1]], .tup [.str [99], .tup [.int 1, .int 1]]], .non, .tup [.int 1, .int 2]], .tup [.str [110, 101, 101, 100, 115], .tup [.tup [.str [97], .tup [.str [98], .str [99]]], .tup [.str [98], .tup [.int 0, .int 1]], .tup [.str [99], .tup [.int 1, .int 1]]], .str [97], .tup [.int 2, .int 4]], .tup [.str [110, 101, 101, 100, 115], .tup [.tup [.str [97], .tup [.str [98], .str [99]]], .tup [.str [98], .tup [.int 0, .int 1]], .tup [.str [99], .tup [.int 1, .int 1]]], .str [97], .int 1], .tup [.str [97, 98, 111, 118, 101], .tup [.tup [.str [97], .tup [.str [98], .str [99]]], .tup [.str [98], .tup [.int 0, .int 1]], .tup [.str [99], .tup [.int 1, .int 1]]], .str [97], .tup [.int 1, .int 0]], .tup [.str [98, 101, 108, 111, 119], .tup [.tup [.str [97], .tup [.str [98], .str [99]]], .tup [.str [98], .tup [.int 0, .int 1]], .tup [.str [99], .tup [.int 1, .int 1]]], .str [97], .lst [.int 2, .int 3]], .tup [.str [97, 98, 111, 118, 101], .tup [.tup [.str [97], .tup [.str [98], .str [99]]], .tup [.str [98], .tup [.int 0, .int 1]], .tup [.str [99], .tup [.int 1, .int 1]]], .tup [.str [97]], .tup [.int 0, .int 1]], .tup [.str [110, 101, 101, 100, 115], .str [97], .tup [.tup [.str [97], .tup [.str [98], .str [99]]], .tup [.str [98], .tup [.int 0, .int 1]], .tup [.str [99], .tup [.int 1, .int 1]]], .tup [.int 1, .int 2]]]
def NO10 : List T := [.tup [.str [110, 101, 101, 100, 115], .tup [.tup [.str [97], .tup [.str [98], .str [99]]], .tup [.str [98], .tup [.int 0, .int 1]], .tup [.str [99], .tup [.int 1, .int 1]]], .str [97]], .tup [.str [110, 101, 101, 100, 115], .tup [.tup [.str [97], .tup [.str [98], .str [99]]], .tup [.str [98], .tup [.int 0, .int 1]], .tup [.str [99], .tup [.int 1, .int 1]]], .str [97], .tup [.int 1, .int 2], .int 0], .lst [.str [110, 101, 101, 100, 115], .tup [.tup [.str [97], .tup [.str [98], .str [99]]], .tup [.str [98], .tup [.int 0, .int 1]], .tup [.str [99], .tup [.int 1, .int 1]]], .str [97], .tup [.int 1, .int 2]], .tup [.str [110, 101, 101, 100], .tup [.tup [.str [97], .tup [.str [98], .str [99]]], .tup [.str [98], .tup [.int 0, .int 1]], .tup [.str [99], .tup [.int 1, .int 1]]], .str [97], .tup [.int 1, .int 2]], .tup [.str [110, 101, 101, 100, 115], .tup [.tup [.str [97], .tup [.str [98], .str [99]]], .tup [.str [98], .tup [.int 0, .int 1]], .tup [.str [99], .tup [.int 1, .int 1]]], .str [122], .tup [.int 1, .int 2]], .tup [.str [110, 101, 101, 100, 115], .tup [.tup [.str [97], .tup [.str [98], .str [99]]], .tup [.str [98], .tup [.int 0, .int 1]], .tup [.str [99], .tup [.int 1, .int 1]]], .non, .tup [.int 1, .int 2]], .tup [.str [110, 101, 101, 100, 115], .tup [.tup [.str [97], .tup [.str [98], .str [99]]], .tup [.str [98], .tup [.int 0, .int 1]], .tup [.str [99], .tup [.int 1, .int 1]]], .str [97], .tup [.int 2, .int 4]], .tup [.str [110, 101, 101, 100, 115], .tup [.tup [.str [97], .tup [.str [98], .str [99]]], .tup [.str [98], .tup [.int 0, .int 1]], .tup [.str [99], .tup [.int 1, .int 1]]], .str [97], .int 1], .tup [.str [97, 98, 111, 118, 101], .tup [.tup [.str [97], .tup [.str [98], .str [99]]], .tup [.str [98], .tup [.int 0, .int 1]], .tup [.str [99], .tup [.int 1, .int 1]]], .str [97], .tup [.int 1, .int 0]], .tup [.str [98, 101, 108, 111, 119], .tup [.tup [.str [97], .tup [.str [98], .str [99]]], .tup [.str [98], .tup [.int 0, .int 1]], .tup [.str [99], .tup [.int 1, .int 1]]], .str [97], .lst [.int 2, .int 3]], .tup [.str [97, 98, 111, 118, 101], .tup [.tup [.str [97], .tup [.str [98], .str [99]]], .tup [.str [98], .tup [.int 0, .int 1]], .tup [.str [99], .tup [.int 1, .int 1]]], .tup [.str [97]], .tup [.int 0, .int 1]], .tup [.str [110, 101, 101, 100, 115], .str [97], .tup [.tup [.str [97], .tup [.str [98], .str [99]]], .tup [.str [98], .tup [.int 0, .int 1]], .tup [.str [99], .tup [.int 1, .int 1]]], .tup [.int 1, .int 2]], .tup [.str [119, 105, 116, 104, 105, 110], .tup [.tup [.str [97], .tup [.str [98], .str [99]]], .tup [.str [98], .tup [.int 0, .int 1]], .tup [.str [99], .tup [.int 1, .int 1]]], .str [97], .int 1], .tup [.str [119, 105, 116, 104, 105, 110], .tup [.tup [.str [97], .tup [.str [98], .str [99]]], .tup [.str [98], .tup [.int 0, .int 1]], .tup [.str [99], .tup [.int 1, .int 1]]], .str [97], .int (-1), .tup [.int 1, .int 1]], .tup [.str [119, 105, 116, 104, 105, 110], .tup [.tup [.str [97], .tup [.str [98], .str [99]]], .tup [.str [98], .tup [.int 0, .int 1]], .tup [.str [99], .tup [.int 1, .int 1]]], .str [97], .int 61, .tup [.int 1, .int 2]], .tup [.str [119, 105, 116, 104, 105, 110], .tup [.tup [.str [97], .tup [.str [98], .str [99]]], .tup [.str [98], .tup [.int 0, .int 1]], .tup [.str [99], .tup [.int 1, .int 1]]], .str [97], .bl true, .tup [.int 1, .int 2]], .tup [.str [119, 105, 116, 104, 105, 110], .tup [.tup [.str [97], .tup [.str [98], .str [99]]], .tup [.str [98], .tup [.int 0, .int 1]], .tup [.str [99], .tup [.int 1, .int 1]]], .str [97], .int 0, .int 1], .tup [.str [119, 105, 116, 104, 105, 110], .tup [.tup [.str [97], .tup [.str [98], .str [99]]], .tup [.str [98], .tup [.int 0, .int 1]], .tup [.str [99], .tup [.int 1, .int 1]]], .str [97], .str [48], .tup [.int 1, .int 1]], .tup [.str [119, 105, 116, 104, 105, 110], .tup [.tup [.str [97], .tup [.str [98], .str [99]]], .tup [.str [98], .tup [.int 0, .int 1]], .tup [.str [99], .tup [.int 1, .int 1]]], .str [97], .tup [.int 1, .int 1], .int 0], .tup [.str [78, 101, 101, 100, 115], .tup [.tup [.str [97], .tup [.str [98], .str [99]]], .tup [.str [98], .tup [.int 0, .int 1]], .tup [.str [99], .tup [.int 1, .int 1]]], .str [97], .tup [.int 1, .int 2]], .tup [.str [115, 97, 102, 101], .tup [.tup [.str [97], .tup [.str [98], .str [99]]], .tup [.str [98], .tup [.int 0, .int 1]], .tup [.str [99], .tup [.int 1, .int 1]]], .str [97], .tup [.int 3, .int 4], .tup [.int 1, .int 2]], .tup [.str [115, 97, 102, 101], .tup [.tup [.str [97], .tup [.str [98], .str [99]]], .tup [.str [98], .tup [.int 0, .int 1]], .tup [.str [99], .tup [.int 1, .int 1]]], .str [97], .tup [.int 3, .int 2], .tup [.int 1, .int 2], .str [98]]]
def NON : List T := [.tup [.str [110, 101, 101, 100, 115], .tup [.tup [.str [97], .tup [.str [98], .str [99]]], .tup [.str [98], .tup [.int 0, .int 1]], .tup [.str [99], .tup [.int 1, .int 1]]], .str [97]], .tup [.str [110, 101, 101, 100, 115], .tup [.tup [.str [97], .tup [.str [98], .str [99]]], .tup [.str [98], .tup [.int 0, .int 1]], .tup [.str [99], .tup [.int 1, .int 1]]], .str [97], .tup [.int 1, .int 2], .int 0], .lst [.str [110, 101, 101, 100, 115], .tup [.tup [.str [97], .tup [.str [98], .str [99]]], .tup [.str [98], .tup [.int 0, .int 1]], .tup [.str [99], .tup [.int 1, .int 1]]], .str [97], .tup [.int 1, .int 2]], .tup [.str [110, 101, 101, 100], .tup [.tup [.str [97], .tup [.str [98], .str [99]]], .tup [.str [98], .tup [.int 0, .int 1]], .tup [.str [99], .tup [.int 1, .int 1]]], .str [97], .tup [.int 1, .int 2]], .tup [.str [110, 101, 101, 100, 115], .tup [.tup [.str [97], .tup [.str [98], .str [99]]], .tup [.str [98], .tup [.int 0, .int 1]], .tup [.str [99], .tup [.int 1, .int 1]]], .str [122], .tup [.int 1, .int 2]], .tup [.str [110, 101, 101, 100, 115], .tup [.tup [.str [97], .tup [.str [98], .str [99]]], .tup [.str [98], .tup [.int 0, .int 1]], .tup [.str [99], .tup [.int 1, .int 1]]], .non, .tup [.int 1, .int 2]], .tup [.str [110, 101, 101, 100, 115], .tup [.tup [.str [97], .tup [.str [98], .str [99]]], .tup [.str [98], .tup [.int 0, .int 1]], .tup [.str [99], .tup [.int 1, .int 1]]], .str [97], .tup [.int 2, .int 4]], .tup [.str [110, 101, 101, 100, 115], .tup [.tup [.str [97], .tup [.str [98], .str [99]]], .tup [.str [98], .tup [.int 0, .int 1]], .tup [.str [99], .tup [.int 1, .int 1]]], .str [97], .int 1], .tup [.str [97, 98, 111, 118, 101], .tup [.tup [.str [97], .tup [.str [98], .str [99]]], .tup [.str [98], .tup [.int 0, .int 1]], .tup [.str [99], .tup [.int 1, .int 1]]], .str [97], .tup [.int 1, .int 0]], .tup [.str [98, 101, 108, 111, 119], .tup [.tup [.str [97], .tup [.str [98], .str [99]]], .tup [.str [98], .tup [.int 0, .int 1]], .tup [.str [99], .tup [.int 1, .int 1]]], .str [97], .lst [.int 2, .int 3]], .tup [.str [97, 98, 111, 118, 101], .tup [.tup [.str [97], .tup [.str [98], .str [99]]], .tup [.str [98], .tup [.int 0, .int 1]], .tup [.str [99], .tup [.int 1, .int 1]]], .tup [.str [97]], .tup [.int 0, .int 1]], .tup [.str [110, 101, 101, 100, 115], .str [97], .tup [.tup [.str [97], .tup [.str [98], .str [99]]], .tup [.str [98], .tup [.int 0, .int 1]], .tup [.str [99], .tup [.int 1, .int 1]]], .tup [.int 1, .int 2]], .tup [.str [119, 105, 116, 104, 105, 110], .tup [.tup [.str [97], .tup [.str [98], .str [99]]], .tup [.str [98], .tup [.int 0, .int 1]], .tup [.str [99], .tup [.int 1, .int 1]]], .str [97], .int 1], .tup [.str [119, 105, 116, 104, 105, 110], .tup [.tup [.str [97], .tup [.str [98], .str [99]]], .tup [.str [98], .tup [.int 0, .int 1]], .tup [.str [99], .tup [.int 1, .int 1]]], .str [97], .int (-1), .tup [.int 1, .int 1]], .tup [.str [119, 105, 116, 104, 105, 110], .tup [.tup [.str [97], .tup [.str [98], .str [99]]], .tup [.str [98], .tup [.int 0, .int 1]], .tup [.str [99], .tup [.int 1, .int 1]]], .str [97], .int 61, .tup [.int 1, .int 2]], .tup [.str [119, 105, 116, 104, 105, 110], .tup [.tup [.str [97], .tup [.str [98], .str [99]]], .tup [.str [98], .tup [.int 0, .int 1]], .tup [.str [99], .tup [.int 1, .int 1]]], .str [97], .bl true, .tup [.int 1, .int 2]], .tup [.str [119, 105, 116, 104, 105, 110], .tup [.tup [.str [97], .tup [.str [98], .str [99]]], .tup [.str [98], .tup [.int 0, .int 1]], .tup [.str [99], .tup [.int 1, .int 1]]], .str [97], .int 0, .int 1], .tup [.str [119, 105, 116, 104, 105, 110], .tup [.tup [.str [97], .tup [.str [98], .str [99]]], .tup [.str [98], .tup [.int 0, .int 1]], .tup [.str [99], .tup [.int 1, .int 1]]], .str [97], .str [48], .tup [.int 1, .int 1]], .tup [.str [119, 105, 116, 104, 105, 110], .tup [.tup [.str [97], .tup [.str [98], .str [99]]], .tup [.str [98], .tup [.int 0, .int 1]], .tup [.str [99], .tup [.int 1, .int 1]]], .str [97], .tup [.int 1, .int 1], .int 0], .tup [.str [78, 101, 101, 100, 115], .tup [.tup [.str [97], .tup [.str [98], .str [99]]], .tup [.str [98], .tup [.int 0, .int 1]], .tup [.str [99], .tup [.int 1, .int 1]]], .str [97], .tup [.int 1, .int 2]], .tup [.str [115, 97, 102, 101], .tup [.tup [.str [97], .tup [.str [98], .str [99]]], .tup [.str [98], .tup [.int 0, .int 1]], .tup [.str [99], .tup [.int 1, .int 1]]], .str [97], .tup [.int 3, .int 4], .tup [.int 1, .int 2]], .tup [.str [115, 97, 102, 101], .tup [.tup [.str [97], .tup [.str [98], .str [99]]], .tup [.str [98], .tup [.int 0, .int 1]], .tup [.str [99], .tup [.int 1, .int 1]]], .str [97], .tup [.int 3, .int 2], .tup [.int 1, .int 2], .str [98]], .tup [.str [115, 97, 102, 101], .tup [.tup [.str [97], .tup [.str [98], .str [99]]], .tup [.str [98], .tup [.int 0, .int 1]], .tup [.str [99], .tup [.int 1, .int 1]]], .str [97], .tup [.int 3, .int 4], .tup [.int (-1), .int 2], .str [98]], .tup [.str [115, 97, 102, 101], .tup [.tup [.str [97], .tup [.str [98], .str [99]]], .tup [.str [98], .tup [.int 0, .int 1]], .tup [.str [99], .tup [.int 1, .int 1]]], .str [97], .tup [.int 3, .int 4], .tup [.int 1, .int 2], .str [122]], .tup [.str [115, 97, 102, 101], .tup [.tup [.str [97], .tup [.str [98], .str [99]]], .tup [.str [98], .tup [.int 0, .int 1]], .tup [.str [99], .tup [.int 1, .int 1]]], .str [97], .tup [.int 3, .int 4], .tup [.int 1, .int 2], .non], .tup [.str [115, 97, 102, 101], .tup [.tup [.str [97], .tup [.str [98], .str [99]]], .tup [.str [98], .tup [.int 0, .int 1]], .tup [.str [99], .tup [.int 1, .int 1]]], .str [97], .int 1, .tup [.int 1, .int 2], .str [98]], .non, .int 5, .str [110, 101, 101, 100, 115], .tup [], .lst [], .dct [], .tup [.tup [.str [110, 101, 101, 100, 115]], .tup [.tup [.str [97], .tup [.str [98], .str [99]]], .tup [.str [98], .tup [.int 0, .int 1]], .tup [.str [99], .tup [.int 1, .int 1]]], .str [97], .tup [.int 1, .int 2]], .tup [.str [110, 101, 101, 100, 115]], .tup [.tup [.str [97], .tup [.str [98], .str [99]]], .tup [.str [98], .tup [.int 0, .int 1]], .tup [.str [99], .tup [.int 1, .int 1]]], .bl true, .tup [.str [], .tup [.tup [.str [97], .tup [.str [98], .str [99]]], .tup [.str [98], .tup [.int 0, .int 1]], .tup [.str [99], .tup [.int 1, .int 1]]], .str [97], .tup [.int 1, .int 2]]]
def BA5 : List T := [.tup [], .non, .lst [.tup [.str [97], .tup [.int 0, .int 1]]], .tup [.tup [.str [97], .tup [.int 0, .int 1]], .tup [.str [97], .tup [.int 1, .int 1]]], .tup [.tup [.str [98], .tup [.int 0, .int 1]], .tup [.str [97], .tup [.int 0, .int 1]]], .tup [.tup [.str [97], .tup [.str [98]]], .tup [.str [98], .tup [.str [97]]]], .tup [.tup [.str [97], .tup [.str [99]]], .tup [.str [98], .tup [.int 0, .int 1]]], .tup [.tup [.str [97], .tup [.int 2, .int 4]]], .tup [.tup [.str [97], .tup [.int 3, .int 2]]], .tup [.tup [.str [97], .tup [.int 1, .int 1000000000001]]], .tup [.tup [.str [97], .tup []]], .tup [.tup [.str [97], .lst [.str [98]]], .tup [.str [98], .tup [.int 0, .int 1]]]]
def BA10 : List T := [.tup [], .non, .lst [.tup [.str [97], .tup [.int 0, .int 1]]], .tup [.tup [.str [97], .tup [.int 0, .int 1]], .tup [.str [97], .tup [.int 1, .int 1]]], .tup [.tup [.str [98], .tup [.int 0, .int 1]], .tup [.str [97], .tup [.int 0, .int 1]]], .tup [.tup [.str [97], .tup [.str [98]]], .tup [.str [98], .tup [.str [97]]]], .tup [.tup [.str [97], .tup [.str [99]]], .tup [.str [98], .tup [.int 0, .int 1]]], .tup [.tup [.str [97], .tup [.int 2, .int 4]]], .tup [.tup [.str [97], .tup [.int 3, .int 2]]], .tup [.tup [.str [97], .tup [.int 1, .int 1000000000001]]], .tup [.tup [.str [97], .tup []]], .tup [.tup [.str [97], .lst [.str [98]]], .tup [.str [98], .tup [.int 0, .int 1]]], .tup [.tup [.str [65], .tup [.int 0, .int 1]]], .tup [.tup [.str [97], .tup [.str [98], .str [98]]], .tup [.str [98], .tup [.int 0, .int 1]]], .tup [.tup [.str [97], .tup [.int 0, .int 1], .int 0]], .tup [.lst [.str [97], .tup [.int 0, .int 1]]], .tup [.tup [.str [97, 98], .tup [.int 0, .int 1]]], .tup [.tup [.str [97], .tup [.str [99], .str [98]]], .tup [.str [98], .tup [.int 0, .int 1]], .tup [.str [99], .tup [.int 1, .int 1]]], .tup [.tup [.str [97], .tup [.bl true, .int 1]]], .tup [.tup [.str [97], .str [98]], .tup [.str [98], .tup [.int 0, .int 1]]]]
def BAD : List T := [.tup [], .non, .lst [.tup [.str [97], .tup [.int 0, .int 1]]], .tup [.tup [.str [97], .tup [.int 0, .int 1]], .tup [.str [97], .tup [.int 1, .int 1]]], .tup [.tup [.str [98], .tup [.int 0, .int 1]], .tup [.str [97], .tup [.int 0, .int 1]]], .tup [.tup [.str [97], .tup [.str [98]]], .tup [.str [98], .tup [.str [97]]]], .tup [.tup [.str [97], .tup [.str [99]]], .tup [.str [98], .tup [.int 0, .int 1]]], .tup [.tup [.str [97], .tup [.int 2, .int 4]]], .tup [.tup [.str [97], .tup [.int 3, .int 2]]], .tup [.tup [.str [97], .tup [.int 1, .int 1000000000001]]], .tup [.tup [.str [97], .tup []]], .tup [.tup [.str [97], .lst [.str [98]]], .tup [.str [98], .tup [.int 0, .int 1]]], .tup [.tup [.str [65], .tup [.int 0, .int 1]]], .tup [.tup [.str [97], .tup [.str [98], .str [98]]], .tup [.str [98], .tup [.int 0, .int 1]]], .tup [.tup [.str [97], .tup [.int 0, .int 1], .int 0]], .tup [.lst [.str [97], .tup [.int 0, .int 1]]], .tup [.tup [.str [97, 98], .tup [.int 0, .int 1]]], .tup [.tup [.str [97], .tup [.str [99], .str [98]]], .tup [.str [98], .tup [.int 0, .int 1]], .tup [.str [99], .tup [.int 1, .int 1]]], .tup [.tup [.str [97], .tup [.bl true, .int 1]]], .tup [.tup [.str [97], .str [98]], .tup [.str [98], .tup [.int 0, .int 1]]], .tup [.tup [.str [97], .tup [.int 0, .int 1]], .tup [.str [98], .tup [.int 0, .int 1]], .tup [.str [99], .tup [.int 0, .int 1]], .tup [.str [100], .tup [.int 0, .int 1]], .tup [.str [101], .tup [.int 0, .int 1]], .tup [.str [102], .tup [.int 0, .int 1]], .tup [.str [103], .tup [.int 0, .int 1]], .tup [.str [104], .tup [.int 0, .int 1]], .tup [.str [105], .tup [.int 0, .int 1]], .tup [.str [106], .tup [.int 0, .int 1]], .tup [.str [107], .tup [.int 0, .int 1]]], .str [97, 32, 61, 32, 48, 47, 49], .tup [.tup [.str [97], .tup [.int 0]]]]
variable (ad : String → Addr)
theorem none_r1 (C : T) (k : MS) : (jn (wp false (vD (jb (jj (jb (ret (.str [110, 101, 101, 100, 115])) (jb (var 1) (jb (ret (.str [97])) noA)))) (jb (jj (jb (ret (.str [110, 101, 101, 100, 115])) (jb (var 1) (jb (ret (.str [97])) (jb (jj (jb (ret (.int 1)) (jb (ret (.int 2)) noA))) (jb (ret (.int 0)) noA)))))) (jb (vD (jb (ret (.str [110, 101, 101, 100, 115])) (jb (var 1) (jb (ret (.str [97])) (jb (jj (jb (ret (.int 1)) (jb (ret (.int 2)) noA))) noA))))) noA)))) (jB false 2)) (jn (wp false (op2 (var 2) (vD (jb (jj (jb (ret (.str [110, 101, 101, 100])) (jb (var 1) (jb (ret (.str [97])) (jb (jj (jb (ret (.int 1)) (jb (ret (.int 2)) noA))) noA))))) noA)) kg) (jB false 2)) (jn (wp false (op2 (var 2) (vD (jb (jj (jb (ret (.str [110, 101, 101, 100, 115])) (jb (var 1) (jb (ret (.str [122])) (jb (jj (jb (ret (.int 1)) (jb (ret (.int 2)) noA))) noA))))) (jb (jj (jb (ret (.str [110, 101, 101, 100, 115])) (jb (var 1) (jb (ret .non) (jb (jj (jb (ret (.int 1)) (jb (ret (.int 2)) noA))) noA))))) (jb (jj (jb (ret (.str [110, 101, 101, 100, 115])) (jb (var 1) (jb (ret (.str [97])) (jb (jj (jb (ret (.int 2)) (jb (ret (.int 4)) noA))) noA))))) noA)))) kg) (jB false 2)) (jn (wp false (op2 (var 2) (vD (jb (jj (jb (ret (.str [110, 101, 101, 100, 115])) (jb (var 1) (jb (ret (.str [97])) (jb (ret (.int 1)) noA))))) noA)) kg) (jB false 2)) (jn (wp false (op2 (var 2) (vD (jb (jj (jb (ret (.str [97, 98, 111, 118, 101])) (jb (var 1) (jb (ret (.str [97])) (jb (jj (jb (ret (.int 1)) (jb (ret (.int 0)) noA))) noA))))) (jb (jj (jb (ret (.str [98, 101, 108, 111, 119])) (jb (var 1) (jb (ret (.str [97])) (jb (vD (jb (ret (.int 2)) (jb (ret (.int 3)) noA))) noA))))) noA))) kg) (jB false 2)) (jn (wp false (op2 (var 2) (vD (jb (jj (jb (ret (.str [97, 98, 111, 118, 101])) (jb (var 1) (jb (jj (jb (ret (.str [97])) noA)) (jb (jj (jb (ret (.int 0)) (jb (ret (.int 1)) noA))) noA))))) (jb (jj (jb (ret (.str [110, 101, 101, 100, 115])) (jb (ret (.str [97])) (jb (var 1) (jb (jj (jb (ret (.int 1)) (jb (ret (.int 2)) noA))) noA))))) noA))) kg) (jB false 2)) k)))))) [.ow C, .va F77, .no] = k [.ow C, .va F77, .va (.lst NO5)] := rfl
theorem none_r2 (C : T) (k : MS) : (jn (wp false (op2 (var 2) (vD (jb (jj (jb (ret (.str [119, 105, 116, 104, 105, 110])) (jb (var 1) (jb (ret (.str [97])) (jb (ret (.int 1)) noA))))) (jb (jj (jb (ret (.str [119, 105, 116, 104, 105, 110])) (jb (var 1) (jb (ret (.str [97])) (jb (Ws (ret (.int 1))) (jb (jj (jb (ret (.int 1)) (jb (ret (.int 1)) noA))) noA)))))) noA))) kg) (jB false 2)) (jn (wp false (op2 (var 2) (vD (jb (jj (jb (ret (.str [119, 105, 116, 104, 105, 110])) (jb (var 1) (jb (ret (.str [97])) (jb (ret (.int 61)) (jb (jj (jb (ret (.int 1)) (jb (ret (.int 2)) noA))) noA)))))) (jb (jj (jb (ret (.str [119, 105, 116, 104, 105, 110])) (jb (var 1) (jb (ret (.str [97])) (jb (ret (.bl true)) (jb (jj (jb (ret (.int 1)) (jb (ret (.int 2)) noA))) noA)))))) noA))) kg) (jB false 2)) (jn (wp false (op2 (var 2) (vD (jb (jj (jb (ret (.str [119, 105, 116, 104, 105, 110])) (jb (var 1) (jb (ret (.str [97])) (jb (ret (.int 0)) (jb (ret (.int 1)) noA)))))) (jb (jj (jb (ret (.str [119, 105, 116, 104, 105, 110])) (jb (var 1) (jb (ret (.str [97])) (jb (ret (.str [48])) (jb (jj (jb (ret (.int 1)) (jb (ret (.int 1)) noA))) noA)))))) noA))) kg) (jB false 2)) (jn (wp false (op2 (var 2) (vD (jb (jj (jb (ret (.str [119, 105, 116, 104, 105, 110])) (jb (var 1) (jb (ret (.str [97])) (jb (jj (jb (ret (.int 1)) (jb (ret (.int 1)) noA))) (jb (ret (.int 0)) noA)))))) (jb (jj (jb (ret (.str [78, 101, 101, 100, 115])) (jb (var 1) (jb (ret (.str [97])) (jb (jj (jb (ret (.int 1)) (jb (ret (.int 2)) noA))) noA))))) noA))) kg) (jB false 2)) (jn (wp false (op2 (var 2) (vD (jb (jj (jb (ret (.str [115, 97, 102, 101])) (jb (var 1) (jb (ret (.str [97])) (jb (jj (jb (ret (.int 3)) (jb (ret (.int 4)) noA))) (jb (jj (jb (ret (.int 1)) (jb (ret (.int 2)) noA))) noA)))))) (jb (jj (jb (ret (.str [115, 97, 102, 101])) (jb (var 1) (jb (ret (.str [97])) (jb (jj (jb (ret (.int 3)) (jb (ret (.int 2)) noA))) (jb (jj (jb (ret (.int 1)) (jb (ret (.int 2)) noA))) (jb (ret (.str [98])) noA))))))) noA))) kg) (jB false 2)) k))))) [.ow C, .va F77, .va (.lst NO5)] = k [.ow C, .va F77, .va (.lst NO10)] := rfl
theorem none_r3 (C : T) (k : MS) : (jn (wp false (op2 (var 2) (vD (jb (jj (jb (ret (.str [115, 97, 102, 101])) (jb (var 1) (jb (ret (.str [97])) (jb (jj (jb (ret (.int 3)) (jb (ret (.int 4)) noA))) (jb (jj (jb (Ws (ret (.int 1))) (jb (ret (.int 2)) noA))) (jb (ret (.str [98])) noA))))))) noA)) kg) (jB false 2)) (jn (wp false (op2 (var 2) (vD (jb (jj (jb (ret (.str [115, 97, 102, 101])) (jb (var 1) (jb (ret (.str [97])) (jb (jj (jb (ret (.int 3)) (jb (ret (.int 4)) noA))) (jb (jj (jb (ret (.int 1)) (jb (ret (.int 2)) noA))) (jb (ret (.str [122])) noA))))))) (jb (jj (jb (ret (.str [115, 97, 102, 101])) (jb (var 1) (jb (ret (.str [97])) (jb (jj (jb (ret (.int 3)) (jb (ret (.int 4)) noA))) (jb (jj (jb (ret (.int 1)) (jb (ret (.int 2)) noA))) (jb (ret .non) noA))))))) noA))) kg) (jB false 2)) (jn (wp false (op2 (var 2) (vD (jb (jj (jb (ret (.str [115, 97, 102, 101])) (jb (var 1) (jb (ret (.str [97])) (jb (ret (.int 1)) (jb (jj (jb (ret (.int 1)) (jb (ret (.int 2)) noA))) (jb (ret (.str [98])) noA))))))) noA)) kg) (jB false 2)) (jn (wp false (op2 (var 2) (vD (jb (ret .non) (jb (ret (.int 5)) (jb (ret (.str [110, 101, 101, 100, 115])) (jb (jj noA) (jb (vD noA) (jb (fun ρ => some (.ok (.dct []) .ow ρ)) (jb (jj (jb (jj (jb (ret (.str [110, 101, 101, 100, 115])) noA)) (jb (var 1) (jb (ret (.str [97])) (jb (jj (jb (ret (.int 1)) (jb (ret (.int 2)) noA))) noA))))) (jb (jj (jb (ret (.str [110, 101, 101, 100, 115])) noA)) (jb (var 1) (jb (ret (.bl true)) noA))))))))))) kg) (jB false 2)) (jn (wp false (op2 (var 2) (vD (jb (jj (jb (ret (.str [])) (jb (var 1) (jb (ret (.str [97])) (jb (jj (jb (ret (.int 1)) (jb (ret (.int 2)) noA))) noA))))) noA)) kg) (jB false 2)) k))))) [.ow C, .va F77, .va (.lst NO10)] = k [.ow C, .va F77, .va (.lst NON)] := rfl
theorem bad_r1 (C : T) (k : MS) : (jn (wp false (vD (jb (jj noA) (jb (ret .non) (jb (vD (jb (jj (jb (ret (.str [97])) (jb (jj (jb (ret (.int 0)) (jb (ret (.int 1)) noA))) noA))) noA)) (jb (jj (jb (jj (jb (ret (.str [97])) (jb (jj (jb (ret (.int 0)) (jb (ret (.int 1)) noA))) noA))) (jb (jj (jb (ret (.str [97])) (jb (jj (jb (ret (.int 1)) (jb (ret (.int 1)) noA))) noA))) noA))) noA))))) (jB false 1)) (jn (wp false (op2 (var 1) (vD (jb (jj (jb (jj (jb (ret (.str [98])) (jb (jj (jb (ret (.int 0)) (jb (ret (.int 1)) noA))) noA))) (jb (jj (jb (ret (.str [97])) (jb (jj (jb (ret (.int 0)) (jb (ret (.int 1)) noA))) noA))) noA))) noA)) kg) (jB false 1)) (jn (wp false (op2 (var 1) (vD (jb (jj (jb (jj (jb (ret (.str [97])) (jb (jj (jb (ret (.str [98])) noA)) noA))) (jb (jj (jb (ret (.str [98])) (jb (jj (jb (ret (.str [97])) noA)) noA))) noA))) (jb (jj (jb (jj (jb (ret (.str [97])) (jb (jj (jb (ret (.str [99])) noA)) noA))) (jb (jj (jb (ret (.str [98])) (jb (jj (jb (ret (.int 0)) (jb (ret (.int 1)) noA))) noA))) noA))) (jb (jj (jb (jj (jb (ret (.str [97])) (jb (jj (jb (ret (.int 2)) (jb (ret (.int 4)) noA))) noA))) noA)) noA)))) kg) (jB false 1)) (jn (wp false (op2 (var 1) (vD (jb (jj (jb (jj (jb (ret (.str [97])) (jb (jj (jb (ret (.int 3)) (jb (ret (.int 2)) noA))) noA))) noA)) noA)) kg) (jB false 1)) (jn (wp false (op2 (var 1) (vD (jb (jj (jb (jj (jb (ret (.str [97])) (jb (jj (jb (ret (.int 1)) (jb (op2 (op2 (ret (.int 10)) (ret (.int 12)) WH) (ret (.int 1)) kg) noA))) noA))) noA)) (jb (jj (jb (jj (jb (ret (.str [97])) (jb (jj noA) noA))) noA)) (jb (jj (jb (jj (jb (ret (.str [97])) (jb (vD (jb (ret (.str [98])) noA)) noA))) (jb (jj (jb (ret (.str [98])) (jb (jj (jb (ret (.int 0)) (jb (ret (.int 1)) noA))) noA))) noA))) noA)))) kg) (jB false 1)) k))))) [.ow C, .no, .no] = k [.ow C, .va (.lst BA5), .no] := rfl
theorem bad_r2 (C : T) (k : MS) : (jn (wp false (op2 (var 1) (vD (jb (jj (jb (jj (jb (ret (.str [65])) (jb (jj (jb (ret (.int 0)) (jb (ret (.int 1)) noA))) noA))) noA)) noA)) kg) (jB false 1)) (jn (wp false (op2 (var 1) (vD (jb (jj (jb (jj (jb (ret (.str [97])) (jb (jj (jb (ret (.str [98])) (jb (ret (.str [98])) noA))) noA))) (jb (jj (jb (ret (.str [98])) (jb (jj (jb (ret (.int 0)) (jb (ret (.int 1)) noA))) noA))) noA))) (jb (jj (jb (jj (jb (ret (.str [97])) (jb (jj (jb (ret (.int 0)) (jb (ret (.int 1)) noA))) (jb (ret (.int 0)) noA)))) noA)) (jb (jj (jb (vD (jb (ret (.str [97])) (jb (jj (jb (ret (.int 0)) (jb (ret (.int 1)) noA))) noA))) noA)) noA)))) kg) (jB false 1)) (jn (wp false (op2 (var 1) (vD (jb (jj (jb (jj (jb (ret (.str [97, 98])) (jb (jj (jb (ret (.int 0)) (jb (ret (.int 1)) noA))) noA))) noA)) noA)) kg) (jB false 1)) (jn (wp false (op2 (var 1) (vD (jb (jj (jb (jj (jb (ret (.str [97])) (jb (jj (jb (ret (.str [99])) (jb (ret (.str [98])) noA))) noA))) (jb (jj (jb (ret (.str [98])) (jb (jj (jb (ret (.int 0)) (jb (ret (.int 1)) noA))) noA))) (jb (jj (jb (ret (.str [99])) (jb (jj (jb (ret (.int 1)) (jb (ret (.int 1)) noA))) noA))) noA)))) (jb (jj (jb (jj (jb (ret (.str [97])) (jb (jj (jb (ret (.bl true)) (jb (ret (.int 1)) noA))) noA))) noA)) noA))) kg) (jB false 1)) (jn (wp false (op2 (var 1) (vD (jb (jj (jb (jj (jb (ret (.str [97])) (jb (ret (.str [98])) noA))) (jb (jj (jb (ret (.str [98])) (jb (jj (jb (ret (.int 0)) (jb (ret (.int 1)) noA))) noA))) noA))) noA)) kg) (jB false 1)) k))))) [.ow C, .va (.lst BA5), .no] = k [.ow C, .va (.lst BA10), .no] := rfl
abbrev lastB : M := (op2 (var 1) (vD (jb (km (jb (lcM (JT (ret (.str [97, 98, 99, 100, 101, 102, 103, 104, 105, 106, 107]))) (jB false 2) (fun ρ => some (.ok (.bl true) .va ρ)) (jj (jb (var 2) (jb (jj (jb (ret (.int 0)) (jb (ret (.int 1)) noA))) noA))) [2]) noA) Jf) (jb (ret (.str [97, 32, 61, 32, 48, 47, 49])) (jb (jj (jb (jj (jb (ret (.str [97])) (jb (jj (jb (ret (.int 0)) noA)) noA))) noA)) noA)))) kg)
theorem bad_r3 (C : T) : lastB [.ow C, .va (.lst BA10), .no] = some (.ok (.lst BAD) .ow [.ow C, .va (.lst BA10), .no]) := by
  have it : itT (.str [97, 98, 99, 100, 101, 102, 103, 104, 105, 106, 107]) = some ([97, 98, 99, 100, 101, 102, 103, 104, 105, 106, 107].map fun c => T.str [c]) := rfl
  have lc := lc1 (mi := JT (ret (.str [97, 98, 99, 100, 101, 102, 103, 104, 105, 106, 107]))) (me := jj (jb (var 2) (jb (jj (jb (ret (.int 0)) (jb (ret (.int 1)) noA))) noA))) (ρ := [.ow C, .va (.lst BA10), .no]) (j := 2) [97, 98, 99, 100, 101, 102, 103, 104, 105, 106, 107] (fun c => T.str [c]) (fun c => .tup [.str [c], .tup [.int 0, .int 1]]) (by simp) (row_va (by simp [vc]) it) (by simp) (by
    intro c hc
    exact ⟨.va, by simp [jJ, vb, vc, wU, ve, kJ, wn, kK, vi, jr, vj, js, vg, jH, kL, kM, jL, kN, vk, kO, kP, kQ, kR, vm, vn, kS, kT, vp, vB, kE, vq, kU, kF, vt, kW, kG, kX, kH, jI, kI, kY, kZ, wa, wb, jM, jN, jt, wc, wd, we, ju, vv, jO, jv, wf, wg, jP, jQ, vz, vA, wh, jl, wi, jm, jR, wj, jh, ky, jS, jw, wk, jT, jU, jV, jW, wl, jx, jy, jz, wm, jX, JJ, kz, jY, jZ, fI, Jg, Jd, T.tupl, vK, fMul', Jr, Js, jF, JG, big, Ju, wL, fGt, fGe, fLt, fLe, bo, stO, Sl.priv, Sl.fx, jo, Cl.free, Jy, JC, erO, wV, tyD, tyT, isC, isT, eqT, ku, toD, Ji, wQ, ko, JD, JA, kD, Jh, bls, Jz, JH, tK, JK, JE, kw, pk, Jw, slT, frz, JI, List.lookup, List.replicate, jk, backR, wy, kA, jk_va', jk_no', vU, vP, vV, vW, vX, vY, vZ, vO, Ja, wO, kB, kC, ki, kr, vT, wN, kf, vQ, vR, vS], rfl⟩)
  have e : BAD = BA10 ++ [.tup ([97, 98, 99, 100, 101, 102, 103, 104, 105, 106, 107].map fun c => T.tup [.str [c], .tup [.int 0, .int 1]]), .str [97, 32, 61, 32, 48, 47, 49], .tup [.tup [.str [97], .tup [.int 0]]]] := rfl
  have l : BA10.length = 20 := rfl
  obtain ⟨LL, hLL⟩ : ∃ X, X = T.lst ([97, 98, 99, 100, 101, 102, 103, 104, 105, 106, 107].map fun c => T.tup [.str [c], .tup [.int 0, .int 1]]) := ⟨_, rfl⟩
  have ft : Jf [LL] = some (.tup ([97, 98, 99, 100, 101, 102, 103, 104, 105, 106, 107].map fun c => T.tup [.str [c], .tup [.int 0, .int 1]]), false) := by rw [hLL]; rfl
  obtain ⟨TT, hTT⟩ : ∃ X, X = T.tup ([97, 98, 99, 100, 101, 102, 103, 104, 105, 106, 107].map fun c => T.tup [.str [c], .tup [.int 0, .int 1]]) := ⟨_, rfl⟩
  rw [← hLL] at lc
  rw [← hTT] at ft e
  rw [e]
  obtain ⟨Q, hQ⟩ : ∃ Q, Q = BA10 := ⟨_, rfl⟩
  rw [← hQ] at l lc ⊢
  clear hQ hTT hLL e it
  simp [lastB, jJ, vb, vc, wU, ve, kJ, wn, kK, vi, jr, vj, js, vg, jH, kL, kM, jL, kN, vk, kO, kP, kQ, kR, vm, vn, kS, kT, vp, vB, kE, vq, kU, kF, vt, kW, kG, kX, kH, jI, kI, kY, kZ, wa, wb, jM, jN, jt, wc, wd, we, ju, vv, jO, jv, wf, wg, jP, jQ, vz, vA, wh, jl, wi, jm, jR, wj, jh, ky, jS, jw, wk, jT, jU, jV, jW, wl, jx, jy, jz, wm, jX, JJ, kz, jY, jZ, fI, Jg, Jd, T.tupl, vK, fMul', Jr, Js, jF, JG, big, Ju, wL, fGt, fGe, fLt, fLe, bo, stO, Sl.priv, Sl.fx, jo, Cl.free, Jy, JC, erO, wV, tyD, tyT, isC, isT, eqT, ku, toD, Ji, wQ, ko, JD, JA, kD, Jh, bls, Jz, JH, tK, JK, JE, kw, pk, Jw, slT, frz, JI, List.lookup, List.replicate, jk, backR, wy, kA, jk_va', jk_no', vU, vP, vV, vW, vX, vY, vZ, vO, Ja, wO, kB, kC, ki, kr, vT, wN, kf, vQ, vR, vS, lc, ft, l]
theorem none_no : NON.all (fun t => Wz false (kj adX [t])) = true := by decide +kernel
theorem bad_no : BAD.all (fun t => [[110, 101, 101, 100, 115], [97, 98, 111, 118, 101], [98, 101, 108, 111, 119]].all fun w => [T.tup [.int 0, .int 1], .tup [.int (-1), .int 1], .tup [.int 2, .int 1]].all fun v => Wz false (kj adX [.tup [.str w, t, .str [97], v]])) = true := by decide +kernel
theorem ck_ad : kj ad = kj adX := rfl
theorem acc_ad : jC ad = jC adX := rfl
theorem path_ad : Jq ad = Jq adX := rfl
end Tr
end F_X77
section F_M77
set_option Elab.async false
set_option maxRecDepth 100000
set_option maxHeartbeats 4000000
set_option linter.all false
namespace Tr
open PySem PySem.Spec PyProof.Rows L2 LamX Vf
open SX (S)
variable (ad : String → Addr)
theorem acc_bad {C V : T} (hc : kj ad [C] = ok1 (.bl false)) : jC ad [C, V] = ok1 (.bl false) := by
  simp [jC, b_m_accepts_ck, jJ, vb, vc, wU, ve, kJ, wn, kK, vi, jr, vj, js, vg, jH, kL, kM, jL, kN, vk, kO, kP, kQ, kR, vm, vn, kS, kT, vp, vB, kE, vq, kU, kF, vt, kW, kG, kX, kH, jI, kI, kY, kZ, wa, wb, jM, jN, jt, wc, wd, we, ju, vv, jO, jv, wf, wg, jP, jQ, vz, vA, wh, jl, wi, jm, jR, wj, jh, ky, jS, jw, wk, jT, jU, jV, jW, wl, jx, jy, jz, wm, jX, JJ, kz, jY, jZ, fI, Jg, Jd, T.tupl, vK, fMul', Jr, Js, jF, JG, big, Ju, wL, fGt, fGe, fLt, fLe, bo, stO, Sl.priv, Sl.fx, jo, Cl.free, Jy, JC, erO, wV, tyD, tyT, isC, isT, eqT, ku, toD, Ji, wQ, ko, JD, JA, kD, Jh, bls, Jz, JH, tK, JK, JE, kw, pk, Jw, slT, frz, JI, List.lookup, List.replicate, jk, backR, wy, kA, jk_va', jk_no', vU, vP, vV, vW, vX, vY, vZ, vO, Ja, wO, kB, kC, ki, kr, vT, wN, kf, vQ, vR, vS, hc]
theorem defC13 (b : MS) (C : T) : KY 1 3 b C [] = Ju (b [.ow C, .no, .no]) := rfl
theorem defC23 (b : MS) (C F : T) : KY 2 3 b C [F] = Ju (b [.ow C, .va F, .no]) := rfl
theorem z_none {C : T} (hC : Cup C) : ∃ t C', Cup C' ∧ kj ad [t] = ok1 (.bl false) ∧ Jo ad C [F77] = some ((t, false), C') := by
  obtain ⟨t, C', hC', ht, e1⟩ := Wp ad hC (.lst NON) false NON rfl (by decide +kernel) (by decide +kernel)
  refine ⟨t, C', hC', ?_, ?_⟩
  · rw [ck_ad]
    exact isOk_eq (List.all_eq_true.mp none_no t ht)
  · have e : b_m__law_none ad [.ow C, .va F77, .no] = some (.rt t false [.ow C', .va F77, .va (.lst NON)]) := by
      unfold b_m__law_none
      refine (none_r1 C _).trans ((none_r2 C _).trans ((none_r3 C _).trans ?_))
      obtain ⟨L, hL⟩ : ∃ L, L = T.lst NON := ⟨_, rfl⟩
      obtain ⟨F, hF⟩ : ∃ L, L = F77 := ⟨_, rfl⟩
      rw [← hL] at e1 ⊢
      rw [← hF]
      clear hL hF ht
      simp [jJ, vb, vc, wU, ve, kJ, wn, kK, vi, jr, vj, js, vg, jH, kL, kM, jL, kN, vk, kO, kP, kQ, kR, vm, vn, kS, kT, vp, vB, kE, vq, kU, kF, vt, kW, kG, kX, kH, jI, kI, kY, kZ, wa, wb, jM, jN, jt, wc, wd, we, ju, vv, jO, jv, wf, wg, jP, jQ, vz, vA, wh, jl, wi, jm, jR, wj, jh, ky, jS, jw, wk, jT, jU, jV, jW, wl, jx, jy, jz, wm, jX, JJ, kz, jY, jZ, fI, Jg, Jd, T.tupl, vK, fMul', Jr, Js, jF, JG, big, Ju, wL, fGt, fGe, fLt, fLe, bo, stO, Sl.priv, Sl.fx, jo, Cl.free, Jy, JC, erO, wV, tyD, tyT, isC, isT, eqT, ku, toD, Ji, wQ, ko, JD, JA, kD, Jh, bls, Jz, JH, tK, JK, JE, kw, pk, Jw, slT, frz, List.lookup, List.replicate, jk, backR, wy, kA, jk_va', jk_no', vU, vP, vV, vW, vX, vY, vZ, vO, Ja, wO, kB, kC, ki, kr, vT, wN, kf, vQ, vR, vS, e1, frz, fz_va, fz_no]
    rw [show Jo ad = KY 2 3 (b_m__law_none ad) from rfl, defC23, e]
    simp [Ju, wL, stO]
theorem z_bad {C : T} (hC : Cup C) : ∃ t C', Cup C' ∧ t ∈ BAD ∧ wY ad C [] = some ((t, false), C') := by
  obtain ⟨t, C', hC', ht, e1⟩ := Wp ad hC (.lst BAD) false BAD rfl (by decide +kernel) (by decide +kernel)
  refine ⟨t, C', hC', ht, ?_⟩
  have e : b_m__law_bad_rows ad [.ow C, .no, .no] = some (.rt t false [.ow C', .va (.lst BA10), .no]) := by
    unfold b_m__law_bad_rows
    refine (bad_r1 C _).trans ((bad_r2 C _).trans ?_)
    have lb := bad_r3 C
    obtain ⟨L, hL⟩ : ∃ L, L = T.lst BAD := ⟨_, rfl⟩
    obtain ⟨L2, hL2⟩ : ∃ L, L = T.lst BA10 := ⟨_, rfl⟩
    rw [← hL] at e1 lb
    rw [← hL2] at lb ⊢
    clear hL hL2 ht
    unfold lastB at lb
    obtain ⟨LB, hLB⟩ : ∃ m, m = lastB := ⟨_, rfl⟩
    unfold lastB at hLB
    rw [← hLB] at lb ⊢
    clear hLB
    simp [jJ, vb, vc, wU, ve, kJ, wn, kK, vi, jr, vj, js, vg, jH, kL, kM, jL, kN, vk, kO, kP, kQ, kR, vm, vn, kS, kT, vp, vB, kE, vq, kU, kF, vt, kW, kG, kX, kH, jI, kI, kY, kZ, wa, wb, jM, jN, jt, wc, wd, we, ju, vv, jO, jv, wf, wg, jP, jQ, vz, vA, wh, jl, wi, jm, jR, wj, jh, ky, jS, jw, wk, jT, jU, jV, jW, wl, jx, jy, jz, wm, jX, JJ, kz, jY, jZ, fI, Jg, Jd, T.tupl, vK, fMul', Jr, Js, jF, JG, big, Ju, wL, fGt, fGe, fLt, fLe, bo, stO, Sl.priv, Sl.fx, jo, Cl.free, Jy, JC, erO, wV, tyD, tyT, isC, isT, eqT, ku, toD, Ji, wQ, ko, JD, JA, kD, Jh, bls, Jz, JH, tK, JK, JE, kw, pk, Jw, slT, frz, List.lookup, List.replicate, jk, backR, wy, kA, jk_va', jk_no', vU, vP, vV, vW, vX, vY, vZ, vO, Ja, wO, kB, kC, ki, kr, vT, wN, kf, vQ, vR, vS, lb, e1, frz, fz_va, fz_no]
  rw [show wY ad = KY 1 3 (b_m__law_bad_rows ad) from rfl, defC13, e]
  simp [Ju, wL, stO]
def JW : T := .tup [.tup [.int 1, .int 2], .tup [.int 0, .int 1], .tup [.int 1, .int 1]]
def M0 : T := .tup [.tup [.int 1, .int 1], .tup [.int 0, .int 1], .tup [.int 1, .int 1]]
def Ky : T := .tup [M0, JW]
def SH77 : List T := [JW, Ky, .tpu [M0], .tup [], .non, .tup [.tup [.int 0, .int 1]], .tup [.tup [.int 1, .int 1]], .tup [.tup [.int 0, .int 1], .tup [.int 0, .int 1]], .tup [.tup [.int 1, .int 2]]]
theorem right_r0 (C : T) (k : MS) : (jn (wp false (jj (jb (jj (jb (ret (.str [97])) (jb (jj (jb (ret (.str [98])) (jb (ret (.str [99])) noA))) noA))) (jb (jj (jb (ret (.str [98])) (jb (jj (jb (ret (.int 0)) (jb (ret (.int 1)) noA))) noA))) (jb (jj (jb (ret (.str [99])) (jb (jj (jb (ret (.int 1)) (jb (ret (.int 1)) noA))) noA))) noA)))) (jB false 1)) (jn (wp false (jj (jb (jj (jb (jj (jb (ret (.int 1)) (jb (ret (.int 2)) noA))) (jb (jj (jb (ret (.int 0)) (jb (ret (.int 1)) noA))) (jb (jj (jb (ret (.int 1)) (jb (ret (.int 1)) noA))) noA)))) (jb (jj (jb (jj (jb (jj (jb (ret (.int 1)) (jb (ret (.int 1)) noA))) (jb (jj (jb (ret (.int 0)) (jb (ret (.int 1)) noA))) (jb (jj (jb (ret (.int 1)) (jb (ret (.int 1)) noA))) noA)))) (jb (jj (jb (jj (jb (ret (.int 1)) (jb (ret (.int 2)) noA))) (jb (jj (jb (ret (.int 0)) (jb (ret (.int 1)) noA))) (jb (jj (jb (ret (.int 1)) (jb (ret (.int 1)) noA))) noA)))) noA))) noA))) (KM (vd (jB false 2) (vd (jB false 3) KI)))) (jn (wp false (vD (jb (var 2) (jb (var 3) (jb (Wy (var 3) none (some (ret (.int 1)))) (jb (jj noA) (jb (ret .non) (jb (jj (jb (jj (jb (ret (.int 0)) (jb (ret (.int 1)) noA))) noA)) (jb (jj (jb (jj (jb (ret (.int 1)) (jb (ret (.int 1)) noA))) noA)) (jb (jj (jb (jj (jb (ret (.int 0)) (jb (ret (.int 1)) noA))) (jb (jj (jb (ret (.int 0)) (jb (ret (.int 1)) noA))) noA))) (jb (jj (jb (jj (jb (ret (.int 1)) (jb (ret (.int 2)) noA))) noA)) noA)))))))))) (jB false 4)) k))) [.ow C, .no, .no, .no, .no, .no, .no, .no, .no, .no, .no, .no, .no, .no, .no, .no] = k [.ow C, .va F77, .va JW, .va Ky, .va (.lst SH77), .no, .no, .no, .no, .no, .no, .no, .no, .no, .no, .no] := rfl
/-- one value that is no claim -/
theorem turn77 {C : T} (hC : Cup C) (z5 : Sl) (z6 z7 z8 z9 : Sl) (j6 : Jk z6) (j7 : Jk z7) (j8 : Jk z8) (j9 : Jk z9) : ∃ C' y6 y7 y8 y9, Cup C' ∧ Jk y6 ∧ Jk y7 ∧ Jk y8 ∧ Jk y9 ∧ ((jn (wp false (Jx 0 (jb (var 1) noA) (Jo ad)) (jB false 6)) (jn (ifS (op2 (Jx 0 (jb (ret (.int 2)) noA) (vh ad)) (ret (.int 0)) fEq) (jn (WB 7 8 (jb (Jx 0 (jb (vD (jb (ret (.str [110, 101, 101, 100, 115])) (jb (ret (.str [97, 98, 111, 118, 101])) (jb (ret (.str [98, 101, 108, 111, 119])) noA)))) noA) (wF ad)) (jb (Jx 0 (jb (vD (jb (jj (jb (ret (.int 0)) (jb (ret (.int 1)) noA))) (jb (jj (jb (Ws (ret (.int 1))) (jb (ret (.int 1)) noA))) (jb (jj (jb (ret (.int 2)) (jb (ret (.int 1)) noA))) noA)))) noA) (wF ad)) noA))) (jn (wp false (jj (jb (var 7) (jb (Jx 0 noA (wY ad)) (jb (ret (.str [97])) (jb (var 8) noA))))) (jB false 6)) kq)) kq) (jn (wp false (op2 (lcM (JT (var 4)) (jB false 13) (fun ρ => some (.ok (.bl true) .va ρ)) (jK (jb (var 6) (jb (var 13) noA)) (jC ad)) [13]) (vD (jb (callK [1, 0] (jb (var 2) (jb (var 6) noA)) (jC ad)) noA)) kg) (jB false 9)) (jn (ifS (op2 (km (jb (var 9) noA) Kx) (km (jb (op2 (vD (jb (ret (.bl false)) noA)) (ret (.int 10)) vK) noA) Kx) fNe) (jn (vL (ret (.bl false))) kq) kq) kq))))) [.ow C, .va F77, .va JW, .va Ky, .va (.lst SH77), z5, z6, z7, z8, z9, .no, .no, .no, .no, .no, .no] =
    some (.nx [.ow C', .va F77, .va JW, .va Ky, .va (.lst SH77), z5, y6, y7, y8, y9, .no, .no, .no, .no, .no, .no]) := by
  obtain ⟨B0, C1, hC1, k1, e1⟩ := z_none ad hC
  obtain ⟨r, C2, hC2, hr, e2⟩ := z_dip ad hC1 2 (by decide) (by decide)
  have q2 := vP (r : Nat) 0
  obtain ⟨F, hF⟩ : ∃ X, X = F77 := ⟨_, rfl⟩
  obtain ⟨OW, hOW⟩ : ∃ X, X = JW := ⟨_, rfl⟩
  obtain ⟨MV, hMV⟩ : ∃ X, X = Ky := ⟨_, rfl⟩
  obtain ⟨SH, hSH⟩ : ∃ X, X = T.lst SH77 := ⟨_, rfl⟩
  rw [← hF] at e1
  rw [← hF, ← hOW, ← hMV, ← hSH]
  -- what is drawn
  obtain ⟨B1, C3, y7, y8, hC3, j7', j8', kb, s1⟩ : ∃ B1 C3 y7 y8, Cup C3 ∧ Jk y7 ∧ Jk y8 ∧ kj ad [B1] = ok1 (.bl false) ∧ ((ifS (op2 (Jx 0 (jb (ret (.int 2)) noA) (vh ad)) (ret (.int 0)) fEq) (jn (WB 7 8 (jb (Jx 0 (jb (vD (jb (ret (.str [110, 101, 101, 100, 115])) (jb (ret (.str [97, 98, 111, 118, 101])) (jb (ret (.str [98, 101, 108, 111, 119])) noA)))) noA) (wF ad)) (jb (Jx 0 (jb (vD (jb (jj (jb (ret (.int 0)) (jb (ret (.int 1)) noA))) (jb (jj (jb (Ws (ret (.int 1))) (jb (ret (.int 1)) noA))) (jb (jj (jb (ret (.int 2)) (jb (ret (.int 1)) noA))) noA)))) noA) (wF ad)) noA))) (jn (wp false (jj (jb (var 7) (jb (Jx 0 noA (wY ad)) (jb (ret (.str [97])) (jb (var 8) noA))))) (jB false 6)) kq)) kq)) [.ow C1, .va F, .va OW, .va MV, .va SH, z5, .va B0, z7, z8, z9, .no, .no, .no, .no, .no, .no] = some (.nx [.ow C3, .va F, .va OW, .va MV, .va SH, z5, .va B1, y7, y8, z9, .no, .no, .no, .no, .no, .no]) := by
    by_cases r0 : (r : Int) = 0
    · rw [decide_eq_true r0] at q2
      obtain ⟨w, C3, hC3, hw, e3⟩ := Wp ad hC2 (.lst [.str [110, 101, 101, 100, 115], .str [97, 98, 111, 118, 101], .str [98, 101, 108, 111, 119]]) false [.str [110, 101, 101, 100, 115], .str [97, 98, 111, 118, 101], .str [98, 101, 108, 111, 119]] rfl (by simp) (by simp)
      obtain ⟨v, C4, hC4, hv, e4⟩ := Wp ad hC3 (.lst [.tup [.int 0, .int 1], .tup [.int (-1), .int 1], .tup [.int 2, .int 1]]) false [.tup [.int 0, .int 1], .tup [.int (-1), .int 1], .tup [.int 2, .int 1]] rfl (by simp) (by simp)
      obtain ⟨t, C5, hC5, ht, e5⟩ := z_bad ad hC4
      refine ⟨.tup [w, t, .str [97], v], C5, .va w, .va v, hC5, Wj _, Wj _, ?_, ?_⟩
      · rw [ck_ad]
        have b := List.all_eq_true.mp bad_no t ht
        have hw : ∃ u ∈ [[110, 101, 101, 100, 115], [97, 98, 111, 118, 101], [98, 101, 108, 111, 119]], w = T.str u := by
          simp only [List.mem_cons, List.not_mem_nil, or_false] at hw
          rcases hw with rfl | rfl | rfl
          · exact ⟨_, List.mem_cons_self .., rfl⟩
          · exact ⟨_, List.mem_cons_of_mem _ (List.mem_cons_self ..), rfl⟩
          · exact ⟨_, List.mem_cons_of_mem _ (List.mem_cons_of_mem _ (List.mem_cons_self ..)), rfl⟩
        obtain ⟨u, hu, rfl⟩ := hw
        exact isOk_eq (List.all_eq_true.mp (List.all_eq_true.mp b u hu) v hv)
      · obtain ⟨K, hK⟩ : ∃ K, K = T.int (r : Nat) := ⟨_, rfl⟩
        rw [← hK] at e2 q2
        clear hK hF hOW hMV hSH hw hv ht
        simp [jJ, vb, vc, wU, ve, kJ, wn, kK, vi, jr, vj, js, vg, jH, kL, kM, jL, kN, vk, kO, kP, kQ, kR, vm, vn, kS, kT, vp, vB, kE, vq, kU, kF, vt, kW, kG, kX, kH, jI, kI, kY, kZ, wa, wb, jM, jN, jt, wc, wd, we, ju, vv, jO, jv, wf, wg, jP, jQ, vz, vA, wh, jl, wi, jm, jR, wj, jh, ky, jS, jw, wk, jT, jU, jV, jW, wl, jx, jy, jz, wm, jX, JJ, kz, jY, jZ, fI, Jg, Jd, T.tupl, vK, fMul', Jr, Js, jF, JG, big, Ju, wL, fGt, fGe, fLt, fLe, bo, stO, Sl.priv, Sl.fx, jo, Cl.free, Jy, JC, erO, wV, tyD, tyT, isC, isT, eqT, ku, toD, Ji, wQ, ko, JD, JA, kD, Jh, bls, Jz, JH, tK, JK, JE, kw, pk, Jw, slT, frz, JI, List.lookup, List.replicate, jk, backR, wy, kA, jk_va', jk_no', vU, vP, vV, vW, vX, vY, vZ, vO, Ja, wO, kB, kC, ki, kr, vT, wN, kf, vQ, vR, vS, ky, e2, q2, e3, e4, e5, j7, j8]
    · rw [decide_eq_false r0] at q2
      refine ⟨B0, C2, z7, z8, hC2, j7, j8, k1, ?_⟩
      obtain ⟨K, hK⟩ : ∃ K, K = T.int (r : Nat) := ⟨_, rfl⟩
      rw [← hK] at e2 q2
      clear hK hF hOW hMV hSH
      simp [jJ, vb, vc, wU, ve, kJ, wn, kK, vi, jr, vj, js, vg, jH, kL, kM, jL, kN, vk, kO, kP, kQ, kR, vm, vn, kS, kT, vp, vB, kE, vq, kU, kF, vt, kW, kG, kX, kH, jI, kI, kY, kZ, wa, wb, jM, jN, jt, wc, wd, we, ju, vv, jO, jv, wf, wg, jP, jQ, vz, vA, wh, jl, wi, jm, jR, wj, jh, ky, jS, jw, wk, jT, jU, jV, jW, wl, jx, jy, jz, wm, jX, JJ, kz, jY, jZ, fI, Jg, Jd, T.tupl, vK, fMul', Jr, Js, jF, JG, big, Ju, wL, fGt, fGe, fLt, fLe, bo, stO, Sl.priv, Sl.fx, jo, Cl.free, Jy, JC, erO, wV, tyD, tyT, isC, isT, eqT, ku, toD, Ji, wQ, ko, JD, JA, kD, Jh, bls, Jz, JH, tK, JK, JE, kw, pk, Jw, slT, frz, JI, List.lookup, List.replicate, jk, backR, wy, kA, jk_va', jk_no', vU, vP, vV, vW, vX, vY, vZ, vO, Ja, wO, kB, kC, ki, kr, vT, wN, kf, vQ, vR, vS, e2, q2]
  have ac : ∀ V, jC ad [B1, V] = ok1 (.bl false) := fun V => acc_bad ad kb
  have it : itT SH = some (SH77.map fun t => t) := by rw [hSH, List.map_id']; rfl
  have lc := lc1 (mi := JT (var 4)) (me := jK (jb (var 6) (jb (var 13) noA)) (jC ad)) (ρ := [.ow C3, .va F, .va OW, .va MV, .va SH, z5, .va B1, y7, y8, z9, .no, .no, .no, .no, .no, .no]) (j := 13) SH77 (fun t => t) (fun _ => .bl false) (by simp) (row_va (by simp [wU]) it) (by decide +kernel) (by
    intro t ht
    have a := ac t
    clear hF hOW hMV hSH ac it s1
    exact ⟨.va, by simp [jJ, vb, vc, wU, ve, kJ, wn, kK, vi, jr, vj, js, vg, jH, kL, kM, jL, kN, vk, kO, kP, kQ, kR, vm, vn, kS, kT, vp, vB, kE, vq, kU, kF, vt, kW, kG, kX, kH, jI, kI, kY, kZ, wa, wb, jM, jN, jt, wc, wd, we, ju, vv, jO, jv, wf, wg, jP, jQ, vz, vA, wh, jl, wi, jm, jR, wj, jh, ky, jS, jw, wk, jT, jU, jV, jW, wl, jx, jy, jz, wm, jX, JJ, kz, jY, jZ, fI, Jg, Jd, T.tupl, vK, fMul', Jr, Js, jF, JG, big, Ju, wL, fGt, fGe, fLt, fLe, bo, stO, Sl.priv, Sl.fx, jo, Cl.free, Jy, JC, erO, wV, tyD, tyT, isC, isT, eqT, ku, toD, Ji, wQ, ko, JD, JA, kD, Jh, bls, Jz, JH, tK, JK, JE, kw, pk, Jw, slT, frz, JI, List.lookup, List.replicate, jk, backR, wy, kA, jk_va', jk_no', vU, vP, vV, vW, vX, vY, vZ, vO, Ja, wO, kB, kC, ki, kr, vT, wN, kf, vQ, vR, vS, a], rfl⟩)
  have l9 : SH77.map (fun _ => T.bl false) = [.bl false, .bl false, .bl false, .bl false, .bl false, .bl false, .bl false, .bl false, .bl false] := rfl
  rw [l9] at lc
  have rp : Kx [.lst [.bl false, .bl false, .bl false, .bl false, .bl false, .bl false, .bl false, .bl false, .bl false, .bl false]] = some (.str (PyData.shown (.list [.bool false, .bool false, .bool false, .bool false, .bool false, .bool false, .bool false, .bool false, .bool false, .bool false])).cps.toList, false) := by
    have e : toD (.lst [.bl false, .bl false, .bl false, .bl false, .bl false, .bl false, .bl false, .bl false, .bl false, .bl false]) = some (.list [.bool false, .bool false, .bool false, .bool false, .bool false, .bool false, .bool false, .bool false, .bool false, .bool false]) := rfl
    simp only [Kx, e]
    rw [if_pos ⟨rfl, by decide, by decide +kernel⟩]
  have rm : vK (.lst [.bl false]) (.int 10) = some (.lst [.bl false, .bl false, .bl false, .bl false, .bl false, .bl false, .bl false, .bl false, .bl false, .bl false], true) := rfl
  obtain ⟨RS, hRS⟩ : ∃ l, l = (PyData.shown (.list [.bool false, .bool false, .bool false, .bool false, .bool false, .bool false, .bool false, .bool false, .bool false, .bool false])).cps.toList := ⟨_, rfl⟩
  rw [← hRS] at rp
  have aw := ac OW
  refine ⟨C3, .va B1, y7, y8, .va (.lst [.bl false, .bl false, .bl false, .bl false, .bl false, .bl false, .bl false, .bl false, .bl false, .bl false]), hC3, Wj _, j7', j8', Wj _, ?_⟩
  clear hF hOW hMV hSH hRS l9 it ac
  refine (nxt (ρ1 := [.ow C1, .va F, .va OW, .va MV, .va SH, z5, .va B0, z7, z8, z9, .no, .no, .no, .no, .no, .no]) ?_).trans ?_
  · clear lc s1; simp [jJ, vb, vc, wU, ve, kJ, wn, kK, vi, jr, vj, js, vg, jH, kL, kM, jL, kN, vk, kO, kP, kQ, kR, vm, vn, kS, kT, vp, vB, kE, vq, kU, kF, vt, kW, kG, kX, kH, jI, kI, kY, kZ, wa, wb, jM, jN, jt, wc, wd, we, ju, vv, jO, jv, wf, wg, jP, jQ, vz, vA, wh, jl, wi, jm, jR, wj, jh, ky, jS, jw, wk, jT, jU, jV, jW, wl, jx, jy, jz, wm, jX, JJ, kz, jY, jZ, fI, Jg, Jd, T.tupl, vK, fMul', Jr, Js, jF, JG, big, Ju, wL, fGt, fGe, fLt, fLe, bo, stO, Sl.priv, Sl.fx, jo, Cl.free, Jy, JC, erO, wV, tyD, tyT, isC, isT, eqT, ku, toD, Ji, wQ, ko, JD, JA, kD, Jh, bls, Jz, JH, tK, JK, JE, kw, pk, Jw, slT, frz, JI, List.lookup, List.replicate, jk, backR, wy, kA, jk_va', jk_no', vU, vP, vV, vW, vX, vY, vZ, vO, Ja, wO, kB, kC, ki, kr, vT, wN, kf, vQ, vR, vS, e1, j6]
  refine (nxt s1).trans ?_
  refine (nxt (ρ1 := [.ow C3, .va F, .va OW, .va MV, .va SH, z5, .va B1, y7, y8, .va (.lst [.bl false, .bl false, .bl false, .bl false, .bl false, .bl false, .bl false, .bl false, .bl false, .bl false]), .no, .no, .no, .no, .no, .no]) ?_).trans ?_
  · clear s1; simp [jJ, vb, vc, wU, ve, kJ, wn, kK, vi, jr, vj, js, vg, jH, kL, kM, jL, kN, vk, kO, kP, kQ, kR, vm, vn, kS, kT, vp, vB, kE, vq, kU, kF, vt, kW, kG, kX, kH, jI, kI, kY, kZ, wa, wb, jM, jN, jt, wc, wd, we, ju, vv, jO, jv, wf, wg, jP, jQ, vz, vA, wh, jl, wi, jm, jR, wj, jh, ky, jS, jw, wk, jT, jU, jV, jW, wl, jx, jy, jz, wm, jX, JJ, kz, jY, jZ, fI, Jg, Jd, T.tupl, vK, fMul', Jr, Js, jF, JG, big, Ju, wL, fGt, fGe, fLt, fLe, bo, stO, Sl.priv, Sl.fx, jo, Cl.free, Jy, JC, erO, wV, tyD, tyT, isC, isT, eqT, ku, toD, Ji, wQ, ko, JD, JA, kD, Jh, bls, Jz, JH, tK, JK, JE, kw, pk, Jw, slT, frz, JI, List.lookup, List.replicate, jk, backR, wy, kA, jk_va', jk_no', vU, vP, vV, vW, vX, vY, vZ, vO, Ja, wO, kB, kC, ki, kr, vT, wN, kf, vQ, vR, vS, lc, aw, j9]
  refine (nxt (ρ1 := [.ow C3, .va F, .va OW, .va MV, .va SH, z5, .va B1, y7, y8, .va (.lst [.bl false, .bl false, .bl false, .bl false, .bl false, .bl false, .bl false, .bl false, .bl false, .bl false]), .no, .no, .no, .no, .no, .no]) ?_).trans ?_
  · clear s1 lc; simp [jJ, vb, vc, wU, ve, kJ, wn, kK, vi, jr, vj, js, vg, jH, kL, kM, jL, kN, vk, kO, kP, kQ, kR, vm, vn, kS, kT, vp, vB, kE, vq, kU, kF, vt, kW, kG, kX, kH, jI, kI, kY, kZ, wa, wb, jM, jN, jt, wc, wd, we, ju, vv, jO, jv, wf, wg, jP, jQ, vz, vA, wh, jl, wi, jm, jR, wj, jh, ky, jS, jw, wk, jT, jU, jV, jW, wl, jx, jy, jz, wm, jX, JJ, kz, jY, jZ, fI, Jg, Jd, T.tupl, fMul', Jr, Js, jF, JG, big, Ju, wL, fGt, fGe, fLt, fLe, bo, stO, Sl.priv, Sl.fx, jo, Cl.free, Jy, JC, erO, wV, tyD, tyT, isC, isT, eqT, ku, toD, Ji, wQ, ko, JD, JA, kD, Jh, bls, Jz, JH, tK, JK, JE, kw, pk, Jw, slT, frz, JI, List.lookup, List.replicate, jk, backR, wy, kA, jk_va', jk_no', vU, vP, vV, vW, vX, vY, vZ, vO, Ja, wO, kB, kC, ki, kr, vT, wN, kf, vQ, vR, vS, rm, rp]
  rfl
def W60 : T := .tpu (M0 :: List.replicate 60 JW)
def EV77 (r : Nat) : T := .tup ((List.range (r + 3)).map fun k => frQ (Rat.divInt (k : Nat) (r + 2 : Nat)))
def tOf : Option OutF → T
  | some (.ok t _) => t
  | _ => .non
def PT77 (r : Nat) : T := tOf (Jq adX [.int (1 + (r : Int))])
def isTT : Option OutF → Bool
  | some (.ok _ false) => true
  | _ => false
def WJ (r : Nat) : List (T × T) := [(.tup [.str [110, 101, 101, 100, 115], F77, .str [97], .tup [.int 1, .int 2]], JW), (.tup [.str [97, 98, 111, 118, 101], F77, .str [97], .tup [.int (-1), .int 2]], JW), (.tup [.str [98, 101, 108, 111, 119], F77, .str [97], .tup [.int 3, .int 1]], JW), (.tup [.str [119, 105, 116, 104, 105, 110], F77, .str [97], .int 1, .tup [.int 1, .int 2]], Ky), (.tup [.str [115, 97, 102, 101], F77, .str [97], .tup [.int 3, .int 4], .tup [.int 1, .int 2], .str [98]], JW), (.tup [.str [119, 105, 116, 104, 105, 110], F77, .str [97], .int 60, .tup [.int 1, .int 2]], W60), (.tup [.str [110, 101, 101, 100, 115], (PT77 r), .str [98], (frQ (Rat.divInt 1 (r + 2 : Nat)))], (EV77 r)), (.tup [.str [110, 101, 101, 100, 115], .tup [.tup [.str [113], .tup [.int 1, .int 2]]], .str [113], .tup [.int 1, .int 2]], .tup [.tup [.int 1, .int 2]])]
theorem path_ok : (List.range 8).all (fun r => isTT (Jq adX [.int (1 + (r : Int))])) = true := by decide +kernel
theorem g0 : Wz true (jC adX [.tup [.str [110, 101, 101, 100, 115], F77, .str [97], .tup [.int 1, .int 2]], JW]) = true := by decide +kernel
theorem g1 : Wz true (jC adX [.tup [.str [97, 98, 111, 118, 101], F77, .str [97], .tup [.int (-1), .int 2]], JW]) = true := by decide +kernel
theorem g2 : Wz true (jC adX [.tup [.str [98, 101, 108, 111, 119], F77, .str [97], .tup [.int 3, .int 1]], JW]) = true := by decide +kernel
theorem g3 : Wz true (jC adX [.tup [.str [119, 105, 116, 104, 105, 110], F77, .str [97], .int 1, .tup [.int 1, .int 2]], Ky]) = true := by decide +kernel
theorem g4 : Wz true (jC adX [.tup [.str [115, 97, 102, 101], F77, .str [97], .tup [.int 3, .int 4], .tup [.int 1, .int 2], .str [98]], JW]) = true := by decide +kernel
theorem g5 : Wz true (jC adX [.tup [.str [119, 105, 116, 104, 105, 110], F77, .str [97], .int 60, .tup [.int 1, .int 2]], W60]) = true := by decide +kernel
theorem g7 : Wz true (jC adX [.tup [.str [110, 101, 101, 100, 115], .tup [.tup [.str [113], .tup [.int 1, .int 2]]], .str [113], .tup [.int 1, .int 2]], .tup [.tup [.int 1, .int 2]]]) = true := by decide +kernel
theorem g6 : (List.range 8).all (fun r => Wz true (jC adX [.tup [.str [110, 101, 101, 100, 115], (PT77 r), .str [98], (frQ (Rat.divInt 1 (r + 2 : Nat)))], (EV77 r)])) = true := by decide +kernel
theorem good_ok {r : Nat} (hr : r < 8) : ∀ x ∈ WJ r, Wz true (jC adX [x.1, x.2]) = true := by
  have g := List.all_eq_true.mp g6 r (List.mem_range.mpr hr)
  intro x hx
  simp only [WJ, List.mem_cons, List.not_mem_nil, or_false] at hx
  rcases hx with rfl | rfl | rfl | rfl | rfl | rfl | rfl | rfl
  · exact g0
  · exact g1
  · exact g2
  · exact g3
  · exact g4
  · exact g5
  · exact g
  · exact g7
theorem pt77 (o : Option OutF) (h : isTT o = true) : o = ok1 (tOf o) := by
  match o, h with
  | some (.ok t false), _ => rfl
theorem z_path {r : Nat} (hr : r < 8) : Jq ad [.int (1 + (r : Int))] = ok1 (PT77 r) := by
  have h := List.all_eq_true.mp path_ok r (List.mem_range.mpr hr)
  rw [path_ad]
  unfold PT77
  exact pt77 _ h
theorem w60 (ρ : Sls) (h : ρ[3]? = some (.va Ky)) : op2 (Wy (var 3) none (some (ret (.int 1)))) (op2 (Wy (var 3) (some (ret (.int 1))) none) (ret (.int 60)) fMulU) kg ρ = some (.ok W60 .va ρ) := by
  have e1 : Jw none (some 1) Ky = some (.tpu [M0], false) := rfl
  have e2 : Jw (some 1) none Ky = some (.tpu [JW], false) := rfl
  have e3 : fMulU (.tpu [JW]) (.int 60) = some (.tpu (List.replicate 60 JW), false) := rfl
  have e4 : kg (.tpu [M0]) (.tpu (List.replicate 60 JW)) = some (W60, false) := rfl
  obtain ⟨X1, h1⟩ : ∃ X, X = T.tpu [M0] := ⟨_, rfl⟩
  obtain ⟨X2, h2⟩ : ∃ X, X = T.tpu [JW] := ⟨_, rfl⟩
  obtain ⟨X3, h3⟩ : ∃ X, X = T.tpu (List.replicate 60 JW) := ⟨_, rfl⟩
  obtain ⟨X4, h4⟩ : ∃ X, X = Ky := ⟨_, rfl⟩
  obtain ⟨X5, h5⟩ : ∃ X, X = W60 := ⟨_, rfl⟩
  rw [← h1] at e1 e4
  rw [← h2] at e2 e3
  rw [← h3] at e3 e4
  rw [← h4] at e1 e2 h
  rw [← h5] at e4 ⊢
  clear h1 h2 h3 h4 h5
  simp [kz, vb, JJ, wU, vc, ve, h, Jd, e1, e2, e3, e4, Jg, Jr]
theorem rep_map (b : Bool) : Kx [.lst (List.replicate 8 (.bl b))] = some (.str (PyData.shown (.list (List.replicate 8 (.bool b)))).cps.toList, false) := by
  have e : toD (.lst (List.replicate 8 (.bl b))) = some (.list (List.replicate 8 (.bool b))) := rfl
  simp only [Kx, e]
  rw [if_pos ⟨by cases b <;> decide, by cases b <;> decide, by cases b <;> decide +kernel⟩]
theorem defC116 (b : MS) (C : T) : KY 1 16 b C [] = Ju (b [.ow C, .no, .no, .no, .no, .no, .no, .no, .no, .no, .no, .no, .no, .no, .no, .no]) := rfl
theorem right77 (C : T) (hC : Cup C) : ∃ C', m__law_right ad C [] = some ((.bl true, false), C') := by
  obtain ⟨ρ', w, C2, z5, z6, z7, z8, z9, hC2, rfl, j5, j6, j7, j8, j9⟩ := for_keep (g := jB false 5) (body := (jn (wp false (Jx 0 (jb (var 1) noA) (Jo ad)) (jB false 6)) (jn (ifS (op2 (Jx 0 (jb (ret (.int 2)) noA) (vh ad)) (ret (.int 0)) fEq) (jn (WB 7 8 (jb (Jx 0 (jb (vD (jb (ret (.str [110, 101, 101, 100, 115])) (jb (ret (.str [97, 98, 111, 118, 101])) (jb (ret (.str [98, 101, 108, 111, 119])) noA)))) noA) (wF ad)) (jb (Jx 0 (jb (vD (jb (jj (jb (ret (.int 0)) (jb (ret (.int 1)) noA))) (jb (jj (jb (Ws (ret (.int 1))) (jb (ret (.int 1)) noA))) (jb (jj (jb (ret (.int 2)) (jb (ret (.int 1)) noA))) noA)))) noA) (wF ad)) noA))) (jn (wp false (jj (jb (var 7) (jb (Jx 0 noA (wY ad)) (jb (ret (.str [97])) (jb (var 8) noA))))) (jB false 6)) kq)) kq) (jn (wp false (op2 (lcM (JT (var 4)) (jB false 13) (fun ρ => some (.ok (.bl true) .va ρ)) (jK (jb (var 6) (jb (var 13) noA)) (jC ad)) [13]) (vD (jb (callK [1, 0] (jb (var 2) (jb (var 6) noA)) (jC ad)) noA)) kg) (jB false 9)) (jn (ifS (op2 (km (jb (var 9) noA) Kx) (km (jb (op2 (vD (jb (ret (.bl false)) noA)) (ret (.int 10)) vK) noA) Kx) fNe) (jn (vL (ret (.bl false))) kq) kq) kq))))) (fun t : T => t) (fun ρ => ∃ C' y5 y6 y7 y8 y9, Cup C' ∧ ρ = [.ow C', .va F77, .va JW, .va Ky, .va (.lst SH77), y5, y6, y7, y8, y9, .no, .no, .no, .no, .no, .no] ∧ Jk y5 ∧ Jk y6 ∧ Jk y7 ∧ Jk y8 ∧ Jk y9) (rgs 0 24) (by
    rintro t _ _ ⟨C3, z5, z6, z7, z8, z9, hC3, rfl, j5, j6, j7, j8, j9⟩
    obtain ⟨C4, y6, y7, y8, y9, hC4, k6, k7, k8, k9, w⟩ := turn77 ad hC3 (.va t) z6 z7 z8 z9 j6 j7 j8 j9
    exact ⟨_, _, setG_j j5 rfl, w, _, _, _, _, _, _, hC4, rfl, Wj _, k6, k7, k8, k9⟩) [.ow C, .va F77, .va JW, .va Ky, .va (.lst SH77), .no, .no, .no, .no, .no, .no, .no, .no, .no, .no, .no] ⟨_, _, _, _, _, _, hC, rfl, KT, KT, KT, KT, KT⟩
  rw [show (rgs 0 24).map (fun t : T => t) = rgs 0 24 from List.map_id' _] at w
  have w := (for_ok (g := jB false 5) (b := (jn (wp false (Jx 0 (jb (var 1) noA) (Jo ad)) (jB false 6)) (jn (ifS (op2 (Jx 0 (jb (ret (.int 2)) noA) (vh ad)) (ret (.int 0)) fEq) (jn (WB 7 8 (jb (Jx 0 (jb (vD (jb (ret (.str [110, 101, 101, 100, 115])) (jb (ret (.str [97, 98, 111, 118, 101])) (jb (ret (.str [98, 101, 108, 111, 119])) noA)))) noA) (wF ad)) (jb (Jx 0 (jb (vD (jb (jj (jb (ret (.int 0)) (jb (ret (.int 1)) noA))) (jb (jj (jb (Ws (ret (.int 1))) (jb (ret (.int 1)) noA))) (jb (jj (jb (ret (.int 2)) (jb (ret (.int 1)) noA))) noA)))) noA) (wF ad)) noA))) (jn (wp false (jj (jb (var 7) (jb (Jx 0 noA (wY ad)) (jb (ret (.str [97])) (jb (var 8) noA))))) (jB false 6)) kq)) kq) (jn (wp false (op2 (lcM (JT (var 4)) (jB false 13) (fun ρ => some (.ok (.bl true) .va ρ)) (jK (jb (var 6) (jb (var 13) noA)) (jC ad)) [13]) (vD (jb (callK [1, 0] (jb (var 2) (jb (var 6) noA)) (jC ad)) noA)) kg) (jB false 9)) (jn (ifS (op2 (km (jb (var 9) noA) Kx) (km (jb (op2 (vD (jb (ret (.bl false)) noA)) (ret (.int 10)) vK) noA) Kx) fNe) (jn (vL (ret (.bl false))) kq) kq) kq))))) (rngI_eq (n := 24) (c := .va) (mA := jb (ret (.int 24)) noA) (ρ := [.ow C, .va F77, .va JW, .va Ky, .va (.lst SH77), .no, .no, .no, .no, .no, .no, .no, .no, .no, .no, .no]) (by simp [jH, vb, vc, vg, jJ, Jd]) (by decide))).trans w
  obtain ⟨r, C3, hC3, hr, e1⟩ := z_dip ad hC2 8 (by decide) (by decide)
  have hr : r < 8 := by omega
  have pa := z_path ad hr
  have good := good_ok hr
  have acc : ∀ x ∈ WJ r, jC ad [x.1, x.2] = ok1 (.bl true) := fun x hx => by
    rw [acc_ad]
    exact isOk_eq (good x hx)
  have lw : ∀ k : Nat, vI ad [.int (k : Nat), .int (1 + (r : Int) + 1)] = ok1 (frQ (Rat.divInt (k : Nat) (r + 2 : Nat))) := by
    intro k
    have := z_low1 ad (k : Nat) (1 + (r : Int) + 1) (by omega) (by omega)
    rw [show (1 + (r : Int) + 1) = ((r + 2 : Nat) : Int) by omega] at this ⊢
    exact this
  have lw1 : vI ad [.int 1, .int (1 + (r : Int) + 1)] = ok1 (frQ (Rat.divInt 1 (r + 2 : Nat))) := lw 1
  have n2 := ki (1 + (r : Int)) 2
  have n1 := ki (1 + (r : Int)) 1
  have n0 := ki 1 (r : Int)
  have n3 : T.int ((r + 3 : Nat) : Int) = .int (1 + (r : Int) + 2) := by rw [show ((r + 3 : Nat) : Int) = 1 + (r : Int) + 2 by omega]
  obtain ⟨N2, hN2⟩ : ∃ X, X = T.int (1 + (r : Int) + 2) := ⟨_, rfl⟩
  rw [← hN2] at n2 n3
  clear hN2
  obtain ⟨GT, hGT⟩ : ∃ l, l = WJ r := ⟨_, rfl⟩
  have w6 : ∀ ρ : Sls, ρ[3]? = some (.va Ky) → _ := fun ρ h => w60 ρ h
  have st := right_r0 C
  obtain ⟨F, hF⟩ : ∃ X, X = F77 := ⟨_, rfl⟩
  obtain ⟨OW, hOW⟩ : ∃ X, X = JW := ⟨_, rfl⟩
  obtain ⟨MV, hMV⟩ : ∃ X, X = Ky := ⟨_, rfl⟩
  obtain ⟨SH, hSH⟩ : ∃ X, X = T.lst SH77 := ⟨_, rfl⟩
  obtain ⟨W6, hW6⟩ : ∃ X, X = W60 := ⟨_, rfl⟩
  obtain ⟨PT, hPT⟩ : ∃ X, X = PT77 r := ⟨_, rfl⟩
  obtain ⟨EV, hEV⟩ : ∃ X, X = EV77 r := ⟨_, rfl⟩
  obtain ⟨F1, hF1⟩ : ∃ X, X = frQ (Rat.divInt 1 (r + 2 : Nat)) := ⟨_, rfl⟩
  have gl : WJ r = [(.tup [.str [110, 101, 101, 100, 115], F, .str [97], .tup [.int 1, .int 2]], OW), (.tup [.str [97, 98, 111, 118, 101], F, .str [97], .tup [.int (-1), .int 2]], OW), (.tup [.str [98, 101, 108, 111, 119], F, .str [97], .tup [.int 3, .int 1]], OW), (.tup [.str [119, 105, 116, 104, 105, 110], F, .str [97], .int 1, .tup [.int 1, .int 2]], MV), (.tup [.str [115, 97, 102, 101], F, .str [97], .tup [.int 3, .int 4], .tup [.int 1, .int 2], .str [98]], OW), (.tup [.str [119, 105, 116, 104, 105, 110], F, .str [97], .int 60, .tup [.int 1, .int 2]], W6), (.tup [.str [110, 101, 101, 100, 115], PT, .str [98], F1], EV), (.tup [.str [110, 101, 101, 100, 115], .tup [.tup [.str [113], .tup [.int 1, .int 2]]], .str [113], .tup [.int 1, .int 2]], .tup [.tup [.int 1, .int 2]])] := by rw [hF, hOW, hMV, hW6, hPT, hEV, hF1]; rfl
  rw [← hF, ← hOW, ← hMV, ← hSH] at w st
  rw [← hPT] at pa
  rw [← hF1] at lw1
  rw [← hMV, ← hW6] at w6
  obtain ⟨N, hN⟩ : ∃ X, X = T.int (1 + (r : Int)) := ⟨_, rfl⟩
  obtain ⟨N1, hN1⟩ : ∃ X, X = T.int (1 + (r : Int) + 1) := ⟨_, rfl⟩
  obtain ⟨KR, hKR⟩ : ∃ X, X = T.int (r : Nat) := ⟨_, rfl⟩
  rw [← hN] at n0 n1 n2 pa
  rw [← hN1] at n1 lw lw1
  rw [← hKR] at e1 n0
  have lc := lc1 (mi := Wm (jb (op2 (var 10) (ret (.int 2)) kg) noA)) (me := jK (jb (var 14) (jb (op2 (var 10) (ret (.int 1)) kg) noA)) (vI ad)) (ρ := [.ow C3, .va F, .va OW, .va MV, .va SH, z5, z6, z7, z8, z9, .va N, .no, .no, .no, .no, .no]) (j := 14) (List.range (r + 3)) (fun k => .int (k : Nat)) (fun k => frQ (Rat.divInt (k : Nat) (r + 2 : Nat))) (by simp) (by
    have e : (List.range (r + 3)).map (fun k => T.int ((k : Nat) : Int)) = rgs 0 (r + 3) := by simp [rgs]
    rw [e]
    refine rngI_eq (n := r + 3) (c := .va) ?_ (by omega)
    rw [n3]
    clear hN hN1 hKR hF hOW hMV hSH hW6 hPT hEV hF1 gl acc good w st
    simp [jJ, vb, vc, wU, ve, kJ, wn, kK, vi, jr, vj, js, vg, jH, kL, kM, jL, kN, vk, kO, kP, kQ, kR, vm, vn, kS, kT, vp, vB, kE, vq, kU, kF, vt, kW, kG, kX, kH, jI, kI, kY, kZ, wa, wb, jM, jN, jt, wc, wd, we, ju, vv, jO, jv, wf, wg, jP, jQ, vz, vA, wh, jl, wi, jm, jR, wj, jh, ky, jS, jw, wk, jT, jU, jV, jW, wl, jx, jy, jz, wm, jX, JJ, kz, jY, jZ, fI, Jg, Jd, T.tupl, vK, fMul', Jr, Js, jF, JG, big, Ju, wL, fGt, fGe, fLt, fLe, bo, stO, Sl.priv, Sl.fx, jo, Cl.free, Jy, JC, erO, wV, tyD, tyT, isC, isT, eqT, ku, toD, Ji, wQ, ko, JD, JA, kD, Jh, bls, Jz, JH, tK, JK, JE, kw, pk, Jw, slT, frz, JI, List.lookup, List.replicate, jk, backR, wy, kA, jk_va', jk_no', vU, vP, vV, vW, vX, vY, vZ, vO, Ja, wO, kB, kC, ki, kr, vT, wN, kf, vQ, vR, vS, n2]) (by simp; omega) (by
    intro k hk
    have l := lw k
    obtain ⟨FK, hFK⟩ : ∃ X, X = frQ (Rat.divInt (k : Nat) (r + 2 : Nat)) := ⟨_, rfl⟩
    obtain ⟨K, hK⟩ : ∃ X, X = T.int (k : Nat) := ⟨_, rfl⟩
    rw [← hFK, ← hK] at l
    rw [← hFK, ← hK]
    clear hFK hK hN hN1 hKR hF hOW hMV hSH hW6 hPT hEV hF1 gl acc good w st lw hk
    exact ⟨.va, by simp [jJ, vb, vc, wU, ve, kJ, wn, kK, vi, jr, vj, js, vg, jH, kL, kM, jL, kN, vk, kO, kP, kQ, kR, vm, vn, kS, kT, vp, vB, kE, vq, kU, kF, vt, kW, kG, kX, kH, jI, kI, kY, kZ, wa, wb, jM, jN, jt, wc, wd, we, ju, vv, jO, jv, wf, wg, jP, jQ, vz, vA, wh, jl, wi, jm, jR, wj, jh, ky, jS, jw, wk, jT, jU, jV, jW, wl, jx, jy, jz, wm, jX, JJ, kz, jY, jZ, fI, Jg, Jd, T.tupl, vK, fMul', Jr, Js, jF, JG, big, Ju, wL, fGt, fGe, fLt, fLe, bo, stO, Sl.priv, Sl.fx, jo, Cl.free, Jy, JC, erO, wV, tyD, tyT, isC, isT, eqT, ku, toD, Ji, wQ, ko, JD, JA, kD, Jh, bls, Jz, JH, tK, JK, JE, kw, pk, Jw, slT, frz, JI, List.lookup, List.replicate, jk, backR, wy, kA, jk_va', jk_no', vU, vP, vV, vW, vX, vY, vZ, vO, Ja, wO, kB, kC, ki, kr, vT, wN, kf, vQ, vR, vS, n1, l], rfl⟩)
  have ft : Jf [.lst ((List.range (r + 3)).map fun k => frQ (Rat.divInt (k : Nat) (r + 2 : Nat)))] = some (EV, false) := by rw [hEV]; rfl
  obtain ⟨LE, hLE⟩ : ∃ X, X = T.lst ((List.range (r + 3)).map fun k => frQ (Rat.divInt (k : Nat) (r + 2 : Nat))) := ⟨_, rfl⟩
  rw [← hLE] at lc ft
  obtain ⟨P1, hP1⟩ : ∃ X, X = T.tup [.tup [.str [110, 101, 101, 100, 115], F, .str [97], .tup [.int 1, .int 2]], OW] := ⟨_, rfl⟩
  obtain ⟨P2, hP2⟩ : ∃ X, X = T.tup [.tup [.str [97, 98, 111, 118, 101], F, .str [97], .tup [.int (-1), .int 2]], OW] := ⟨_, rfl⟩
  obtain ⟨P3, hP3⟩ : ∃ X, X = T.tup [.tup [.str [98, 101, 108, 111, 119], F, .str [97], .tup [.int 3, .int 1]], OW] := ⟨_, rfl⟩
  obtain ⟨P4, hP4⟩ : ∃ X, X = T.tup [.tup [.str [119, 105, 116, 104, 105, 110], F, .str [97], .int 1, .tup [.int 1, .int 2]], MV] := ⟨_, rfl⟩
  obtain ⟨P5, hP5⟩ : ∃ X, X = T.tup [.tup [.str [115, 97, 102, 101], F, .str [97], .tup [.int 3, .int 4], .tup [.int 1, .int 2], .str [98]], OW] := ⟨_, rfl⟩
  obtain ⟨P6, hP6⟩ : ∃ X, X = T.tup [.tup [.str [119, 105, 116, 104, 105, 110], F, .str [97], .int 60, .tup [.int 1, .int 2]], W6] := ⟨_, rfl⟩
  obtain ⟨P7, hP7⟩ : ∃ X, X = T.tup [.tup [.str [110, 101, 101, 100, 115], PT, .str [98], F1], EV] := ⟨_, rfl⟩
  obtain ⟨P8, hP8⟩ : ∃ X, X = T.tup [.tup [.str [110, 101, 101, 100, 115], .tup [.tup [.str [113], .tup [.int 1, .int 2]]], .str [113], .tup [.int 1, .int 2]], .tup [.tup [.int 1, .int 2]]] := ⟨_, rfl⟩
  have it : itT (.lst [P1, P2, P3, P4, P5, P6, P7, P8]) = some ((WJ r).map fun x => .tup [x.1, x.2]) := by
    rw [gl, hP1, hP2, hP3, hP4, hP5, hP6, hP7, hP8]; rfl
  have wq := w6 [.ow C3, .va F, .va OW, .va MV, .va SH, z5, z6, z7, z8, z9, .va N, .va EV, .va (.lst [P1, P2, P3, P4, P5]), .no, .no, .no] rfl
  have lq := lp (mi := JT (var 12)) (me := jK (jb (var 15) (jb (var 13) noA)) (jC ad)) (ρ := [.ow C3, .va F, .va OW, .va MV, .va SH, z5, z6, z7, z8, z9, .va N, .va EV, .va (.lst [P1, P2, P3, P4, P5, P6, P7, P8]), .no, .no, .no]) (i := 15) (j := 13) (WJ r) (fun x => x.1) (fun x => x.2) (fun _ => .bl true) (by simp) (by simp) (by decide) (row_va (by simp [wU]) it) (by rw [gl]; simp) (by
    intro x hx
    have a := acc x hx
    clear hN hN1 hKR hF hOW hMV hSH hW6 hPT hEV hF1 gl acc good w st lc it wq hP1 hP2 hP3 hP4 hP5 hP6 hP7 hP8
    obtain ⟨x1, x2⟩ := x
    exact ⟨.va, by simp [jJ, vb, vc, wU, ve, kJ, wn, kK, vi, jr, vj, js, vg, jH, kL, kM, jL, kN, vk, kO, kP, kQ, kR, vm, vn, kS, kT, vp, vB, kE, vq, kU, kF, vt, kW, kG, kX, kH, jI, kI, kY, kZ, wa, wb, jM, jN, jt, wc, wd, we, ju, vv, jO, jv, wf, wg, jP, jQ, vz, vA, wh, jl, wi, jm, jR, wj, jh, ky, jS, jw, wk, jT, jU, jV, jW, wl, jx, jy, jz, wm, jX, JJ, kz, jY, jZ, fI, Jg, Jd, T.tupl, vK, fMul', Jr, Js, jF, JG, big, Ju, wL, fGt, fGe, fLt, fLe, bo, stO, Sl.priv, Sl.fx, jo, Cl.free, Jy, JC, erO, wV, tyD, tyT, isC, isT, eqT, ku, toD, Ji, wQ, ko, JD, JA, kD, Jh, bls, Jz, JH, tK, JK, JE, kw, pk, Jw, slT, frz, JI, List.lookup, List.replicate, jk, backR, wy, kA, jk_va', jk_no', vU, vP, vV, vW, vX, vY, vZ, vO, Ja, wO, kB, kC, ki, kr, vT, wN, kf, vQ, vR, vS, a], rfl⟩)
  have l8 : (WJ r).map (fun _ => T.bl true) = List.replicate 8 (.bl true) := by rw [gl]; rfl
  rw [l8] at lq
  have rp := rep_map true
  have rm : vK (.lst [.bl true]) (.int 8) = some (.lst (List.replicate 8 (.bl true)), true) := rfl
  obtain ⟨RS, hRS⟩ : ∃ l, l = (PyData.shown (.list (List.replicate 8 (.bool true)))).cps.toList := ⟨_, rfl⟩
  rw [← hRS] at rp
  obtain ⟨LB, hLB⟩ : ∃ l, l = T.lst (List.replicate 8 (.bl true)) := ⟨_, rfl⟩
  rw [← hLB] at lq rp rm
  have hP1 := hP1.symm
  have hP2 := hP2.symm
  have hP3 := hP3.symm
  have hP4 := hP4.symm
  have hP5 := hP5.symm
  have hP6 := hP6.symm
  have hP7 := hP7.symm
  have hP8 := hP8.symm
  clear hN hN1 hKR hF hOW hMV hSH hW6 hPT hEV hF1 gl acc good hRS hLB l8 it lw w6 hLE hGT hC hC2
  refine ⟨C3, ?_⟩
  have e : b_m__law_right ad [.ow C, .no, .no, .no, .no, .no, .no, .no, .no, .no, .no, .no, .no, .no, .no, .no] = some (.rt (.bl true) false [.ow C3, .va F, .va OW, .va MV, .va SH, z5, z6, z7, z8, z9, .va N, .va EV, .va (.lst [P1, P2, P3, P4, P5, P6, P7, P8]), .no, .no, .no]) := by
    unfold b_m__law_right
    refine (st _).trans ?_
    refine (nxt w).trans ?_
    clear st w
    refine (nxt (ρ1 := [.ow C3, .va F, .va OW, .va MV, .va SH, z5, z6, z7, z8, z9, .va N, .no, .no, .no, .no, .no]) ?_).trans ?_
    · clear lc lq wq; simp [jJ, vb, vc, wU, ve, kJ, wn, kK, vi, jr, vj, js, vg, jH, kL, kM, jL, kN, vk, kO, kP, kQ, kR, vm, vn, kS, kT, vp, vB, kE, vq, kU, kF, vt, kW, kG, kX, kH, jI, kI, kY, kZ, wa, wb, jM, jN, jt, wc, wd, we, ju, vv, jO, jv, wf, wg, jP, jQ, vz, vA, wh, jl, wi, jm, jR, wj, jh, ky, jS, jw, wk, jT, jU, jV, jW, wl, jx, jy, jz, wm, jX, JJ, kz, jY, jZ, fI, Jg, Jd, T.tupl, vK, fMul', Jr, Js, jF, JG, big, Ju, wL, fGt, fGe, fLt, fLe, bo, stO, Sl.priv, Sl.fx, jo, Cl.free, Jy, JC, erO, wV, tyD, tyT, isC, isT, eqT, ku, toD, Ji, wQ, ko, JD, JA, kD, Jh, bls, Jz, JH, tK, JK, JE, kw, pk, Jw, slT, frz, JI, List.lookup, List.replicate, jk, backR, wy, kA, jk_va', jk_no', vU, vP, vV, vW, vX, vY, vZ, vO, Ja, wO, kB, kC, ki, kr, vT, wN, kf, vQ, vR, vS, e1, n0]
    refine (nxt (ρ1 := [.ow C3, .va F, .va OW, .va MV, .va SH, z5, z6, z7, z8, z9, .va N, .va EV, .no, .no, .no, .no]) ?_).trans ?_
    · clear lq wq; simp [jJ, vb, vc, wU, ve, kJ, wn, kK, vi, jr, vj, js, vg, jH, kL, kM, jL, kN, vk, kO, kP, kQ, kR, vm, vn, kS, kT, vp, vB, kE, vq, kU, kF, vt, kW, kG, kX, kH, jI, kI, kY, kZ, wa, wb, jM, jN, jt, wc, wd, we, ju, vv, jO, jv, wf, wg, jP, jQ, vz, vA, wh, jl, wi, jm, jR, wj, jh, ky, jS, jw, wk, jT, jU, jV, jW, wl, jx, jy, jz, wm, jX, JJ, kz, jY, jZ, fI, Jg, Jd, T.tupl, vK, fMul', Jr, Js, jF, JG, big, Ju, wL, fGt, fGe, fLt, fLe, bo, stO, Sl.priv, Sl.fx, jo, Cl.free, Jy, JC, erO, wV, tyD, tyT, isC, isT, eqT, ku, toD, Ji, wQ, ko, JD, JA, kD, Jh, bls, Jz, JH, tK, JK, JE, kw, pk, Jw, slT, frz, JI, List.lookup, List.replicate, jk, backR, wy, kA, jk_va', jk_no', vU, vP, vV, vW, vX, vY, vZ, vO, Ja, wO, kB, kC, ki, kr, vT, wN, kf, vQ, vR, vS, lc, ft]
    refine (nxt (ρ1 := [.ow C3, .va F, .va OW, .va MV, .va SH, z5, z6, z7, z8, z9, .va N, .va EV, .va (.lst [P1, P2]), .no, .no, .no]) ?_).trans ?_
    · clear lc lq wq; simp [jJ, vb, vc, wU, ve, kJ, wn, kK, vi, jr, vj, js, vg, jH, kL, kM, jL, kN, vk, kO, kP, kQ, kR, vm, vn, kS, kT, vp, vB, kE, vq, kU, kF, vt, kW, kG, kX, kH, jI, kI, kY, kZ, wa, wb, jM, jN, jt, wc, wd, we, ju, vv, jO, jv, wf, wg, jP, jQ, vz, vA, wh, jl, wi, jm, jR, wj, jh, ky, jS, jw, wk, jT, jU, jV, jW, wl, jx, jy, jz, wm, jX, JJ, kz, jY, jZ, fI, Jg, Jd, T.tupl, vK, fMul', Jr, Js, jF, JG, big, Ju, wL, fGt, fGe, fLt, fLe, bo, stO, Sl.priv, Sl.fx, jo, Cl.free, Jy, JC, erO, wV, tyD, tyT, isC, isT, eqT, ku, toD, Ji, wQ, ko, JD, JA, kD, Jh, bls, Jz, JH, tK, JK, JE, kw, pk, Jw, slT, frz, JI, List.lookup, List.replicate, jk, backR, wy, kA, jk_va', jk_no', vU, vP, vV, vW, vX, vY, vZ, vO, Ja, wO, kB, kC, ki, kr, vT, wN, kf, vQ, vR, vS, hP1, hP2]
    refine (nxt (ρ1 := [.ow C3, .va F, .va OW, .va MV, .va SH, z5, z6, z7, z8, z9, .va N, .va EV, .va (.lst [P1, P2, P3]), .no, .no, .no]) ?_).trans ?_
    · clear lc lq wq; simp [jJ, vb, vc, wU, ve, kJ, wn, kK, vi, jr, vj, js, vg, jH, kL, kM, jL, kN, vk, kO, kP, kQ, kR, vm, vn, kS, kT, vp, vB, kE, vq, kU, kF, vt, kW, kG, kX, kH, jI, kI, kY, kZ, wa, wb, jM, jN, jt, wc, wd, we, ju, vv, jO, jv, wf, wg, jP, jQ, vz, vA, wh, jl, wi, jm, jR, wj, jh, ky, jS, jw, wk, jT, jU, jV, jW, wl, jx, jy, jz, wm, jX, JJ, kz, jY, jZ, fI, Jg, Jd, T.tupl, vK, fMul', Jr, Js, jF, JG, big, Ju, wL, fGt, fGe, fLt, fLe, bo, stO, Sl.priv, Sl.fx, jo, Cl.free, Jy, JC, erO, wV, tyD, tyT, isC, isT, eqT, ku, toD, Ji, wQ, ko, JD, JA, kD, Jh, bls, Jz, JH, tK, JK, JE, kw, pk, Jw, slT, frz, JI, List.lookup, List.replicate, jk, backR, wy, kA, jk_va', jk_no', vU, vP, vV, vW, vX, vY, vZ, vO, Ja, wO, kB, kC, ki, kr, vT, wN, kf, vQ, vR, vS, hP3]
    refine (nxt (ρ1 := [.ow C3, .va F, .va OW, .va MV, .va SH, z5, z6, z7, z8, z9, .va N, .va EV, .va (.lst [P1, P2, P3, P4]), .no, .no, .no]) ?_).trans ?_
    · clear lc lq wq; simp [jJ, vb, vc, wU, ve, kJ, wn, kK, vi, jr, vj, js, vg, jH, kL, kM, jL, kN, vk, kO, kP, kQ, kR, vm, vn, kS, kT, vp, vB, kE, vq, kU, kF, vt, kW, kG, kX, kH, jI, kI, kY, kZ, wa, wb, jM, jN, jt, wc, wd, we, ju, vv, jO, jv, wf, wg, jP, jQ, vz, vA, wh, jl, wi, jm, jR, wj, jh, ky, jS, jw, wk, jT, jU, jV, jW, wl, jx, jy, jz, wm, jX, JJ, kz, jY, jZ, fI, Jg, Jd, T.tupl, vK, fMul', Jr, Js, jF, JG, big, Ju, wL, fGt, fGe, fLt, fLe, bo, stO, Sl.priv, Sl.fx, jo, Cl.free, Jy, JC, erO, wV, tyD, tyT, isC, isT, eqT, ku, toD, Ji, wQ, ko, JD, JA, kD, Jh, bls, Jz, JH, tK, JK, JE, kw, pk, Jw, slT, frz, JI, List.lookup, List.replicate, jk, backR, wy, kA, jk_va', jk_no', vU, vP, vV, vW, vX, vY, vZ, vO, Ja, wO, kB, kC, ki, kr, vT, wN, kf, vQ, vR, vS, hP4]
    refine (nxt (ρ1 := [.ow C3, .va F, .va OW, .va MV, .va SH, z5, z6, z7, z8, z9, .va N, .va EV, .va (.lst [P1, P2, P3, P4, P5]), .no, .no, .no]) ?_).trans ?_
    · clear lc lq wq; simp [jJ, vb, vc, wU, ve, kJ, wn, kK, vi, jr, vj, js, vg, jH, kL, kM, jL, kN, vk, kO, kP, kQ, kR, vm, vn, kS, kT, vp, vB, kE, vq, kU, kF, vt, kW, kG, kX, kH, jI, kI, kY, kZ, wa, wb, jM, jN, jt, wc, wd, we, ju, vv, jO, jv, wf, wg, jP, jQ, vz, vA, wh, jl, wi, jm, jR, wj, jh, ky, jS, jw, wk, jT, jU, jV, jW, wl, jx, jy, jz, wm, jX, JJ, kz, jY, jZ, fI, Jg, Jd, T.tupl, vK, fMul', Jr, Js, jF, JG, big, Ju, wL, fGt, fGe, fLt, fLe, bo, stO, Sl.priv, Sl.fx, jo, Cl.free, Jy, JC, erO, wV, tyD, tyT, isC, isT, eqT, ku, toD, Ji, wQ, ko, JD, JA, kD, Jh, bls, Jz, JH, tK, JK, JE, kw, pk, Jw, slT, frz, JI, List.lookup, List.replicate, jk, backR, wy, kA, jk_va', jk_no', vU, vP, vV, vW, vX, vY, vZ, vO, Ja, wO, kB, kC, ki, kr, vT, wN, kf, vQ, vR, vS, hP5]
    obtain ⟨MW, hMW⟩ : ∃ m, m = op2 (Wy (var 3) none (some (ret (.int 1)))) (op2 (Wy (var 3) (some (ret (.int 1))) none) (ret (.int 60)) fMulU) kg := ⟨_, rfl⟩
    rw [← hMW] at wq ⊢
    refine (nxt (ρ1 := [.ow C3, .va F, .va OW, .va MV, .va SH, z5, z6, z7, z8, z9, .va N, .va EV, .va (.lst [P1, P2, P3, P4, P5, P6]), .no, .no, .no]) ?_).trans ?_
    · clear lc lq hMW; simp [jJ, vb, vc, wU, ve, kJ, wn, kK, vi, jr, vj, js, vg, jH, kL, kM, jL, kN, vk, kO, kP, kQ, kR, vm, vn, kS, kT, vp, vB, kE, vq, kU, kF, vt, kW, kG, kX, kH, jI, kI, kY, kZ, wa, wb, jM, jN, jt, wc, wd, we, ju, vv, jO, jv, wf, wg, jP, jQ, vz, vA, wh, jl, wi, jm, jR, wj, jh, ky, jS, jw, wk, jT, jU, jV, jW, wl, jx, jy, jz, wm, jX, JJ, kz, jY, jZ, fI, Jg, Jd, T.tupl, vK, fMul', Jr, Js, jF, JG, big, Ju, wL, fGt, fGe, fLt, fLe, bo, stO, Sl.priv, Sl.fx, jo, Cl.free, Jy, JC, erO, wV, tyD, tyT, isC, isT, eqT, ku, toD, Ji, wQ, ko, JD, JA, kD, Jh, bls, Jz, JH, tK, JK, JE, kw, pk, Jw, slT, frz, JI, List.lookup, List.replicate, jk, backR, wy, kA, jk_va', jk_no', vU, vP, vV, vW, vX, vY, vZ, vO, Ja, wO, kB, kC, ki, kr, vT, wN, kf, vQ, vR, vS, wq, hP6]
    clear hMW wq
    refine (nxt (ρ1 := [.ow C3, .va F, .va OW, .va MV, .va SH, z5, z6, z7, z8, z9, .va N, .va EV, .va (.lst [P1, P2, P3, P4, P5, P6, P7]), .no, .no, .no]) ?_).trans ?_
    · clear lc lq; simp [jJ, vb, vc, wU, ve, kJ, wn, kK, vi, jr, vj, js, vg, jH, kL, kM, jL, kN, vk, kO, kP, kQ, kR, vm, vn, kS, kT, vp, vB, kE, vq, kU, kF, vt, kW, kG, kX, kH, jI, kI, kY, kZ, wa, wb, jM, jN, jt, wc, wd, we, ju, vv, jO, jv, wf, wg, jP, jQ, vz, vA, wh, jl, wi, jm, jR, wj, jh, ky, jS, jw, wk, jT, jU, jV, jW, wl, jx, jy, jz, wm, jX, JJ, kz, jY, jZ, fI, Jg, Jd, T.tupl, vK, fMul', Jr, Js, jF, JG, big, Ju, wL, fGt, fGe, fLt, fLe, bo, stO, Sl.priv, Sl.fx, jo, Cl.free, Jy, JC, erO, wV, tyD, tyT, isC, isT, eqT, ku, toD, Ji, wQ, ko, JD, JA, kD, Jh, bls, Jz, JH, tK, JK, JE, kw, pk, Jw, slT, frz, JI, List.lookup, List.replicate, jk, backR, wy, kA, jk_va', jk_no', vU, vP, vV, vW, vX, vY, vZ, vO, Ja, wO, kB, kC, ki, kr, vT, wN, kf, vQ, vR, vS, pa, n1, lw1, hP7]
    refine (nxt (ρ1 := [.ow C3, .va F, .va OW, .va MV, .va SH, z5, z6, z7, z8, z9, .va N, .va EV, .va (.lst [P1, P2, P3, P4, P5, P6, P7, P8]), .no, .no, .no]) ?_).trans ?_
    · clear lc lq; simp [jJ, vb, vc, wU, ve, kJ, wn, kK, vi, jr, vj, js, vg, jH, kL, kM, jL, kN, vk, kO, kP, kQ, kR, vm, vn, kS, kT, vp, vB, kE, vq, kU, kF, vt, kW, kG, kX, kH, jI, kI, kY, kZ, wa, wb, jM, jN, jt, wc, wd, we, ju, vv, jO, jv, wf, wg, jP, jQ, vz, vA, wh, jl, wi, jm, jR, wj, jh, ky, jS, jw, wk, jT, jU, jV, jW, wl, jx, jy, jz, wm, jX, JJ, kz, jY, jZ, fI, Jg, Jd, T.tupl, vK, fMul', Jr, Js, jF, JG, big, Ju, wL, fGt, fGe, fLt, fLe, bo, stO, Sl.priv, Sl.fx, jo, Cl.free, Jy, JC, erO, wV, tyD, tyT, isC, isT, eqT, ku, toD, Ji, wQ, ko, JD, JA, kD, Jh, bls, Jz, JH, tK, JK, JE, kw, pk, Jw, slT, frz, JI, List.lookup, List.replicate, jk, backR, wy, kA, jk_va', jk_no', vU, vP, vV, vW, vX, vY, vZ, vO, Ja, wO, kB, kC, ki, kr, vT, wN, kf, vQ, vR, vS, hP8]
    clear lc
    simp [jJ, vb, vc, wU, ve, kJ, wn, kK, vi, jr, vj, js, vg, jH, kL, kM, jL, kN, vk, kO, kP, kQ, kR, vm, vn, kS, kT, vp, vB, kE, vq, kU, kF, vt, kW, kG, kX, kH, jI, kI, kY, kZ, wa, wb, jM, jN, jt, wc, wd, we, ju, vv, jO, jv, wf, wg, jP, jQ, vz, vA, wh, jl, wi, jm, jR, wj, jh, ky, jS, jw, wk, jT, jU, jV, jW, wl, jx, jy, jz, wm, jX, JJ, kz, jY, jZ, fI, Jg, Jd, T.tupl, fMul', Jr, Js, jF, JG, big, Ju, wL, fGt, fGe, fLt, fLe, bo, stO, Sl.priv, Sl.fx, jo, Cl.free, Jy, JC, erO, wV, tyD, tyT, isC, isT, eqT, ku, toD, Ji, wQ, ko, JD, JA, kD, Jh, bls, Jz, JH, tK, JK, JE, kw, pk, Jw, slT, frz, List.lookup, List.replicate, jk, backR, wy, kA, jk_va', jk_no', vU, vP, vV, vW, vX, vY, vZ, vO, Ja, wO, kB, kC, ki, kr, vT, wN, kf, vQ, vR, vS, lq, rp, rm, frz, fz_va, fz_no, KQ j5, KQ j6, KQ j7, KQ j8, KQ j9]
  rw [show m__law_right ad = KY 1 16 (b_m__law_right ad) from rfl, defC116, e]
  simp [Ju, wL, stO]
theorem law77 {t : T} {ns : List Int} (ht : Scr t ns) (hl : ns.length ≤ 63) : m_law ad [t] = ok1 (.bl true) := by
  have w := all_urns ad ht hl (m__law_right ad) (right77 ad) 4 (by decide) (by decide)
  have w : ((km (jb (lcM (Wm (jb (km (jb (ret (.int 2)) (jb (km (jb (km (jb (var 0) noA) Kq) (jb (ret (.int 4)) noA)) KW) noA)) KS) noA)) (jB false 1) (fun ρ => some (.ok (.bl true) .va ρ)) (callT (jK (jb (var 0) (jb (var 1) noA)) (m__law_urn ad)) noA (m__law_right ad)) [1]) noA) KJ)) [.va t, .no] = _ := w
  have e : b_m_law ad [.va t, .no] = some (.rt (.bl true) false [.va t, .no]) := by
    unfold b_m_law
    simp only [kF, kG, kE, frz, List.map_cons, List.map_nil, JI]
    rw [w]
  exact law_end (ρ0 := [.va t, .no]) rfl e
theorem math77 : ∀ (ns : List Int), ns.length ≤ 63 → ∀ (t : T), t = T.sq (ns.map T.int) ∨ t = T.lst (ns.map T.int) → m_law ad [t] = some (.ok (.bl true) false) := fun _ hl _ ht => law77 ad ht hl
end Tr
end F_M77
open PySem PySem.W PyProof.Rows
set_option Elab.async false
set_option linter.all false
def PySem.W.Fast.tw4254316935611803733 : Unit := ()
def PySem.W.Fast.tw9157075058359286510 : Unit := ()
def PySem.W.Fast.tw12246972673432752602 : Unit := ()
def PySem.W.Fast.tw17040344738862374007 : Unit := ()
def PySem.W.Fast.tw16036885800592097107 : Unit := ()
def PySem.W.Fast.tw7345812867638985527 : Unit := ()
def PySem.W.Fast.tw2027989493696579938 : Unit := ()
def PySem.W.Fast.tw8581431824091707525 : Unit := ()
def PySem.W.Fast.tw343838922459921441 : Unit := ()
def PySem.W.Fast.tw3696956826025096299 : Unit := ()
def PySem.W.Fast.tw11595274188675939998 : Unit := ()
def PySem.W.Fast.tw339742965172938729 : Unit := ()
def PySem.W.Fast.tw16040514543037563344 : Unit := ()
def PySem.W.Fast.tw12549155888252576290 : Unit := ()
def PySem.W.Fast.tw15730058010265046217 : Unit := ()
def PySem.W.Fast.tw15839958961662689163 : Unit := ()
def PySem.W.Fast.tw10091024543525229210 : Unit := ()
def PySem.W.Fast.tw11691873902556333750 : Unit := ()
def PySem.W.Fast.tw8308235053937350740 : Unit := ()
def PySem.W.Fast.tw2123665854462076816 : Unit := ()
def PySem.W.Fast.tw18400714968124827507 : Unit := ()
def PySem.W.Fast.tw4078388290708646801 : Unit := ()
def PySem.W.Fast.tw16358082927466979762 : Unit := ()
def PySem.W.Fast.tw11052690637360930151 : Unit := ()
def PySem.W.Fast.tw9659667881967463199 : Unit := ()
def PySem.W.Fast.tw1064129269004948452 : Unit := ()
def PySem.W.Fast.tw4503976821178730723 : Unit := ()
def PySem.W.Fast.tw5887555680237565248 : Unit := ()
def PySem.W.Fast.tw12915044486737134989 : Unit := ()
def PySem.W.Fast.tw10362626127294799046 : Unit := ()
def PySem.W.Fast.tw11160593602626623854 : Unit := ()
def PySem.W.Fast.tw13708798808062753078 : Unit := ()
def PySem.W.Fast.tw143044930161091543 : Unit := ()
def PySem.W.Fast.tw6545091751248349498 : Unit := ()
def PySem.W.Fast.tw18422803607721299567 : Unit := ()
def PySem.W.Fast.tw18092500530270183881 : Unit := ()
def PySem.W.Fast.tw1948925483678127742 : Unit := ()
def PySem.W.Fast.tw6338478393227315315 : Unit := ()
def PySem.W.Fast.tw1127667723842733271 : Unit := ()
def PySem.W.Fast.tw16699812035178754494 : Unit := ()
def PySem.W.Fast.tw2958310674746150251 : Unit := ()
def PySem.W.Fast.tw4725752603867713722 : Unit := ()
def PySem.W.Fast.tw13542146933119147559 : Unit := ()
def PySem.W.Fast.tw11471576518470710453 : Unit := ()
def PySem.W.Fast.tw2288190322361827552 : Unit := ()
def PySem.W.Fast.tw12151993267432963817 : Unit := ()
def PySem.W.Fast.tw2271414748658731473 : Unit := ()
def PySem.W.Fast.tw10119048713798876001 : Unit := ()
def PySem.W.Fast.tw13739016356001189531 : Unit := ()
def PySem.W.Fast.tw10959539065835146751 : Unit := ()
def PySem.W.Fast.tw16304696402535319114 : Unit := ()
def PySem.W.Fast.tw11375607045598637231 : Unit := ()
def PySem.W.Fast.tw13861513264254977329 : Unit := ()
def PySem.W.Fast.tw3392573291311535920 : Unit := ()
def PySem.W.Fast.tw10959255539087045374 : Unit := ()
def PySem.W.Fast.tw473664315685123464 : Unit := ()
def PySem.W.Fast.tw3947816546046971822 : Unit := ()
def PySem.W.Fast.tw13708781798161416777 : Unit := ()
def PySem.W.Fast.tw7449024907209646249 : Unit := ()
def PySem.W.Fast.tw13775366030966583362 : Unit := ()
def PySem.W.Fast.tw5732463138604994279 : Unit := ()
def PySem.W.Fast.tw3381729087898180673 : Unit := ()
def PySem.W.Fast.tw6949711380833173519 : Unit := ()
def PySem.W.Fast.tw14058538984701747308 : Unit := ()
def PySem.W.Fast.tw274312353389296321 : Unit := ()
def PySem.W.Fast.tw8834112712533479064 : Unit := ()
def PySem.W.Fast.tw14620656718353992092 : Unit := ()
def PySem.W.Fast.tw867068717579369715 : Unit := ()
def PySem.W.Fast.tw5080351569750013405 : Unit := ()
def PySem.W.Fast.tw11678560460091104763 : Unit := ()
def PySem.W.Fast.tw6771944879420007927 : Unit := ()
def PySem.W.Fast.tw10941426040972520977 : Unit := ()
def PySem.W.Fast.tw2260867132382579884 : Unit := ()
def PySem.W.Fast.tw8950118529499072620 : Unit := ()
def PySem.W.Fast.tw3881252422803905437 : Unit := ()
def PySem.W.Fast.tw431379724133710948 : Unit := ()
def PySem.W.Fast.tw18288426319607851077 : Unit := ()
def PySem.W.Fast.tw8990400497630003581 : Unit := ()
def PySem.W.Fast.tw51968248311018690 : Unit := ()
def PySem.W.Fast.tw13940933816946615287 : Unit := ()
def PySem.W.Fast.tw5708835317434870098 : Unit := ()
def PySem.W.Fast.tw5443828829645971846 : Unit := ()
def PySem.W.Fast.tw17489453048674661404 : Unit := ()
def PySem.W.Fast.tw4827400984499650483 : Unit := ()
def PySem.W.Fast.tw11062217305898705993 : Unit := ()
def PySem.W.Fast.tw3423841978481893314 : Unit := ()
def PySem.W.Fast.tw9630339328258251315 : Unit := ()
def PySem.W.Fast.tw10743085159031485450 : Unit := ()
def PySem.W.Fast.tw13053978947666149791 : Unit := ()
def PySem.W.Fast.tw3938755035254913800 : Unit := ()
def PySem.W.Fast.tw3018634415464381775 : Unit := ()
def PySem.W.Fast.tw10231891237445913347 : Unit := ()
def PySem.W.Fast.tw16496408827213347129 : Unit := ()
def PySem.W.Fast.tw16078949807886802792 : Unit := ()
def PySem.W.Fast.tw4347186626404111530 : Unit := ()
def PySem.W.Fast.tw17380319452000836075 : Unit := ()
def PySem.W.Fast.tw1205709384386285871 : Unit := ()
def PySem.W.Fast.tw8041857987937310108 : Unit := ()
def PySem.W.Fast.tw9723718553349922841 : Unit := ()
def PySem.W.Fast.tw9477076587805950431 : Unit := ()
def PySem.W.Fast.tw6172755243978027057 : Unit := ()
def PySem.W.Fast.tw10925870417248883830 : Unit := ()
def PySem.W.Fast.tw9807838310061687124 : Unit := ()
def PySem.W.Fast.tw11602493221500718007 : Unit := ()
def PySem.W.Fast.tw13622231508538617033 : Unit := ()
def PySem.W.Fast.tw11774661836049372807 : Unit := ()
def PySem.W.Fast.tw9017792270923252137 : Unit := ()
def PySem.W.Fast.tw17483910325923764756 : Unit := ()
def PySem.W.Fast.tw9035603498890338931 : Unit := ()
def PySem.W.Fast.tw15522683768453647698 : Unit := ()
def PySem.W.Fast.tw4452975243242550725 : Unit := ()
def PySem.W.Fast.tw12169215510514917269 : Unit := ()
def PySem.W.Fast.tw1135899609907721405 : Unit := ()
def PySem.W.Fast.tw6544545081260572652 : Unit := ()
def PySem.W.Fast.tw1719914277534000962 : Unit := ()
def PySem.W.Fast.tw5517092232020438346 : Unit := ()
def PySem.W.Fast.tw1144034625393287281 : Unit := ()
def PySem.W.Fast.tw2408308480185746469 : Unit := ()
def PySem.W.Fast.tw7893291535148493999 : Unit := ()
def PySem.W.Fast.tw1318096369536304461 : Unit := ()
def PySem.W.Fast.tw4814219847660782363 : Unit := ()
def PySem.W.Fast.tw11171962343026756170 : Unit := ()
def PySem.W.Fast.tw1796890601018412366 : Unit := ()
def PySem.W.Fast.tw5670831228300684415 : Unit := ()
def PySem.W.Fast.tw5455861105353574316 : Unit := ()
def PySem.W.Fast.tw18026131715116012885 : Unit := ()
def PySem.W.Fast.tw8305982256770856409 : Unit := ()
def PySem.W.Fast.tw9543750170441643820 : Unit := ()
def PySem.W.Fast.tw13755194941701877073 : Unit := ()
def PySem.W.Fast.tw8432458108982759416 : Unit := ()
def PySem.W.Fast.tw16930408907726297691 : Unit := ()
def PySem.W.Fast.tw18144857984071805250 : Unit := ()
def PySem.W.Fast.tw18314276550222732563 : Unit := ()
def PySem.W.Fast.tw10771323905403003546 : Unit := ()
def PySem.W.Fast.tw13452644398543214406 : Unit := ()
def PySem.W.Fast.tw16396916868130899882 : Unit := ()
def PySem.W.Fast.tw11588293564154946682 : Unit := ()
def PySem.W.Fast.tw17049162658861580491 : Unit := ()
def PySem.W.Fast.tw15172964988603785789 : Unit := ()
def PySem.W.Fast.tw7361645092551759432 : Unit := ()
def PySem.W.Fast.tw14450703837909096655 : Unit := ()
def PySem.W.Fast.tw12097260868951524335 : Unit := ()
def PySem.W.Fast.tw13635589254386858297 : Unit := ()
def PySem.W.Fast.tw2944600215861438097 : Unit := ()
def PySem.W.Fast.tw2658606135691205888 : Unit := ()
def PySem.W.Fast.tw9272627451202807574 : Unit := ()
def PySem.W.Fast.tw10707696803143763671 : Unit := ()
def PySem.W.Fast.tw16239341699496509032 : Unit := ()
def PySem.W.Fast.tw1772983696379457836 : Unit := ()
def PySem.W.Fast.tw4473229013397651181 : Unit := ()
def PySem.W.Fast.tw14508753280273732587 : Unit := ()
def PySem.W.Fast.tw15597548746369519252 : Unit := ()
def PySem.W.Fast.tw7269877577824231822 : Unit := ()
def PySem.W.Fast.tw2415419950977337485 : Unit := ()
def PySem.W.Fast.tw8115233627847450512 : Unit := ()
def PySem.W.Fast.tw11266480321337408123 : Unit := ()
def PySem.W.Fast.tw7792600594065010846 : Unit := ()
def PySem.W.Fast.tw11733724541787310629 : Unit := ()
def PySem.W.Fast.tw9215528345886865167 : Unit := ()
def PySem.W.Fast.tw10558853512127848515 : Unit := ()
def PySem.W.Fast.tw6367885962433693362 : Unit := ()
def PySem.W.Fast.tw5110280028877583562 : Unit := ()
def PySem.W.Fast.tw10209440141227447682 : Unit := ()
def PySem.W.Fast.tw1131371026363526212 : Unit := ()
def PySem.W.Fast.tw18141436168759015040 : Unit := ()
def PySem.W.Fast.tw5186245838943096437 : Unit := ()
def PySem.W.Fast.tw846919527571079203 : Unit := ()
def PySem.W.Fast.tw7195077194684882553 : Unit := ()
def PySem.W.Fast.tw125720925050042433 : Unit := ()
def PySem.W.Fast.tw17009187228834941668 : Unit := ()
def PySem.W.Fast.tw5786895607353857411 : Unit := ()
def PySem.W.Fast.tw10655057881532777244 : Unit := ()
def PySem.W.Fast.tw13430272789859833164 : Unit := ()
def PySem.W.Fast.tw16049767457537243330 : Unit := ()
def PySem.W.Fast.tw11354714505973159837 : Unit := ()
def PySem.W.Fast.tw18024355847264659045 : Unit := ()
def PySem.W.Fast.tw13422036356214278164 : Unit := ()
def PySem.W.Fast.tw18104070923715179615 : Unit := ()
def PySem.W.Fast.tw2207444283240447112 : Unit := ()
def PySem.W.Fast.tw10076968972438525710 : Unit := ()
def PySem.W.Fast.tw12480625424451298693 : Unit := ()
def PySem.W.Fast.tw4813937111204650369 : Unit := ()
def PySem.W.Fast.tw14274501565292946518 : Unit := ()
def PySem.W.Fast.tw10484948000063347472 : Unit := ()
def PySem.W.Fast.tw8739934356386668668 : Unit := ()
def PySem.W.Fast.tw208920752426575391 : Unit := ()
def PySem.W.Fast.tw618284808321713236 : Unit := ()
def PySem.W.Fast.tw9156542800877196079 : Unit := ()
def PySem.W.Fast.tw5229871913654354545 : Unit := ()
def PySem.W.Fast.tw14781974373234190128 : Unit := ()
def PySem.W.Fast.tw14198561661630013599 : Unit := ()
def PySem.W.Fast.tw4795977661764723110 : Unit := ()
def PySem.W.Fast.tw17761129230220864677 : Unit := ()
def PySem.W.Fast.tw12893952034289661373 : Unit := ()
def PySem.W.Fast.tw7646368018969463065 : Unit := ()
def PySem.W.Fast.tw6621726020863457876 : Unit := ()
def PySem.W.Fast.tw8240382096634440987 : Unit := ()
def PySem.W.Fast.tw9205266350124192791 : Unit := ()
def PySem.W.Fast.tw110849907202711665 : Unit := ()
def PySem.W.Fast.tw5965530901389621645 : Unit := ()
def PySem.W.Fast.tw9422420525611976073 : Unit := ()
def PySem.W.Fast.tw15416523356476838937 : Unit := ()
def PySem.W.Fast.tw2223673501682562517 : Unit := ()
def PySem.W.Fast.tw9320080403623943058 : Unit := ()
def PySem.W.Fast.tw13272146499785184574 : Unit := ()
def PySem.W.Fast.tw4604874842575997191 : Unit := ()
def PySem.W.Fast.tw3995074395328800796 : Unit := ()
def PySem.W.Fast.tw16423163628990281077 : Unit := ()
def PySem.W.Fast.tw8318640764469929985 : Unit := ()
def PySem.W.Fast.tw4259652909006236400 : Unit := ()
def PySem.W.Fast.tw6367467031185176839 : Unit := ()
def PySem.W.Fast.tw980853297471002676 : Unit := ()
def PySem.W.Fast.tw18067040523587800717 : Unit := ()
def PySem.W.Fast.tw9040366455751832795 : Unit := ()
def PySem.W.Fast.tw376377270787780488 : Unit := ()
def PySem.W.Fast.tw17817467118195042097 : Unit := ()
def PySem.W.Fast.tw4992474751636594357 : Unit := ()
def PySem.W.Fast.tw1462908977289120444 : Unit := ()
def PySem.W.Fast.tw3223346091277361430 : Unit := ()
def PySem.W.Fast.tw14880612206900260153 : Unit := ()
def PySem.W.Fast.tw9890358832042191659 : Unit := ()
def PySem.W.Fast.tw15395569685523052627 : Unit := ()
def PySem.W.Fast.tw4876468155724322443 : Unit := ()
def PySem.W.Fast.tw7436572234357106475 : Unit := ()
def PySem.W.Fast.tw7022056049523072032 : Unit := ()
def PySem.W.Fast.tw14691641264908662210 : Unit := ()
def PySem.W.Fast.tw6961142605800543300 : Unit := ()
def PySem.W.Fast.tw5265350986128358723 : Unit := ()
def PySem.W.Fast.tw12177310274449106009 : Unit := ()
def PySem.W.Fast.tw3297485342033073834 : Unit := ()
def PySem.W.Fast.tw11273323605387642056 : Unit := ()
def PySem.W.Fast.tw6587256039091151696 : Unit := ()
def PySem.W.Fast.tw5036189776075007001 : Unit := ()
def PySem.W.Fast.tw11148822566941650714 : Unit := ()
def PySem.W.Fast.tw1208554664524144034 : Unit := ()
def PySem.W.Fast.tw16943178101838329938 : Unit := ()
def PySem.W.Fast.tw13190674989225712549 : Unit := ()
def PySem.W.Fast.tw14608272052913911752 : Unit := ()
def PySem.W.Fast.tw9118105545966352208 : Unit := ()
def PySem.W.Fast.tw4656851517732979266 : Unit := ()
def PySem.W.Fast.tw4896726474868738006 : Unit := ()
def PySem.W.Fast.tw16619026271064888924 : Unit := ()
def PySem.W.Fast.tw16852245234192229483 : Unit := ()
def PySem.W.Fast.tw8679964200128439756 : Unit := ()
def PySem.W.Fast.tw15817735372902316175 : Unit := ()
def PySem.W.Fast.tw9931789356027967247 : Unit := ()
def PySem.W.Fast.tw16489551217348629003 : Unit := ()
def PySem.W.Fast.tw2386086054979662028 : Unit := ()
def PySem.W.Fast.tw15488801789480479546 : Unit := ()
def PySem.W.Fast.tw1471359168310066982 : Unit := ()
def PySem.W.Fast.tw15067288843706912064 : Unit := ()
def PySem.W.Fast.tw4734333252402896148 : Unit := ()
def PySem.W.Fast.tw12978449579241268179 : Unit := ()
def PySem.W.Fast.tw7340134540228250441 : Unit := ()
def PySem.W.Fast.tw18075064746364385321 : Unit := ()
def PySem.W.Fast.tw18135425252962441463 : Unit := ()
def PySem.W.Fast.tw9711872606965645377 : Unit := ()
def PySem.W.Fast.tw6945494729471229373 : Unit := ()
def PySem.W.Fast.tw17706297466472391886 : Unit := ()
def PySem.W.Fast.tw7013748724743249505 : Unit := ()
def PySem.W.Fast.tw7607714890113087776 : Unit := ()
def PySem.W.Fast.tw11620839192404113000 : Unit := ()
def PySem.W.Fast.tw4061754871204653268 : Unit := ()
def PySem.W.Fast.tw5888179159017367265 : Unit := ()
def PySem.W.Fast.tw15517715021963280896 : Unit := ()
def PySem.W.Fast.tw13692097464342467136 : Unit := ()
def PySem.W.Fast.tw10718106571169787588 : Unit := ()
def PySem.W.Fast.tw462549024184884376 : Unit := ()
def PySem.W.Fast.tw5167837440645244278 : Unit := ()
def PySem.W.Fast.tw1075686095548706736 : Unit := ()
def PySem.W.Fast.tw10424295810887881298 : Unit := ()
def PySem.W.Fast.tw9258101389940835917 : Unit := ()
def PySem.W.Fast.tw7492968921918037999 : Unit := ()
def PySem.W.Fast.tw9513851565623979523 : Unit := ()
def PySem.W.Fast.tw4523480917214919904 : Unit := ()
def PySem.W.Fast.tw8338709778369498828 : Unit := ()
def PySem.W.Fast.tw1087053517368603828 : Unit := ()
def PySem.W.Fast.tw8349545348262180061 : Unit := ()
def PySem.W.Fast.tw13523780978269500278 : Unit := ()
def PySem.W.Fast.tw4795407310277346720 : Unit := ()
def PySem.W.Fast.tw4975562855188123400 : Unit := ()
def PySem.W.Fast.tw9231123452406364137 : Unit := ()
def PySem.W.Fast.tw3242037604876560586 : Unit := ()
def PySem.W.Fast.tw7368485949003889722 : Unit := ()
def PySem.W.Fast.tw4516078746556253177 : Unit := ()
def PySem.W.Fast.tw8574833584414561080 : Unit := ()
def PySem.W.Fast.tw2749358024274216186 : Unit := ()
def PySem.W.Fast.tw13560901548711863097 : Unit := ()
def PySem.W.Fast.tw11615678032697905518 : Unit := ()
def PySem.W.Fast.tw6960793622038583378 : Unit := ()
def PySem.W.Fast.tw14249473009225981909 : Unit := ()
def PySem.W.Fast.tw13618510521967682723 : Unit := ()
def PySem.W.Fast.tw16829280841991460177 : Unit := ()
def PySem.W.Fast.tw2605660163769131433 : Unit := ()
def PySem.W.Fast.tw792539576160480188 : Unit := ()
def PySem.W.Fast.tw5475248854340073342 : Unit := ()
def PySem.W.Fast.tw17388082671979882316 : Unit := ()
def PySem.W.Fast.tw6482477736535332207 : Unit := ()
def PySem.W.Fast.tw9990208311875043871 : Unit := ()
def PySem.W.Fast.tw5383906460544901873 : Unit := ()
def PySem.W.Fast.tw3415537004088519519 : Unit := ()
def PySem.W.Fast.tw13160690023893169054 : Unit := ()
def PySem.W.Fast.tw11779469306424223834 : Unit := ()
def PySem.W.Fast.tw15034042707586804596 : Unit := ()
def PySem.W.Fast.tw3211744502651531639 : Unit := ()
def PySem.W.Fast.tw2720438751707977919 : Unit := ()
def PySem.W.Fast.tw6072423551822301478 : Unit := ()
def PySem.W.Fast.tw18291054512431295673 : Unit := ()
def PySem.W.Fast.tw6216097708862229645 : Unit := ()
def PySem.W.Fast.tw13605425729991537603 : Unit := ()
def PySem.W.Fast.tw17734227853557346991 : Unit := ()
def PySem.W.Fast.tw10290799418536823952 : Unit := ()
def PySem.W.Fast.tw1743152222880873048 : Unit := ()
def PySem.W.Fast.tw7521116252576775469 : Unit := ()
def PySem.W.Fast.tw5858697014340225896 : Unit := ()
def PySem.W.Fast.tw13308277876713338794 : Unit := ()
def PySem.W.Fast.tw3010331770044703999 : Unit := ()
def PySem.W.Fast.tw13894687207275760619 : Unit := ()
def PySem.W.Fast.tw15630257657356266082 : Unit := ()
def PySem.W.Fast.tw15093660907182499242 : Unit := ()
def PySem.W.Fast.tw12292075225461858295 : Unit := ()
def PySem.W.Fast.tw7794288731420235086 : Unit := ()
def PySem.W.Fast.tw2573827475267518057 : Unit := ()
def PySem.W.Fast.tw11834005144525162739 : Unit := ()
def PySem.W.Fast.tw6469919297332890978 : Unit := ()
def PySem.W.Fast.tw16908410765412386236 : Unit := ()
def PySem.W.Fast.tw4449141715830615759 : Unit := ()
def PySem.W.Fast.tw5979757729917280771 : Unit := ()
def PySem.W.Fast.tw16002669787773906980 : Unit := ()
def PySem.W.Fast.tw9499881617633291210 : Unit := ()
def PySem.W.Fast.tw17771675199564396049 : Unit := ()
def PySem.W.Fast.tw11397396814721121073 : Unit := ()
def PySem.W.Fast.tw8357737775354637247 : Unit := ()
def PySem.W.Fast.tw14361280518988365004 : Unit := ()
def PySem.W.Fast.tw7524086443061051705 : Unit := ()
def PySem.W.Fast.tw7509596051797042965 : Unit := ()
def PySem.W.Fast.tw17545128233530199599 : Unit := ()
def PySem.W.Fast.tw197218795354253561 : Unit := ()
def PySem.W.Fast.tw3535168864947968506 : Unit := ()
def PySem.W.Fast.tw11494248759665937144 : Unit := ()
def PySem.W.Fast.tw622636573084799512 : Unit := ()
def PySem.W.Fast.tw760585283669776775 : Unit := ()
def PySem.W.Fast.tw15079676332690389658 : Unit := ()
def PySem.W.Fast.tw5046459990328467030 : Unit := ()
def PySem.W.Fast.tw7297852269453479023 : Unit := ()
def PySem.W.Fast.tw11428957624325903873 : Unit := ()
def PySem.W.Fast.tw457780904086954465 : Unit := ()
def PySem.W.Fast.tw6441610025695118291 : Unit := ()
def PySem.W.Fast.tw6885922520632012113 : Unit := ()
def PySem.W.Fast.tw11768269801623755636 : Unit := ()
def PySem.W.Fast.tw9013848262834844675 : Unit := ()
def PySem.W.Fast.tw7006245120786311438 : Unit := ()
def PySem.W.Fast.tw10488476392843672698 : Unit := ()
def PySem.W.Fast.tw9267556202553044902 : Unit := ()
def PySem.W.Fast.tw17326880279516311948 : Unit := ()
def PySem.W.Fast.tw9516414221703433807 : Unit := ()
def PySem.W.Fast.tw13428923180675124000 : Unit := ()
def PySem.W.Fast.tw1710113920672648632 : Unit := ()
def PySem.W.Fast.tw5971292606273171829 : Unit := ()
def PySem.W.Fast.tw16452930714868444835 : Unit := ()
def PySem.W.Fast.tw4130162298712140059 : Unit := ()
def PySem.W.Fast.tw8126184898619336924 : Unit := ()
def PySem.W.Fast.tw2774755096110280862 : Unit := ()
def PySem.W.Fast.tw3594887089515317543 : Unit := ()
def PySem.W.Fast.tw2704073849959267844 : Unit := ()
def PySem.W.Fast.tw3766091021988825476 : Unit := ()
def PySem.W.Fast.tw2983424980678516915 : Unit := ()
def PySem.W.Fast.tw14857485613998168916 : Unit := ()
def PySem.W.Fast.tw5902151005106066286 : Unit := ()
def PySem.W.Fast.tw11022789914569551199 : Unit := ()
def PySem.W.Fast.tw15845104101887553072 : Unit := ()
def PySem.W.Fast.tw10056543399776717763 : Unit := ()
def PySem.W.Fast.tw983587385898370875 : Unit := ()
def PySem.W.Fast.tw6738655590094390811 : Unit := ()
def PySem.W.Fast.tw7465416483629770407 : Unit := ()
def PySem.W.Fast.tw15423746969269716056 : Unit := ()
def PySem.W.Fast.tw9263315835156017078 : Unit := ()
def PySem.W.Fast.tw4122681191843384450 : Unit := ()
def PySem.W.Fast.tw5811722360247653215 : Unit := ()
def PySem.W.Fast.tw5157011755760741051 : Unit := ()
def PySem.W.Fast.tw11509913857860565575 : Unit := ()
def PySem.W.Fast.tw8993832145934999911 : Unit := ()
def PySem.W.Fast.tw10406581588998998150 : Unit := ()
def PySem.W.Fast.tw14523722603490065762 : Unit := ()
def PySem.W.Fast.tw14889096041553704854 : Unit := ()
def PySem.W.Fast.tw3316595757369425220 : Unit := ()
def PySem.W.Fast.tw17404337328862678714 : Unit := ()
def PySem.W.Fast.tw17270775847348893879 : Unit := ()
def PySem.W.Fast.tw14170620162013844112 : Unit := ()
def PySem.W.Fast.tw4124993853147189765 : Unit := ()
def PySem.W.Fast.tw16691068970967285776 : Unit := ()
def PySem.W.Fast.tw16082973453017932753 : Unit := ()
def PySem.W.Fast.tw18089934418167108726 : Unit := ()
def PySem.W.Fast.tw6835287482576303114 : Unit := ()
def PySem.W.Fast.tw6948441705982674588 : Unit := ()
def PySem.W.Fast.tw5451580005665024719 : Unit := ()
def PySem.W.Fast.tw7084883088161930586 : Unit := ()
def PySem.W.Fast.tw9793421306802088791 : Unit := ()
def PySem.W.Fast.tw17976713224781306244 : Unit := ()
def PySem.W.Fast.tw7445964586631829063 : Unit := ()
def PySem.W.Fast.tw14887397050344905070 : Unit := ()
def PySem.W.Fast.tw38687504705023463 : Unit := ()
def PySem.W.Fast.tw6608814314515469172 : Unit := ()
def PySem.W.Fast.tw3323812159300001501 : Unit := ()
def PySem.W.Fast.tw9675044057525722658 : Unit := ()
def PySem.W.Fast.tw17262271731262893631 : Unit := ()
def PySem.W.Fast.tw12924535621060686600 : Unit := ()
def PySem.W.Fast.tw3670571377203591174 : Unit := ()
def PySem.W.Fast.tw9941191532687037346 : Unit := ()
def PySem.W.Fast.tw2479664275863360278 : Unit := ()
def PySem.W.Fast.tw2032997119430506742 : Unit := ()
def PySem.W.Fast.tw14090050872511942487 : Unit := ()
def PySem.W.Fast.tw2505892487090880789 : Unit := ()
def PySem.W.Fast.tw9690969349475808648 : Unit := ()
def PySem.W.Fast.tw9279516181332520375 : Unit := ()
def PySem.W.Fast.tw18420759697506471156 : Unit := ()
def PySem.W.Fast.tw15081103990465047309 : Unit := ()
def PySem.W.Fast.tw14421826088036750192 : Unit := ()
def PySem.W.Fast.tw3815241234680372038 : Unit := ()
def PySem.W.Fast.tw1383844954694893774 : Unit := ()
def PySem.W.Fast.tw4577079978848374000 : Unit := ()
def PySem.W.Fast.tw8729276519867633270 : Unit := ()
def PySem.W.Fast.tw3114807326179429967 : Unit := ()
def PySem.W.Fast.tw1607575438156126783 : Unit := ()
def PySem.W.Fast.tw214141024886714290 : Unit := ()
def PySem.W.Fast.tw9127220294509842573 : Unit := ()
def PySem.W.Fast.tw10169919706504084204 : Unit := ()
def PySem.W.Fast.tw7633310550441657191 : Unit := ()
def PySem.W.Fast.tw1778111842808331226 : Unit := ()
def PySem.W.Fast.tw16111140698384173608 : Unit := ()
def PySem.W.Fast.tw7183675992705522991 : Unit := ()
def PySem.W.Fast.tw3450423624158641037 : Unit := ()
def PySem.W.Fast.tw7637076284697393457 : Unit := ()
def PySem.W.Fast.tw9832489187658930249 : Unit := ()
def PySem.W.Fast.tw9217473528308025420 : Unit := ()
def PySem.W.Fast.tw14827051424958670748 : Unit := ()
def PySem.W.Fast.tw502092133817952147 : Unit := ()
def PySem.W.Fast.tw16591339834764920109 : Unit := ()
def PySem.W.Fast.tw2138661242560476959 : Unit := ()
def PySem.W.Fast.tw5349023373779649413 : Unit := ()
def PySem.W.Fast.tw3830206158693666005 : Unit := ()
def PySem.W.Fast.tw12781437002354957412 : Unit := ()
def PySem.W.Fast.tw5065175450989078561 : Unit := ()
def PySem.W.Fast.tw17789440272385104014 : Unit := ()
def PySem.W.Fast.tw9015194828154999976 : Unit := ()
def PySem.W.Fast.tw17017990131196525129 : Unit := ()
def PySem.W.Fast.tw18446622941652415275 : Unit := ()
def PySem.W.Fast.tw14930168172405579522 : Unit := ()
def PySem.W.Fast.tw14537718710962356312 : Unit := ()
def PySem.W.Fast.tw2444790737579842495 : Unit := ()
def PySem.W.Fast.tw17292683648135256017 : Unit := ()
def PySem.W.Fast.tw3991315800574250754 : Unit := ()
def PySem.W.Fast.tw5594972991838667349 : Unit := ()
def PySem.W.Fast.tw17890134663954266198 : Unit := ()
def PySem.W.Fast.tw204015859511458378 : Unit := ()
def PySem.W.Fast.tw2892558582681493100 : Unit := ()
def PySem.W.Fast.tw9174556221923787345 : Unit := ()
def PySem.W.Fast.tw14172208297142294726 : Unit := ()
def PySem.W.Fast.tw9568255731000261943 : Unit := ()
def PySem.W.Fast.tw3450598707300591879 : Unit := ()
def PySem.W.Fast.tw6477402217495313709 : Unit := ()
def PySem.W.Fast.tw6664231902342461783 : Unit := ()
def PySem.W.Fast.tw13617513369824157629 : Unit := ()
def PySem.W.Fast.tw493503040358008621 : Unit := ()
def PySem.W.Fast.tw7652893203894727362 : Unit := ()
def PySem.W.Fast.tw11835339360602237215 : Unit := ()
def PySem.W.Fast.tw387054822455815207 : Unit := ()
def PySem.W.Fast.tw11934770705903083513 : Unit := ()
def PySem.W.Fast.tw1481763904741099272 : Unit := ()
def PySem.W.Fast.tw14713915683521393756 : Unit := ()
def PySem.W.Fast.tw16540758192382355237 : Unit := ()
def PySem.W.Fast.tw5444826471197572988 : Unit := ()
def PySem.W.Fast.tw3305635537267886300 : Unit := ()
def PySem.W.Fast.tw6659385481368335830 : Unit := ()
def PySem.W.Fast.tw4859485032172323484 : Unit := ()
def PySem.W.Fast.tw6217487988603072234 : Unit := ()
def PySem.W.Fast.tw1068155533991307482 : Unit := ()
def PySem.W.Fast.tw6948666891232137011 : Unit := ()
def PySem.W.Fast.tw6824253220669792433 : Unit := ()
def PySem.W.Fast.tw10171525087175523374 : Unit := ()
def PySem.W.Fast.tw11493123085351474712 : Unit := ()
def PySem.W.Fast.tw9424599192891965277 : Unit := ()
def PySem.W.Fast.tw18040358325688055575 : Unit := ()
def PySem.W.Fast.tw3981423220690081337 : Unit := ()
def PySem.W.Fast.tw2017390285774345726 : Unit := ()
def PySem.W.Fast.tw12818987123057332453 : Unit := ()
def PySem.W.Fast.tw11503149999676766219 : Unit := ()
def PySem.W.Fast.tw5430633940399386306 : Unit := ()
def PySem.W.Fast.tw2676484567220881970 : Unit := ()
def PySem.W.Fast.tw3428300887035427126 : Unit := ()
def PySem.W.Fast.tw12830849827979319743 : Unit := ()
def PySem.W.Fast.tw5835496840879844094 : Unit := ()
def PySem.W.Fast.tw918450179474753459 : Unit := ()
def PySem.W.Fast.tw8612938391815960179 : Unit := ()
def PySem.W.Fast.tw14227362324953989697 : Unit := ()
def PySem.W.Fast.tw2501277446921313162 : Unit := ()
def PySem.W.Fast.tw10681276181649787852 : Unit := ()
def PySem.W.Fast.tw3235081481121909948 : Unit := ()
def PySem.W.Fast.tw17501284962743174315 : Unit := ()
def PySem.W.Fast.tw10808430416038187293 : Unit := ()
def PySem.W.Fast.tw2127372080137869507 : Unit := ()
def PySem.W.Fast.tw11627574238373519212 : Unit := ()
def PySem.W.Fast.tw9221031366280212129 : Unit := ()
def PySem.W.Fast.tw11706557246407605816 : Unit := ()
def PySem.W.Fast.tw11391645463285882915 : Unit := ()
def PySem.W.Fast.tw10646472847790700847 : Unit := ()
def PySem.W.Fast.tw570000194006106557 : Unit := ()
def PySem.W.Fast.tw4776628940792523186 : Unit := ()
def PySem.W.Fast.tw1223910622160450875 : Unit := ()
def PySem.W.Fast.tw12528135878950669389 : Unit := ()
def PySem.W.Fast.tw9053327069038960182 : Unit := ()
def PySem.W.Fast.tw7384822730014435143 : Unit := ()
def PySem.W.Fast.tw13895336587938827011 : Unit := ()
def PySem.W.Fast.tw12161689399069404815 : Unit := ()
def PySem.W.Fast.tw3559475238429141278 : Unit := ()
def PySem.W.Fast.tw11723871002803003894 : Unit := ()
def PySem.W.Fast.tw10879226926588902365 : Unit := ()
def PySem.W.Fast.tw15662551072707897752 : Unit := ()
def PySem.W.Fast.tw3669232645914324398 : Unit := ()
def PySem.W.Fast.tw18378632261741154375 : Unit := ()
def PySem.W.Fast.tw15883393449365784321 : Unit := ()
def PySem.W.Fast.tw11870411625667860511 : Unit := ()
def PySem.W.Fast.tw9405808867202114539 : Unit := ()
def PySem.W.Fast.tw38612804270150594 : Unit := ()
def PySem.W.Fast.tw18423117866690058611 : Unit := ()
def PySem.W.Fast.tw18256223212198774794 : Unit := ()
def PySem.W.Fast.tw17841836558307963148 : Unit := ()
def PySem.W.Fast.tw10181024214393168565 : Unit := ()
def PySem.W.Fast.tw400215047986301862 : Unit := ()
def PySem.W.Fast.tw15827021234024597239 : Unit := ()
def PySem.W.Fast.tw3044314625857117340 : Unit := ()
def PySem.W.Fast.tw13815294381142969053 : Unit := ()
def PySem.W.Fast.tw16398689753213228090 : Unit := ()
def PySem.W.Fast.tw16290960421782758189 : Unit := ()
def PySem.W.Fast.tw17559638475749871586 : Unit := ()
def PySem.W.Fast.tw10881151046303577770 : Unit := ()
def PySem.W.Fast.tw961850779299351402 : Unit := ()
def PySem.W.Fast.tw13462050956104746872 : Unit := ()
def PySem.W.Fast.tw15852780286412399342 : Unit := ()
def PySem.W.Fast.tw15804889427261235277 : Unit := ()
def PySem.W.Fast.tw7376185922501576502 : Unit := ()
def PySem.W.Fast.tw18207854867872551565 : Unit := ()
def PySem.W.Fast.tw17434770413909875902 : Unit := ()
def PySem.W.Fast.tw3725897290900919520 : Unit := ()
def PySem.W.Fast.tw6508357145298539741 : Unit := ()
def PySem.W.Fast.tw9707947693085134463 : Unit := ()
def PySem.W.Fast.tw12217273401245501717 : Unit := ()
def PySem.W.Fast.tw9744632820341770295 : Unit := ()
def PySem.W.Fast.tw7902240294018116988 : Unit := ()
def PySem.W.Fast.tw3230190109327340527 : Unit := ()
def PySem.W.Fast.tw10573251834276044209 : Unit := ()
def PySem.W.Fast.tw1892928669091885318 : Unit := ()
def PySem.W.Fast.tw374594199104420448 : Unit := ()
def PySem.W.Fast.tw6241502672604848511 : Unit := ()
def PySem.W.Fast.tw5960948256590615840 : Unit := ()
def PySem.W.Fast.tw714202532730820341 : Unit := ()
def PySem.W.Fast.tw2635800258670555342 : Unit := ()
def PySem.W.Fast.tw3192773198954854436 : Unit := ()
def PySem.W.Fast.tw11027534670015085293 : Unit := ()
def PySem.W.Fast.tw15181440605953970522 : Unit := ()
def PySem.W.Fast.tw11577049349623234724 : Unit := ()
def PySem.W.Fast.tw2635959224981188799 : Unit := ()
def PySem.W.Fast.tw1866335240942831679 : Unit := ()
def PySem.W.Fast.tw7225454658470414537 : Unit := ()
def PySem.W.Fast.tw9921755560922329466 : Unit := ()
def PySem.W.Fast.tw7718452061225562942 : Unit := ()
def PySem.W.Fast.tw5940661407725430494 : Unit := ()
def PySem.W.Fast.tw5319356116741421015 : Unit := ()
def PySem.W.Fast.tw6572551211089554838 : Unit := ()
def PySem.W.Fast.tw8435036820293368014 : Unit := ()
def PySem.W.Fast.tw10743618063165084391 : Unit := ()
def PySem.W.Fast.tw5911623936595109115 : Unit := ()
def PySem.W.Fast.tw2604316191678703536 : Unit := ()
def PySem.W.Fast.tw2645748463347728268 : Unit := ()
def PySem.W.Fast.tw13291851896126034437 : Unit := ()
def PySem.W.Fast.tw8574522881931613711 : Unit := ()
def PySem.W.Fast.tw15912667591705680012 : Unit := ()
def PySem.W.Fast.tw2587311753721941387 : Unit := ()
def PySem.W.Fast.tw17976376197566861520 : Unit := ()
def PySem.W.Fast.tw10492631644380560312 : Unit := ()
def PySem.W.Fast.tw4574724890452539110 : Unit := ()
def PySem.W.Fast.tw2311909267919726329 : Unit := ()
def PySem.W.Fast.tw5146442627304693239 : Unit := ()
def PySem.W.Fast.tw7926896394464145416 : Unit := ()
def PySem.W.Fast.tw4552255223639866476 : Unit := ()
def PySem.W.Fast.tw16345064827562551229 : Unit := ()
def PySem.W.Fast.tw12510555186958572163 : Unit := ()
def PySem.W.Fast.tw17337917480149816518 : Unit := ()
def PySem.W.Fast.tw12983979320896868904 : Unit := ()
def PySem.W.Fast.tw7343771564764844788 : Unit := ()
def PySem.W.Fast.tw3120734957817630541 : Unit := ()
def PySem.W.Fast.tw7648158193711425557 : Unit := ()
def PySem.W.Fast.tw11577064899367237188 : Unit := ()
def PySem.W.Fast.tw14048766999997469778 : Unit := ()
def PySem.W.Fast.tw11202504282757911797 : Unit := ()
def PySem.W.Fast.tw10888715966794230771 : Unit := ()
def PySem.W.Fast.tw7235014548291153648 : Unit := ()
def PySem.W.Fast.tw4754747919904921289 : Unit := ()
def PySem.W.Fast.tw10492378606819950800 : Unit := ()
def PySem.W.Fast.tw9906257768478734781 : Unit := ()
def PySem.W.Fast.tw4109713305179838244 : Unit := ()
def PySem.W.Fast.tw8264069055673758220 : Unit := ()
def PySem.W.Fast.tw5891803017342648185 : Unit := ()
def PySem.W.Fast.tw8378266888086100216 : Unit := ()
def PySem.W.Fast.tw9057644290392942927 : Unit := ()
def PySem.W.Fast.tw10844969786208359316 : Unit := ()
def PySem.W.Fast.tw281079187042935464 : Unit := ()
def PySem.W.Fast.tw5268406417992884441 : Unit := ()
def PySem.W.Fast.tw16139483549218893271 : Unit := ()
def PySem.W.Fast.tw5303119468800765063 : Unit := ()
def PySem.W.Fast.tw2442107290560996593 : Unit := ()
def PySem.W.Fast.tw3669023173575811204 : Unit := ()
def PySem.W.Fast.tw11576353287581279896 : Unit := ()
def PySem.W.Fast.tw583383732920954491 : Unit := ()
def PySem.W.Fast.tw17530779881516805479 : Unit := ()
def PySem.W.Fast.tw3044876634879186293 : Unit := ()
def PySem.W.Fast.tw12191467632646853318 : Unit := ()
def PySem.W.Fast.tw10978670464959527234 : Unit := ()
def PySem.W.Fast.tw467172509348144410 : Unit := ()
def PySem.W.Fast.tw5619760242342659440 : Unit := ()
def PySem.W.Fast.tw17919638079024433209 : Unit := ()
def PySem.W.Fast.tw3117159333001611393 : Unit := ()
def PySem.W.Fast.tw16876506508437647799 : Unit := ()
def PySem.W.Fast.tw12803730260771096513 : Unit := ()
def PySem.W.Fast.tw8736433578412603741 : Unit := ()
def PySem.W.Fast.tw10307902435824702123 : Unit := ()
def PySem.W.Fast.tw13687618950223958386 : Unit := ()
def PySem.W.Fast.tw4611951822354657285 : Unit := ()
def PySem.W.Fast.tw17146821187325515599 : Unit := ()
def PySem.W.Fast.tw10240955307595969724 : Unit := ()
def PySem.W.Fast.tw9427285451686832007 : Unit := ()
def PySem.W.Fast.tw2936171366934962386 : Unit := ()
def PySem.W.Fast.tw15557668941933401456 : Unit := ()
def PySem.W.Fast.tw5413036005011128830 : Unit := ()
def PySem.W.Fast.tw2142764576533518138 : Unit := ()
def PySem.W.Fast.tw7500535583433289379 : Unit := ()
def PySem.W.Fast.tw9567129492149389218 : Unit := ()
def PySem.W.Fast.tw2933811738325986388 : Unit := ()
def PySem.W.Fast.tw11715861171637889641 : Unit := ()
def PySem.W.Fast.tw12785378315602803232 : Unit := ()
def PySem.W.Fast.tw2197427873998743732 : Unit := ()
def PySem.W.Fast.tw419333243114219019 : Unit := ()
def PySem.W.Fast.tw5303897146137629229 : Unit := ()
def PySem.W.Fast.tw12092934232810212918 : Unit := ()
def PySem.W.Fast.tw16948790020627082550 : Unit := ()
def PySem.W.Fast.tw18029581114328622704 : Unit := ()
def PySem.W.Fast.tw5877724088719390209 : Unit := ()
def PySem.W.Fast.tw2074873250424993536 : Unit := ()
def PySem.W.Fast.tw9931255329641634324 : Unit := ()
def PySem.W.Fast.tw8141956572926906597 : Unit := ()
def PySem.W.Fast.tw239131956924539375 : Unit := ()
def PySem.W.Fast.tw11845653273399024440 : Unit := ()
def PySem.W.Fast.tw16164842976534005120 : Unit := ()
def PySem.W.Fast.tw1137966078011010962 : Unit := ()
def PySem.W.Fast.tw4030008169609447826 : Unit := ()
def PySem.W.Fast.tw14314986107240329456 : Unit := ()
def PySem.W.Fast.tw2811515314091357698 : Unit := ()
def PySem.W.Fast.tw5810699436817864763 : Unit := ()
def PySem.W.Fast.tw6150864146671974924 : Unit := ()
def PySem.W.Fast.tw11295704987635952695 : Unit := ()
def PySem.W.Fast.tw10050275915249722163 : Unit := ()
def PySem.W.Fast.tw12281226115634751575 : Unit := ()
def PySem.W.Fast.tw5794584068122673564 : Unit := ()
def PySem.W.Fast.tw286875725550072195 : Unit := ()
def PySem.W.Fast.tw5704199443935907672 : Unit := ()
def PySem.W.Fast.tw1214410290482711851 : Unit := ()
def PySem.W.Fast.tw12838169790184962253 : Unit := ()
def PySem.W.Fast.tw11371180767099554732 : Unit := ()
def PySem.W.Fast.tw838750485270148214 : Unit := ()
def PySem.W.Fast.tw9512433593968748189 : Unit := ()
def PySem.W.Fast.tw8526799478837499392 : Unit := ()
def PySem.W.Fast.tw17649839420926207164 : Unit := ()
def PySem.W.Fast.tw9048602892321751376 : Unit := ()
def PySem.W.Fast.tw11269891633236522355 : Unit := ()
def PySem.W.Fast.tw11360856726114108057 : Unit := ()
def PySem.W.Fast.tw14440693940560503932 : Unit := ()
def PySem.W.Fast.tw14965385480109987317 : Unit := ()
def PySem.W.Fast.tw7118914228839130239 : Unit := ()
def PySem.W.Fast.tw7461791272124712881 : Unit := ()
def PySem.W.Fast.tw9285461691211793552 : Unit := ()
def PySem.W.Fast.tw4873943286491826600 : Unit := ()
def PySem.W.Fast.tw14746895890461429694 : Unit := ()
def PySem.W.Fast.tw583942750013917373 : Unit := ()
def PySem.W.Fast.tw11080461235374345292 : Unit := ()
def PySem.W.Fast.tw159691631018991547 : Unit := ()
def PySem.W.Fast.tw3314884290566206960 : Unit := ()
def PySem.W.Fast.tw11300192105183690587 : Unit := ()
def PySem.W.Fast.tw16575455603492285572 : Unit := ()
def PySem.W.Fast.tw274408202472704357 : Unit := ()
def PySem.W.Fast.tw14118378762047473163 : Unit := ()
def PySem.W.Fast.tw11447829974130984134 : Unit := ()
def PySem.W.Fast.tw16652387338983098739 : Unit := ()
def PySem.W.Fast.tw1640377686177150678 : Unit := ()
def PySem.W.Fast.tw13116190483815688746 : Unit := ()
def PySem.W.Fast.tw7452625669243775134 : Unit := ()
def PySem.W.Fast.tw12787634808259942591 : Unit := ()
def PySem.W.Fast.tw15458147541363660280 : Unit := ()
def PySem.W.Fast.tw3195379836796144778 : Unit := ()
def PySem.W.Fast.tw16013591640877403947 : Unit := ()
def PySem.W.Fast.tw7006226613474381358 : Unit := ()
def PySem.W.Fast.tw13733188953264314536 : Unit := ()
def PySem.W.Fast.tw9707142226518716571 : Unit := ()
def PySem.W.Fast.tw9410589465091004065 : Unit := ()
def PySem.W.Fast.tw11371345247253543414 : Unit := ()
def PySem.W.Fast.tw4134290067392681219 : Unit := ()
def PySem.W.Fast.tw15066475458572877733 : Unit := ()
def PySem.W.Fast.tw8316839253653697284 : Unit := ()
def PySem.W.Fast.tw12399487918386919704 : Unit := ()
def PySem.W.Fast.tw18233371957741719401 : Unit := ()
def PySem.W.Fast.tw8810394491303856712 : Unit := ()
def PySem.W.Fast.tw13451717704479786570 : Unit := ()
def PySem.W.Fast.tw5077904458556619527 : Unit := ()
def PySem.W.Fast.tw7788867254954133396 : Unit := ()
def PySem.W.Fast.tw3896977310720745433 : Unit := ()
def PySem.W.Fast.tw1181674673749383079 : Unit := ()
def PySem.W.Fast.tw5852433330654579540 : Unit := ()
def PySem.W.Fast.tw5077327155815135758 : Unit := ()
def PySem.W.Fast.tw6911277261861320670 : Unit := ()
def PySem.W.Fast.tw2291173157850576736 : Unit := ()
def PySem.W.Fast.tw9904056339951718939 : Unit := ()
def PySem.W.Fast.tw8379560464667866431 : Unit := ()
def PySem.W.Fast.tw8838019200504925298 : Unit := ()
def PySem.W.Fast.tw12559304744556792459 : Unit := ()
def PySem.W.Fast.tw1532441223199691627 : Unit := ()
def PySem.W.Fast.tw5489947116264562679 : Unit := ()
def PySem.W.Fast.tw15150222804626017213 : Unit := ()
def PySem.W.Fast.tw13017517609406074231 : Unit := ()
def PySem.W.Fast.tw9606607934741903101 : Unit := ()
def PySem.W.Fast.tw1542426214953118439 : Unit := ()
def PySem.W.Fast.tw6576268775874112002 : Unit := ()
def PySem.W.Fast.tw15085789238316109703 : Unit := ()
def PySem.W.Fast.tw15284134533095263340 : Unit := ()
def PySem.W.Fast.tw13680518704385633807 : Unit := ()
def PySem.W.Fast.tw6869022168847147038 : Unit := ()
def PySem.W.Fast.tw14379066534764442089 : Unit := ()
def PySem.W.Fast.tw4508541399493214648 : Unit := ()
def PySem.W.Fast.tw15663035860185518159 : Unit := ()
def PySem.W.Fast.tw8335600290611927271 : Unit := ()
def PySem.W.Fast.tw11464973360961815178 : Unit := ()
def PySem.W.Fast.tw15315389335439038273 : Unit := ()
def PySem.W.Fast.tw10648027448744607888 : Unit := ()
def PySem.W.Fast.tw16100050166900323784 : Unit := ()
def PySem.W.Fast.tw1533331434509783959 : Unit := ()
def PySem.W.Fast.tw14018426502185466358 : Unit := ()
def PySem.W.Fast.tw14618498465443589208 : Unit := ()
def PySem.W.Fast.tw11459155436480345817 : Unit := ()
def PySem.W.Fast.tw1639272531481494843 : Unit := ()
def PySem.W.Fast.tw4769214342844496647 : Unit := ()
def PySem.W.Fast.tw12644504019478253517 : Unit := ()
def PySem.W.Fast.tw1493509690606803542 : Unit := ()
def PySem.W.Fast.tw3998433411581285745 : Unit := ()
def PySem.W.Fast.tw6632676134031500251 : Unit := ()
def PySem.W.Fast.tw11340419476774662356 : Unit := ()
def PySem.W.Fast.tw12806138130728038025 : Unit := ()
def PySem.W.Fast.tw507285031239099339 : Unit := ()
def PySem.W.Fast.tw16950883778893664078 : Unit := ()
def PySem.W.Fast.tw10533803981762082872 : Unit := ()
def PySem.W.Fast.tw5089523700687041446 : Unit := ()
def PySem.W.Fast.tw10117421404979314971 : Unit := ()
def PySem.W.Fast.tw9227804822124588544 : Unit := ()
def PySem.W.Fast.tw4487860323162818444 : Unit := ()
def PySem.W.Fast.tw5514495179352653556 : Unit := ()
def PySem.W.Fast.tw13090535960793457760 : Unit := ()
def PySem.W.Fast.tw6396314008059332093 : Unit := ()
def PySem.W.Fast.tw6048775464102468833 : Unit := ()
def PySem.W.Fast.tw4429338343180409485 : Unit := ()
def PySem.W.Fast.tw8075902646803927533 : Unit := ()
def PySem.W.Fast.tw7262568639370629842 : Unit := ()
def PySem.W.Fast.tw15903640187563303883 : Unit := ()
def PySem.W.Fast.tw13497339940912251612 : Unit := ()
def PySem.W.Fast.tw6908389918658001096 : Unit := ()
def PySem.W.Fast.tw14312893305301004572 : Unit := ()
def PySem.W.Fast.tw15069943604722458678 : Unit := ()
def PySem.W.Fast.tw5061130784688956644 : Unit := ()
def PySem.W.Fast.tw12550115719144229421 : Unit := ()
def PySem.W.Fast.tw12224242056610428197 : Unit := ()
def PySem.W.Fast.tw5253886978018733778 : Unit := ()
def PySem.W.Fast.tw12247932123423084695 : Unit := ()
def PySem.W.Fast.tw11997736546606125673 : Unit := ()
def PySem.W.Fast.tw2284832984792055852 : Unit := ()
def PySem.W.Fast.tw16124376092452966637 : Unit := ()
def PySem.W.Fast.tw12541990602722299370 : Unit := ()
def PySem.W.Fast.tw13835337532035293111 : Unit := ()
def PySem.W.Fast.tw7677695190739023731 : Unit := ()
def PySem.W.Fast.tw5363126002788587713 : Unit := ()
def PySem.W.Fast.tw8637305442603529657 : Unit := ()
def PySem.W.Fast.tw4328055999759551293 : Unit := ()
def PySem.W.Fast.tw15227122204089361035 : Unit := ()
def PySem.W.Fast.tw15711394333369518655 : Unit := ()
def PySem.W.Fast.tw12849660366448072413 : Unit := ()
def PySem.W.Fast.tw12731096707124572334 : Unit := ()
def PySem.W.Fast.tw1214138547478205438 : Unit := ()
def PySem.W.Fast.tw601718833853232276 : Unit := ()
def PySem.W.Fast.tw1857953564683134226 : Unit := ()
def PySem.W.Fast.tw1258142363328515235 : Unit := ()
def PySem.W.Fast.tw1670123365151855008 : Unit := ()
def PySem.W.Fast.tw15448232177495525609 : Unit := ()
def PySem.W.Fast.tw17251680798122305372 : Unit := ()
def PySem.W.Fast.tw11332720179138747947 : Unit := ()
def PySem.W.Fast.tw4385395571612374955 : Unit := ()
def PySem.W.Fast.tw13523645334340988735 : Unit := ()
def PySem.W.Fast.tw4917212177004738390 : Unit := ()
def PySem.W.Fast.tw2796488145256585871 : Unit := ()
def PySem.W.Fast.tw9055445913421144284 : Unit := ()
def PySem.W.Fast.tw8642326151784627968 : Unit := ()
def PySem.W.Fast.tw12745363192427811410 : Unit := ()
def PySem.W.Fast.tw11161082125353376595 : Unit := ()
def PySem.W.Fast.tw6385731466852475027 : Unit := ()
def PySem.W.Fast.tw8004326212010491497 : Unit := ()
def PySem.W.Fast.tw3793544111659176946 : Unit := ()
def PySem.W.Fast.tw3000785770827206616 : Unit := ()
def PySem.W.Fast.tw3638618933800860204 : Unit := ()
def PySem.W.Fast.tw12563335811418377902 : Unit := ()
def PySem.W.Fast.tw6858204958375183747 : Unit := ()
def PySem.W.Fast.tw12276664869873064675 : Unit := ()
def PySem.W.Fast.tw10749506610384988297 : Unit := ()
def PySem.W.Fast.tw3968612543158150554 : Unit := ()
def PySem.W.Fast.tw5208365258144266435 : Unit := ()
def PySem.W.Fast.tw15384258957877339709 : Unit := ()
def PySem.W.Fast.tw11076737787620097487 : Unit := ()
def PySem.W.Fast.tw2434976147477828990 : Unit := ()
def PySem.W.Fast.tw395027335575285649 : Unit := ()
def PySem.W.Fast.tw10061492022619397543 : Unit := ()
def PySem.W.Fast.tw15654362740906054249 : Unit := ()
def PySem.W.Fast.tw3544087948786744511 : Unit := ()
def PySem.W.Fast.tw18343982491973274216 : Unit := ()
def PySem.W.Fast.tw7608417302152590330 : Unit := ()
def PySem.W.Fast.tw10551406652878461864 : Unit := ()
def PySem.W.Fast.tw9495369952807339427 : Unit := ()
def PySem.W.Fast.tw14963518457351426245 : Unit := ()
def PySem.W.Fast.tw14231735126324563416 : Unit := ()
def PySem.W.Fast.tw7563664430324554618 : Unit := ()
def PySem.W.Fast.tw8377235014669796687 : Unit := ()
def PySem.W.Fast.tw2089493554493293175 : Unit := ()
def PySem.W.Fast.tw11463406111432078790 : Unit := ()
def PySem.W.Fast.tw7698459042680115352 : Unit := ()
def PySem.W.Fast.tw275459318897958943 : Unit := ()
def PySem.W.Fast.tw11484844739318504655 : Unit := ()
def PySem.W.Fast.tw13483883377698362672 : Unit := ()
def PySem.W.Fast.tw1127403860171198834 : Unit := ()
def PySem.W.Fast.tw3162501985291421056 : Unit := ()
def PySem.W.Fast.tw1260019345942819384 : Unit := ()
def PySem.W.Fast.tw14726914258778926362 : Unit := ()
def PySem.W.Fast.tw8874397051233930715 : Unit := ()
def PySem.W.Fast.tw16774483352129864735 : Unit := ()
def PySem.W.Fast.tw2894545748860387224 : Unit := ()
def PySem.W.Fast.tw17784679408639605003 : Unit := ()
def PySem.W.Fast.tw494319450966095523 : Unit := ()
def PySem.W.Fast.tw2664595191602875012 : Unit := ()
def PySem.W.Fast.tw11370577870734627010 : Unit := ()
def PySem.W.Fast.tw8782325976803152754 : Unit := ()
def PySem.W.Fast.tw14369050429539368962 : Unit := ()
def PySem.W.Fast.tw7297471270313526720 : Unit := ()
def PySem.W.Fast.tw6181136205039108471 : Unit := ()
def PySem.W.Fast.tw16822600991860844194 : Unit := ()
def PySem.W.Fast.tw2997144588133969428 : Unit := ()
def PySem.W.Fast.tw14546088825085895584 : Unit := ()
def PySem.W.Fast.tw14211057086299917379 : Unit := ()
def PySem.W.Fast.tw32716157688070898 : Unit := ()
def PySem.W.Fast.tw9681229562769982172 : Unit := ()
def PySem.W.Fast.tw8995330434876834881 : Unit := ()
def PySem.W.Fast.tw8273743633752455203 : Unit := ()
def PySem.W.Fast.tw2817510482586972250 : Unit := ()
def PySem.W.Fast.tw775174604500069803 : Unit := ()
def PySem.W.Fast.tw4868296893021314320 : Unit := ()
def PySem.W.Fast.tw4070533666639002331 : Unit := ()
def PySem.W.Fast.tw11588301594759672032 : Unit := ()
def PySem.W.Fast.tw17059057197853564455 : Unit := ()
def PySem.W.Fast.tw16365522384044834746 : Unit := ()
def PySem.W.Fast.tw403258532689074721 : Unit := ()
def PySem.W.Fast.tw668101573856327091 : Unit := ()
def PySem.W.Fast.tw431214712683658315 : Unit := ()
def PySem.W.Fast.tw9249270919329339030 : Unit := ()
def PySem.W.Fast.tw14970328302302988242 : Unit := ()
def PySem.W.Fast.tw12718589325000549780 : Unit := ()
def PySem.W.Fast.tw17106207641722710712 : Unit := ()
def PySem.W.Fast.tw12117379317271016392 : Unit := ()
def PySem.W.Fast.tw17896033377844874289 : Unit := ()
def PySem.W.Fast.tw11867393944147634775 : Unit := ()
def PySem.W.Fast.tw6698445188934446746 : Unit := ()
def PySem.W.Fast.tw2713814780475121408 : Unit := ()
def PySem.W.Fast.tw10085406857089033488 : Unit := ()
def PySem.W.Fast.tw11675566123265268831 : Unit := ()
def PySem.W.Fast.tw16024782141942057634 : Unit := ()
def PySem.W.Fast.tw643559763540819064 : Unit := ()
def PySem.W.Fast.tw11191249098364495812 : Unit := ()
def PySem.W.Fast.tw14476362404863091128 : Unit := ()
def PySem.W.Fast.tw4510354166954314638 : Unit := ()
def PySem.W.Fast.tw2621434811628037161 : Unit := ()
def PySem.W.Fast.tw6189926076011161062 : Unit := ()
def PySem.W.Fast.tw6276137152462947868 : Unit := ()
def PySem.W.Fast.tw8784672621133551501 : Unit := ()
def PySem.W.Fast.tw14561810810762416062 : Unit := ()
def PySem.W.Fast.tw13977893909547827584 : Unit := ()
def PySem.W.Fast.tw951105283830657354 : Unit := ()
def PySem.W.Fast.tw17830324927525961712 : Unit := ()
def PySem.W.Fast.tw10856945328923135054 : Unit := ()
def PySem.W.Fast.tw6652643232251954593 : Unit := ()
def PySem.W.Fast.tw18366734163364697262 : Unit := ()
def PySem.W.Fast.tw10420108892436497025 : Unit := ()
def PySem.W.Fast.tw11290644752241993580 : Unit := ()
def PySem.W.Fast.tw948941301979323537 : Unit := ()
def PySem.W.Fast.tw2583007420305641150 : Unit := ()
def PySem.W.Fast.tw5361571382838918653 : Unit := ()
def PySem.W.Fast.tw7134601948743692183 : Unit := ()
def PySem.W.Fast.tw182433260976890913 : Unit := ()
def PySem.W.Fast.tw17184741677921058761 : Unit := ()
def PySem.W.Fast.tw14331609742998704033 : Unit := ()
def PySem.W.Fast.tw7746782933403941410 : Unit := ()
def PySem.W.Fast.tw8397269796955221936 : Unit := ()
def PySem.W.Fast.tw15911871972870588378 : Unit := ()
def PySem.W.Fast.tw9632753362058970315 : Unit := ()
def PySem.W.Fast.tw7403834059721835064 : Unit := ()
def PySem.W.Fast.tw14552459535359800557 : Unit := ()
def PySem.W.Fast.tw2364367751560448389 : Unit := ()
def PySem.W.Fast.tw14373499434382441099 : Unit := ()
def PySem.W.Fast.tw4324800809032431668 : Unit := ()
def PySem.W.Fast.tw17518242772960155647 : Unit := ()
def PySem.W.Fast.tw1414733483218976364 : Unit := ()
def PySem.W.Fast.tw14722704506745357783 : Unit := ()
def PySem.W.Fast.tw11474080217324068325 : Unit := ()
def PySem.W.Fast.tw5495363575891022736 : Unit := ()
def PySem.W.Fast.tw17919826451551949504 : Unit := ()
def PySem.W.Fast.tw8575925974475611283 : Unit := ()
def PySem.W.Fast.tw7733023088682356374 : Unit := ()
def PySem.W.Fast.tw8956394518433831176 : Unit := ()
def PySem.W.Fast.tw13824409685371194548 : Unit := ()
def PySem.W.Fast.tw17004736123256809871 : Unit := ()
def PySem.W.Fast.tw17367986079411538620 : Unit := ()
def PySem.W.Fast.tw18230506312009019037 : Unit := ()
def PySem.W.Fast.tw17228106654121132554 : Unit := ()
def PySem.W.Fast.tw4869038709766123753 : Unit := ()
def PySem.W.Fast.tw16427261977578141182 : Unit := ()
def PySem.W.Fast.tw12185202564688616905 : Unit := ()
def PySem.W.Fast.tw204922438670355409 : Unit := ()
def PySem.W.Fast.tw5559341522066422881 : Unit := ()
def PySem.W.Fast.tw11846164923199531754 : Unit := ()
def PySem.W.Fast.tw14480067405331061552 : Unit := ()
def PySem.W.Fast.tw2347175452882264782 : Unit := ()
def PySem.W.Fast.tw2802566558332096741 : Unit := ()
def PySem.W.Fast.tw18097361600252795627 : Unit := ()
def PySem.W.Fast.tw6313337535559778590 : Unit := ()
def PySem.W.Fast.tw14141658341231007299 : Unit := ()
def PySem.W.Fast.tw6842736334354335442 : Unit := ()
def PySem.W.Fast.tw10360323758422385273 : Unit := ()
def PySem.W.Fast.tw1736492477028934749 : Unit := ()
def PySem.W.Fast.tw3677533686742631216 : Unit := ()
def PySem.W.Fast.tw16388133793292181772 : Unit := ()
def PySem.W.Fast.tw2381967407652120947 : Unit := ()
def PySem.W.Fast.tw2526929715538477270 : Unit := ()
def PySem.W.Fast.tw13490884692351664244 : Unit := ()
def PySem.W.Fast.tw12156074825090979189 : Unit := ()
def PySem.W.Fast.tw11055826121663692827 : Unit := ()
def PySem.W.Fast.tw10177103133705100310 : Unit := ()
def PySem.W.Fast.tw17927683095291735163 : Unit := ()
def PySem.W.Fast.tw1008822278166687382 : Unit := ()
def PySem.W.Fast.tw7153967447609244509 : Unit := ()
def PySem.W.Fast.tw7079977374289790886 : Unit := ()
def PySem.W.Fast.tw5197583093049672725 : Unit := ()
def PySem.W.Fast.tw17728233396112784574 : Unit := ()
def PySem.W.Fast.tw827308458094902696 : Unit := ()
def PySem.W.Fast.tw15436072652719690033 : Unit := ()
def PySem.W.Fast.tw6863744927081530264 : Unit := ()
def PySem.W.Fast.tw10883344136979673387 : Unit := ()
def PySem.W.Fast.tw10143583134963284540 : Unit := ()
def PySem.W.Fast.tw14092117567144009639 : Unit := ()
def PySem.W.Fast.tw11462758515699212138 : Unit := ()
def PySem.W.Fast.tw15487350307114118627 : Unit := ()
def PySem.W.Fast.tw13928397949342545457 : Unit := ()
def PySem.W.Fast.tw7633171295875415150 : Unit := ()
def PySem.W.Fast.tw767790497731526978 : Unit := ()
def PySem.W.Fast.tw2501572573630286977 : Unit := ()
def PySem.W.Fast.tw7249265704372821686 : Unit := ()
def PySem.W.Fast.tw6068519053278758468 : Unit := ()
def PySem.W.Fast.tw4537214807376751358 : Unit := ()
def PySem.W.Fast.tw2804099097796938617 : Unit := ()
def PySem.W.Fast.tw17942626921498565565 : Unit := ()
def PySem.W.Fast.tw17434208630746189406 : Unit := ()
def PySem.W.Fast.tw14822456885960687717 : Unit := ()
def PySem.W.Fast.tw15568026379480193867 : Unit := ()
def PySem.W.Fast.tw9560130499691164441 : Unit := ()
def PySem.W.Fast.tw7929698487183594746 : Unit := ()
def PySem.W.Fast.tw18033585969554458452 : Unit := ()
def PySem.W.Fast.tw14154406199459124884 : Unit := ()
def PySem.W.Fast.tw4517791923928227930 : Unit := ()
def PySem.W.Fast.tw18409376752036878749 : Unit := ()
def PySem.W.Fast.tw14411684070413617060 : Unit := ()
def PySem.W.Fast.tw3488744568235146216 : Unit := ()
def PySem.W.Fast.tw14096630157085374647 : Unit := ()
def PySem.W.Fast.tw14438880785868140789 : Unit := ()
def PySem.W.Fast.tw13870940931006735879 : Unit := ()
def PySem.W.Fast.tw16023745615654758229 : Unit := ()
def PySem.W.Fast.tw15185358614302613774 : Unit := ()
def PySem.W.Fast.tw15992039189411109293 : Unit := ()
def PySem.W.Fast.tw1364875578344836210 : Unit := ()
def PySem.W.Fast.tw17923439188026261589 : Unit := ()
def PySem.W.Fast.tw653555876404542033 : Unit := ()
def PySem.W.Fast.tw12474217573939387216 : Unit := ()
def PySem.W.Fast.tw18245868342525088217 : Unit := ()
def PySem.W.Fast.tw5481952579407979914 : Unit := ()
def PySem.W.Fast.tw17385316057116370442 : Unit := ()
def PySem.W.Fast.tw5154715910412348625 : Unit := ()
def PySem.W.Fast.tw4474925101861594070 : Unit := ()
def PySem.W.Fast.tw9693742934199392339 : Unit := ()
def PySem.W.Fast.tw17470574739082408601 : Unit := ()
def PySem.W.Fast.tw11800977647495872505 : Unit := ()
def PySem.W.Fast.tw1701827523340577042 : Unit := ()
def PySem.W.Fast.tw97238771540436656 : Unit := ()
def PySem.W.Fast.tw16417915981604785953 : Unit := ()
def PySem.W.Fast.tw2615240570881705965 : Unit := ()
def PySem.W.Fast.tw6101878213026276212 : Unit := ()
def PySem.W.Fast.tw1130280720961701452 : Unit := ()
def PySem.W.Fast.tw11641024779342903075 : Unit := ()
def PySem.W.Fast.tw14638203825363201755 : Unit := ()
def PySem.W.Fast.tw3021372618017353596 : Unit := ()
def PySem.W.Fast.tw9368560959045009129 : Unit := ()
def PySem.W.Fast.tw16380191244932692930 : Unit := ()
def PySem.W.Fast.tw1530399088806915119 : Unit := ()
def PySem.W.Fast.tw16345568572858061352 : Unit := ()
def PySem.W.Fast.tw2382700726058178156 : Unit := ()
def PySem.W.Fast.tw8562665889642800988 : Unit := ()
def PySem.W.Fast.tw12176035316059894154 : Unit := ()
def PySem.W.Fast.tw12737428610630092410 : Unit := ()
def PySem.W.Fast.tw7507800825185591993 : Unit := ()
def PySem.W.Fast.tw6472525743611069086 : Unit := ()
def PySem.W.Fast.tw17579103925133473758 : Unit := ()
def PySem.W.Fast.tw4894399337512745802 : Unit := ()
def PySem.W.Fast.tw3938173161385032035 : Unit := ()
def PySem.W.Fast.tw2433420260629229207 : Unit := ()
def PySem.W.Fast.tw4763061347543644749 : Unit := ()
def PySem.W.Fast.tw5595016540762224688 : Unit := ()
def PySem.W.Fast.tw5414445876035331890 : Unit := ()
def PySem.W.Fast.tw15705484814726195696 : Unit := ()
def PySem.W.Fast.tw12445621616556593332 : Unit := ()
def PySem.W.Fast.tw10663869318340571181 : Unit := ()
def PySem.W.Fast.tw12657913713972578594 : Unit := ()
def PySem.W.Fast.tw3898795714027361875 : Unit := ()
def PySem.W.Fast.tw9449538248118081527 : Unit := ()
def PySem.W.Fast.tw16564511224206814438 : Unit := ()
def PySem.W.Fast.tw6649458646271594294 : Unit := ()
def PySem.W.Fast.tw12977326815451998452 : Unit := ()
def PySem.W.Fast.tw5844724467910993975 : Unit := ()
def PySem.W.Fast.tw566234261558981827 : Unit := ()
def PySem.W.Fast.tw7192190429439088876 : Unit := ()
def PySem.W.Fast.tw12849505330084551015 : Unit := ()
def PySem.W.Fast.tw8111288627055393258 : Unit := ()
def PySem.W.Fast.tw12895503251456351709 : Unit := ()
def PySem.W.Fast.tw1674661714105937011 : Unit := ()
def PySem.W.Fast.tw16796943367799840805 : Unit := ()
def PySem.W.Fast.tw8623193665427431278 : Unit := ()
def PySem.W.Fast.tw3053448351910585830 : Unit := ()
def PySem.W.Fast.tw4062976916395031763 : Unit := ()
def PySem.W.Fast.tw16920913707856101816 : Unit := ()
def PySem.W.Fast.tw11774434627143083911 : Unit := ()
def PySem.W.Fast.tw6586717656572635716 : Unit := ()
def PySem.W.Fast.tw1749263903599613897 : Unit := ()
def PySem.W.Fast.tw15185696822013007677 : Unit := ()
def PySem.W.Fast.tw609018825987559204 : Unit := ()
def PySem.W.Fast.tw99266762846805359 : Unit := ()
def PySem.W.Fast.tw10386001485294051774 : Unit := ()
def PySem.W.Fast.tw3003276637531718231 : Unit := ()
def PySem.W.Fast.tw12144059838567727236 : Unit := ()
def PySem.W.Fast.tw9237169653216447268 : Unit := ()
def PySem.W.Fast.tw4838268335076389198 : Unit := ()
def PySem.W.Fast.tw17377628818644778664 : Unit := ()
def PySem.W.Fast.tw10699928641043515254 : Unit := ()
def PySem.W.Fast.tw5545992104571438455 : Unit := ()
def PySem.W.Fast.tw14976688633632228505 : Unit := ()
def PySem.W.Fast.tw11538410177603605620 : Unit := ()
def PySem.W.Fast.tw15293080926883783936 : Unit := ()
def PySem.W.Fast.tw3685978047268988916 : Unit := ()
def PySem.W.Fast.tw3954759383122984642 : Unit := ()
def PySem.W.Fast.tw8430175596705237836 : Unit := ()
def PySem.W.Fast.tw16914711595374749844 : Unit := ()
def PySem.W.Fast.tw10456491101976842904 : Unit := ()
def PySem.W.Fast.tw12559464924522940938 : Unit := ()
def PySem.W.Fast.tw10820970611305545498 : Unit := ()
def PySem.W.Fast.tw2627224264929929840 : Unit := ()
def PySem.W.Fast.tw14762428279793679128 : Unit := ()
def PySem.W.Fast.tw8072524720434697574 : Unit := ()
def PySem.W.Fast.tw1340385659396756179 : Unit := ()
def PySem.W.Fast.tw14373443550790068854 : Unit := ()
def PySem.W.Fast.tw9129497872312652009 : Unit := ()
def PySem.W.Fast.tw9836985556143300439 : Unit := ()
def PySem.W.Fast.tw519936937675791630 : Unit := ()
def PySem.W.Fast.tw8666021432351855599 : Unit := ()
def PySem.W.Fast.tw9921103222629725899 : Unit := ()
def PySem.W.Fast.tw11685472991958719573 : Unit := ()
def PySem.W.Fast.tw11172375054559996457 : Unit := ()
def PySem.W.Fast.tw9979810915721842665 : Unit := ()
def PySem.W.Fast.tw7435559822236457566 : Unit := ()
def PySem.W.Fast.tw15174442269802270982 : Unit := ()
def PySem.W.Fast.tw3231098355061657878 : Unit := ()
def PySem.W.Fast.tw8242331582964700889 : Unit := ()
def PySem.W.Fast.tw14258898596769349632 : Unit := ()
def PySem.W.Fast.tw8328471347195599623 : Unit := ()
def PySem.W.Fast.tw11924521349169162697 : Unit := ()
def PySem.W.Fast.tw333049016790650777 : Unit := ()
def PySem.W.Fast.tw1845869385646868224 : Unit := ()
def PySem.W.Fast.tw5548007862384634816 : Unit := ()
def PySem.W.Fast.tw11247876261276344125 : Unit := ()
def PySem.W.Fast.tw8571097061332355815 : Unit := ()
def PySem.W.Fast.tw2850051733739545353 : Unit := ()
def PySem.W.Fast.tw5333389399598621717 : Unit := ()
def PySem.W.Fast.tw9779377282660214732 : Unit := ()
def PySem.W.Fast.tw14283587641390498176 : Unit := ()
def PySem.W.Fast.tw10380827471111478740 : Unit := ()
def PySem.W.Fast.tw14654270283422654855 : Unit := ()
def PySem.W.Fast.tw16566823507086009753 : Unit := ()
def PySem.W.Fast.tw3225497482708502815 : Unit := ()
def PySem.W.Fast.tw11799748234620013330 : Unit := ()
def PySem.W.Fast.tw2204547025588693925 : Unit := ()
def PySem.W.Fast.tw6267435085989929085 : Unit := ()
def PySem.W.Fast.tw2349177744409755841 : Unit := ()
def PySem.W.Fast.tw12536827603025750902 : Unit := ()
def PySem.W.Fast.tw13500070456546619281 : Unit := ()
def PySem.W.Fast.tw11746003816658235518 : Unit := ()
def PySem.W.Fast.tw14288150246428953419 : Unit := ()
def PySem.W.Fast.tw18358556124298784395 : Unit := ()
def PySem.W.Fast.tw3874880543565854316 : Unit := ()
def PySem.W.Fast.tw1544909650422952267 : Unit := ()
def PySem.W.Fast.tw796858051505513415 : Unit := ()
def PySem.W.Fast.tw13415776851766776105 : Unit := ()
def PySem.W.Fast.tw11243665144078986985 : Unit := ()
def PySem.W.Fast.tw10450406966007847838 : Unit := ()
def PySem.W.Fast.tw13184784668312458126 : Unit := ()
def PySem.W.Fast.tw15292599233749311030 : Unit := ()
def PySem.W.Fast.tw12927055866660495670 : Unit := ()
def PySem.W.Fast.tw11862222591702163641 : Unit := ()
def PySem.W.Fast.tw18370768793358741995 : Unit := ()
def PySem.W.Fast.tw16599494251873534401 : Unit := ()
def PySem.W.Fast.tw7844281613575526867 : Unit := ()
def PySem.W.Fast.tw2172257567144585974 : Unit := ()
def PySem.W.Fast.tw16827484787113318206 : Unit := ()
def PySem.W.Fast.tw9432938496535906841 : Unit := ()
def PySem.W.Fast.tw4674801858740314937 : Unit := ()
def PySem.W.Fast.tw13341254971773145395 : Unit := ()
def PySem.W.Fast.tw17380646523375744414 : Unit := ()
def PySem.W.Fast.tw3684701596518557804 : Unit := ()
def PySem.W.Fast.tw1778041212440166272 : Unit := ()
def PySem.W.Fast.tw8409266442415193994 : Unit := ()
def PySem.W.Fast.tw16558402940607639868 : Unit := ()
def PySem.W.Fast.tw13988176206505231701 : Unit := ()
def PySem.W.Fast.tw18356574964589927249 : Unit := ()
def PySem.W.Fast.tw10313517209186896771 : Unit := ()
def PySem.W.Fast.tw8556562114845126152 : Unit := ()
def PySem.W.Fast.tw17069241720487471781 : Unit := ()
def PySem.W.Fast.tw1007882830673985636 : Unit := ()
def PySem.W.Fast.tw7861588534113064610 : Unit := ()
def PySem.W.Fast.tw7526758178334299998 : Unit := ()
def PySem.W.Fast.tw3537389138104189687 : Unit := ()
def PySem.W.Fast.tw1307845921115168230 : Unit := ()
def PySem.W.Fast.tw5297496611805373862 : Unit := ()
def PySem.W.Fast.tw10920530097164535069 : Unit := ()
def PySem.W.Fast.tw13917772955103062206 : Unit := ()
def PySem.W.Fast.tw1198911863907372439 : Unit := ()
def PySem.W.Fast.tw15794034183955104212 : Unit := ()
def PySem.W.Fast.tw5150734815921997247 : Unit := ()
def PySem.W.Fast.tw13590845140905608676 : Unit := ()
def PySem.W.Fast.tw4909345647397393687 : Unit := ()
def PySem.W.Fast.tw10135035045844389352 : Unit := ()
def PySem.W.Fast.tw4126929963049895823 : Unit := ()
def PySem.W.Fast.tw8823045561811131309 : Unit := ()
def PySem.W.Fast.tw9656155837811388688 : Unit := ()
def PySem.W.Fast.tw2675793374796318923 : Unit := ()
def PySem.W.Fast.tw12087050865494426436 : Unit := ()
def PySem.W.Fast.tw11058490183029395429 : Unit := ()
def PySem.W.Fast.tw932204887603375338 : Unit := ()
def PySem.W.Fast.tw9967815914257161626 : Unit := ()
def PySem.W.Fast.tw13674533441510417997 : Unit := ()
def PySem.W.Fast.tw15036383994930968358 : Unit := ()
def PySem.W.Fast.tw7508068137103968928 : Unit := ()
def PySem.W.Fast.tw11562418193399618170 : Unit := ()
def PySem.W.Fast.tw5235629098368260830 : Unit := ()
def PySem.W.Fast.tw13447987946498337446 : Unit := ()
def PySem.W.Fast.tw5471375243729127150 : Unit := ()
def PySem.W.Fast.tw17465596636787319532 : Unit := ()
def PySem.W.Fast.tw9186958818076826061 : Unit := ()
def PySem.W.Fast.tw3513817465562165650 : Unit := ()
def PySem.W.Fast.tw7868189769842786938 : Unit := ()
def PySem.W.Fast.tw6169641491642124935 : Unit := ()
def PySem.W.Fast.tw960332175553015081 : Unit := ()
def PySem.W.Fast.tw6994811564386959206 : Unit := ()
def PySem.W.Fast.tw18043766309565508430 : Unit := ()
def PySem.W.Fast.tw15908393862340040483 : Unit := ()
def PySem.W.Fast.tw12247370263332790907 : Unit := ()
def PySem.W.Fast.tw17445062801912040905 : Unit := ()
def PySem.W.Fast.tw2488816484690011070 : Unit := ()
def PySem.W.Fast.tw11234174066402233840 : Unit := ()
def PySem.W.Fast.tw12723837533504586061 : Unit := ()
def PySem.W.Fast.tw7657668749745572262 : Unit := ()
def PySem.W.Fast.tw18144110395140985434 : Unit := ()
def PySem.W.Fast.tw13020086889161719535 : Unit := ()
def PySem.W.Fast.tw1707527631735471647 : Unit := ()
def PySem.W.Fast.tw10871883118375352123 : Unit := ()
def PySem.W.Fast.tw16900619723247649477 : Unit := ()
def PySem.W.Fast.tw4042131974024417411 : Unit := ()
def PySem.W.Fast.tw179962629686901542 : Unit := ()
def PySem.W.Fast.tw15304976818841553409 : Unit := ()
def PySem.W.Fast.tw14427515748513245614 : Unit := ()
def PySem.W.Fast.tw6471707020879321855 : Unit := ()
def PySem.W.Fast.tw17774726997522774026 : Unit := ()
def PySem.W.Fast.tw9074949167033466742 : Unit := ()
def PySem.W.Fast.tw9622262894096849914 : Unit := ()
def PySem.W.Fast.tw1222448433173205216 : Unit := ()
def PySem.W.Fast.tw2523503533609194457 : Unit := ()
def PySem.W.Fast.tw17062259752192614338 : Unit := ()
def PySem.W.Fast.tw9485362334611019796 : Unit := ()
def PySem.W.Fast.tw7844907773272593641 : Unit := ()
def PySem.W.Fast.tw680177727790961953 : Unit := ()
def PySem.W.Fast.tw1671472844997927334 : Unit := ()
def PySem.W.Fast.tw11579453235464983280 : Unit := ()
def PySem.W.Fast.tw9228712531654174783 : Unit := ()
def PySem.W.Fast.tw15146705334257716501 : Unit := ()
def PySem.W.Fast.tw2788678435820842487 : Unit := ()
def PySem.W.Fast.tw11378594167411028102 : Unit := ()
def PySem.W.Fast.tw4141972401321781292 : Unit := ()
def PySem.W.Fast.tw10942856886327728755 : Unit := ()
def PySem.W.Fast.tw1442936919781070119 : Unit := ()
def PySem.W.Fast.tw1721672321072292961 : Unit := ()
def PySem.W.Fast.tw9694001444806818581 : Unit := ()
def PySem.W.Fast.tw6008696598482149696 : Unit := ()
def PySem.W.Fast.tw3759289762243815866 : Unit := ()
def PySem.W.Fast.tw14419930387491554809 : Unit := ()
def PySem.W.Fast.tw4052780294004905534 : Unit := ()
def PySem.W.Fast.tw10317487511215210831 : Unit := ()
def PySem.W.Fast.tw18226362567937637544 : Unit := ()
def PySem.W.Fast.tw6655339854621811171 : Unit := ()
def PySem.W.Fast.tw7819207490860157481 : Unit := ()
def PySem.W.Fast.tw16042277560035657413 : Unit := ()
def PySem.W.Fast.tw14500858561787617632 : Unit := ()
def PySem.W.Fast.tw6882552780924920010 : Unit := ()
def PySem.W.Fast.tw12814896562433518339 : Unit := ()
def PySem.W.Fast.tw15625414051370127850 : Unit := ()
def PySem.W.Fast.tw15755016094509551211 : Unit := ()
def PySem.W.Fast.tw6236967028175720131 : Unit := ()
def PySem.W.Fast.tw4805460365302986433 : Unit := ()
def PySem.W.Fast.tw15234492957721175315 : Unit := ()
def PySem.W.Fast.tw3889410968862310800 : Unit := ()
def PySem.W.Fast.tw1064836183353882603 : Unit := ()
def PySem.W.Fast.tw5423203025956113505 : Unit := ()
def PySem.W.Fast.tw5332292452058309994 : Unit := ()
def PySem.W.Fast.tw6758976741085673920 : Unit := ()
def PySem.W.Fast.tw13668914754354024078 : Unit := ()
def PySem.W.Fast.tw11855476589552701356 : Unit := ()
def PySem.W.Fast.tw2923846431538218067 : Unit := ()
def PySem.W.Fast.tw8332371014903688883 : Unit := ()
def PySem.W.Fast.tw3213597661313410816 : Unit := ()
def PySem.W.Fast.tw17674183789822819123 : Unit := ()
def PySem.W.Fast.tw13868094848332964285 : Unit := ()
def PySem.W.Fast.tw11224477833234461686 : Unit := ()
def PySem.W.Fast.tw15274304168427121324 : Unit := ()
def PySem.W.Fast.tw10384470989203571422 : Unit := ()
def PySem.W.Fast.tw2049092756883387128 : Unit := ()
def PySem.W.Fast.tw7022756685674400588 : Unit := ()
def PySem.W.Fast.tw16259929403185672284 : Unit := ()
def PySem.W.Fast.tw3061433360999603849 : Unit := ()
def PySem.W.Fast.tw5076307503553146341 : Unit := ()
def PySem.W.Fast.tw16122253423948382594 : Unit := ()
def PySem.W.Fast.tw3598554445652220344 : Unit := ()
def PySem.W.Fast.tw8995802029785790572 : Unit := ()
def PySem.W.Fast.tw1784315155415221324 : Unit := ()
def PySem.W.Fast.tw1429350771824706667 : Unit := ()
def PySem.W.Fast.tw16600081024669121832 : Unit := ()
def PySem.W.Fast.tw11914224085634267134 : Unit := ()
def PySem.W.Fast.tw17914003416794478568 : Unit := ()
def PySem.W.Fast.tw8813076534039923018 : Unit := ()
def PySem.W.Fast.tw15249982880087335697 : Unit := ()
def PySem.W.Fast.tw15466205782679818987 : Unit := ()
def PySem.W.Fast.tw8602937463071185426 : Unit := ()
def PySem.W.Fast.tw1933018105137471498 : Unit := ()
def PySem.W.Fast.tw9628139597386789976 : Unit := ()
def PySem.W.Fast.tw1685970275062915096 : Unit := ()
def PySem.W.Fast.tw18083935098186210418 : Unit := ()
def PySem.W.Fast.tw14633690236403752743 : Unit := ()
def PySem.W.Fast.tw542838358994869315 : Unit := ()
def PySem.W.Fast.tw8081036944436015303 : Unit := ()
def PySem.W.Fast.tw14403459254567484234 : Unit := ()
def PySem.W.Fast.tw15975428724681924240 : Unit := ()
def PySem.W.Fast.tw18409167536434490348 : Unit := ()
def PySem.W.Fast.tw8484275313581752770 : Unit := ()
def PySem.W.Fast.tw5568928429998298228 : Unit := ()
def PySem.W.Fast.tw11520995652969326411 : Unit := ()
def PySem.W.Fast.tw14682945751339459757 : Unit := ()
def PySem.W.Fast.tw9989033410034991830 : Unit := ()
def PySem.W.Fast.tw10486930358304225861 : Unit := ()
def PySem.W.Fast.tw7480890056358962723 : Unit := ()
def PySem.W.Fast.tw11396501428119226936 : Unit := ()
def PySem.W.Fast.tw6309483719873247394 : Unit := ()
def PySem.W.Fast.tw7330350220631151746 : Unit := ()
def PySem.W.Fast.tw17636149164596921895 : Unit := ()
def PySem.W.Fast.tw13712615224745250906 : Unit := ()
def PySem.W.Fast.tw1311445796405714845 : Unit := ()
def PySem.W.Fast.tw15331118605020614030 : Unit := ()
def PySem.W.Fast.tw17147445337610692139 : Unit := ()
def PySem.W.Fast.tw2993659884077651273 : Unit := ()
def PySem.W.Fast.tw1885404343230244729 : Unit := ()
def PySem.W.Fast.tw6020079756617692178 : Unit := ()
def PySem.W.Fast.tw10904015477982842120 : Unit := ()
def PySem.W.Fast.tw11601571765572045126 : Unit := ()
def PySem.W.Fast.tw13937880932722298088 : Unit := ()
def PySem.W.Fast.tw14651255479384780548 : Unit := ()
def PySem.W.Fast.tw12431745915521052634 : Unit := ()
def PySem.W.Fast.tw9557161192105542480 : Unit := ()
def PySem.W.Fast.tw12470083170870596124 : Unit := ()
def PySem.W.Fast.tw15209329681376968680 : Unit := ()
def PySem.W.Fast.tw3465208092338160089 : Unit := ()
def PySem.W.Fast.tw4691547262728791877 : Unit := ()
def PySem.W.Fast.tw17875589341450268801 : Unit := ()
def PySem.W.Fast.tw5812239517698626769 : Unit := ()
def PySem.W.Fast.tw11647256068128327672 : Unit := ()
def PySem.W.Fast.tw4170669050800302989 : Unit := ()
def PySem.W.Fast.tw7481084415395140833 : Unit := ()
def PySem.W.Fast.tw14389271296332040929 : Unit := ()
def PySem.W.Fast.tw3605812558652673406 : Unit := ()
def PySem.W.Fast.tw5752161342434604832 : Unit := ()
def PySem.W.Fast.tw9058897889536043081 : Unit := ()
def PySem.W.Fast.tw13379127362041704185 : Unit := ()
def PySem.W.Fast.tw8123584986175440155 : Unit := ()
def PySem.W.Fast.tw14794495400167754053 : Unit := ()
def PySem.W.Fast.tw2048556268262605290 : Unit := ()
def PySem.W.Fast.tw14034564506456504114 : Unit := ()
def PySem.W.Fast.tw2509149730797865521 : Unit := ()
def PySem.W.Fast.tw14971009748688606070 : Unit := ()
def PySem.W.Fast.tw8118034332648368408 : Unit := ()
def PySem.W.Fast.tw568724970397066508 : Unit := ()
def PySem.W.Fast.tw2245438883006244948 : Unit := ()
def PySem.W.Fast.tw9903820329940194906 : Unit := ()
def PySem.W.Fast.tw1344367170374391386 : Unit := ()
def PySem.W.Fast.tw15540524953496520869 : Unit := ()
def PySem.W.Fast.tw3306862602595042447 : Unit := ()
def PySem.W.Fast.tw13495510779497951731 : Unit := ()
def PySem.W.Fast.tw10672359950329601670 : Unit := ()
def PySem.W.Fast.tw4203785154678787967 : Unit := ()
def PySem.W.Fast.tw11273687300403311826 : Unit := ()
def PySem.W.Fast.tw15895383475665868869 : Unit := ()
def PySem.W.Fast.tw574998886377041378 : Unit := ()
def PySem.W.Fast.tw7451467451193784126 : Unit := ()
def PySem.W.Fast.tw16588072969690506513 : Unit := ()
def PySem.W.Fast.tw9856361904536320719 : Unit := ()
def PySem.W.Fast.tw2869448492742844048 : Unit := ()
def PySem.W.Fast.tw1157679545485084468 : Unit := ()
def PySem.W.Fast.tw13107785643185267328 : Unit := ()
def PySem.W.Fast.tw13193843687361916130 : Unit := ()
def PySem.W.Fast.tw12623220622043912210 : Unit := ()
def PySem.W.Fast.tw7854768431160175066 : Unit := ()
def PySem.W.Fast.tw4132496992120683210 : Unit := ()
def PySem.W.Fast.tw1069773475512159071 : Unit := ()
def PySem.W.Fast.tw9056895497264001186 : Unit := ()
def PySem.W.Fast.tw14580291127387478549 : Unit := ()
def PySem.W.Fast.tw5829687139300111264 : Unit := ()
def PySem.W.Fast.tw2459459133600784553 : Unit := ()
def PySem.W.Fast.tw1432753569356364767 : Unit := ()
def PySem.W.Fast.tw14482954599007796996 : Unit := ()
def PySem.W.Fast.tw14458981259827651751 : Unit := ()
def PySem.W.Fast.tw11201703755382152222 : Unit := ()
def PySem.W.Fast.tw15111621837493613392 : Unit := ()
def PySem.W.Fast.tw16433377145380450339 : Unit := ()
def PySem.W.Fast.tw1987803582621244305 : Unit := ()
def PySem.W.Fast.tw3766310988809376229 : Unit := ()
def PySem.W.Fast.tw4736894131678338518 : Unit := ()
def PySem.W.Fast.tw4235251413691356433 : Unit := ()
def PySem.W.Fast.tw11824934115862963060 : Unit := ()
def PySem.W.Fast.tw9315127408368612041 : Unit := ()
def PySem.W.Fast.tw17534545778686534726 : Unit := ()
def PySem.W.Fast.tw6569944899343086095 : Unit := ()
def PySem.W.Fast.tw226568043177936771 : Unit := ()
def PySem.W.Fast.tw2203452632784457611 : Unit := ()
def PySem.W.Fast.tw107938902965709180 : Unit := ()
def PySem.W.Fast.tw10199387833774450037 : Unit := ()
def PySem.W.Fast.tw766288038103226111 : Unit := ()
def PySem.W.Fast.tw16218383288615995196 : Unit := ()
def PySem.W.Fast.tw2295146830630914124 : Unit := ()
def PySem.W.Fast.tw1484837537576782088 : Unit := ()
def PySem.W.Fast.tw11113951021357980372 : Unit := ()
def PySem.W.Fast.tw8560912607037874670 : Unit := ()
def PySem.W.Fast.tw12377314359511271897 : Unit := ()
def PySem.W.Fast.tw6100525588663240957 : Unit := ()
def PySem.W.Fast.tw11490587807185322492 : Unit := ()
def PySem.W.Fast.tw736790572119783529 : Unit := ()
def PySem.W.Fast.tw9551873692949884568 : Unit := ()
def PySem.W.Fast.tw11023506724743258447 : Unit := ()
def PySem.W.Fast.tw8291934662606287608 : Unit := ()
def PySem.W.Fast.tw11083123475847801624 : Unit := ()
def PySem.W.Fast.tw7907552865734552334 : Unit := ()
def PySem.W.Fast.tw17584601993317415405 : Unit := ()
def PySem.W.Fast.tw15115448237126916373 : Unit := ()
def PySem.W.Fast.tw5244091599745746024 : Unit := ()
def PySem.W.Fast.tw2684737136188439126 : Unit := ()
def PySem.W.Fast.tw8144262970712663099 : Unit := ()
def PySem.W.Fast.tw18402117710641647245 : Unit := ()
def PySem.W.Fast.tw4995529542223505439 : Unit := ()
def PySem.W.Fast.tw6561156674123702432 : Unit := ()
def PySem.W.Fast.tw13359034619204849241 : Unit := ()
def PySem.W.Fast.tw69842727778005445 : Unit := ()
def PySem.W.Fast.tw10481314792841086822 : Unit := ()
def PySem.W.Fast.tw13016440281740484879 : Unit := ()
def PySem.W.Fast.tw15134094823533358638 : Unit := ()
def PySem.W.Fast.tw16032565911334307158 : Unit := ()
def PySem.W.Fast.tw1646127978620774742 : Unit := ()
def PySem.W.Fast.tw17523842102442337211 : Unit := ()
def PySem.W.Fast.tw13102572886815201267 : Unit := ()
def PySem.W.Fast.tw7195632329326833399 : Unit := ()
def PySem.W.Fast.tw4987098484027980472 : Unit := ()
def PySem.W.Fast.tw2386903833164683111 : Unit := ()
def PySem.W.Fast.tw11455168449699543947 : Unit := ()
def PySem.W.Fast.tw15517101311749752717 : Unit := ()
def PySem.W.Fast.tw13221422369542451660 : Unit := ()
def PySem.W.Fast.tw2455313402698119930 : Unit := ()
def PySem.W.Fast.tw17629288544493871027 : Unit := ()
def PySem.W.Fast.tw3048446796706208100 : Unit := ()
def PySem.W.Fast.tw2852925652749157270 : Unit := ()
def PySem.W.Fast.tw846556620952809954 : Unit := ()
def PySem.W.Fast.tw15677256175729359096 : Unit := ()
def PySem.W.Fast.tw8213022419988048729 : Unit := ()
def PySem.W.Fast.tw17188419105233922593 : Unit := ()
def PySem.W.Fast.tw1048851157333106249 : Unit := ()
def PySem.W.Fast.tw14774290807451245967 : Unit := ()
def PySem.W.Fast.tw3024146200198221155 : Unit := ()
def PySem.W.Fast.tw16542141384411122739 : Unit := ()
def PySem.W.Fast.tw15971879596606097058 : Unit := ()
def PySem.W.Fast.tw2986154780575890862 : Unit := ()
def PySem.W.Fast.tw1000984330738017024 : Unit := ()
def PySem.W.Fast.tw16316187168408917492 : Unit := ()
def PySem.W.Fast.tw12842966882970992485 : Unit := ()
def PySem.W.Fast.tw5871451776741848600 : Unit := ()
def PySem.W.Fast.tw13600359274051866350 : Unit := ()
def PySem.W.Fast.tw11559747787817782534 : Unit := ()
def PySem.W.Fast.tw10799278460202851044 : Unit := ()
def PySem.W.Fast.tw13725414438591341312 : Unit := ()
def PySem.W.Fast.tw4926986285743690608 : Unit := ()
def PySem.W.Fast.tw11707625256095672221 : Unit := ()
def PySem.W.Fast.tw15342682612181031156 : Unit := ()
def PySem.W.Fast.tw12043591806201370891 : Unit := ()
def PySem.W.Fast.tw7043446599231243065 : Unit := ()
def PySem.W.Fast.tw7241764505287546868 : Unit := ()
def PySem.W.Fast.tw1088223146445106470 : Unit := ()
def PySem.W.Fast.tw482023029719227183 : Unit := ()
def PySem.W.Fast.tw309659867141842189 : Unit := ()
def PySem.W.Fast.tw6568190372825108230 : Unit := ()
def PySem.W.Fast.tw2600736498631216732 : Unit := ()
def PySem.W.Fast.tw9381294928669125935 : Unit := ()
def PySem.W.Fast.tw11450429357677788639 : Unit := ()
def PySem.W.Fast.tw377832465588466777 : Unit := ()
def PySem.W.Fast.tw6916427742049943477 : Unit := ()
def PySem.W.Fast.tw8273018820901111515 : Unit := ()
def PySem.W.Fast.tw904568933464382717 : Unit := ()
def PySem.W.Fast.tw48626452644585965 : Unit := ()
def PySem.W.Fast.tw9488384902515282653 : Unit := ()
def PySem.W.Fast.tw9009943145950798673 : Unit := ()
def PySem.W.Fast.tw14009156816778788789 : Unit := ()
def PySem.W.Fast.tw10853828077415868467 : Unit := ()
def PySem.W.Fast.tw5892807228583522210 : Unit := ()
def PySem.W.Fast.tw5673372108451906293 : Unit := ()
def PySem.W.Fast.tw9661426344918084675 : Unit := ()
def PySem.W.Fast.tw16388841029199835684 : Unit := ()
def PySem.W.Fast.tw17668747187217273007 : Unit := ()
def PySem.W.Fast.tw14916229017384437143 : Unit := ()
def PySem.W.Fast.tw12824853422247835367 : Unit := ()
def PySem.W.Fast.tw6876635618185064211 : Unit := ()
def PySem.W.Fast.tw18035375016820841076 : Unit := ()
def PySem.W.Fast.tw2556048464480901990 : Unit := ()
def PySem.W.Fast.tw16644375089131081844 : Unit := ()
def PySem.W.Fast.tw11520333380558322496 : Unit := ()
def PySem.W.Fast.tw10660154447827970942 : Unit := ()
def PySem.W.Fast.tw7292312941957042103 : Unit := ()
def PySem.W.Fast.tw14869026710653096217 : Unit := ()
def PySem.W.Fast.tw2380242577997454061 : Unit := ()
def PySem.W.Fast.tw1734744129962280334 : Unit := ()
def PySem.W.Fast.tw10847756616003639105 : Unit := ()
def PySem.W.Fast.tw16420596776465205295 : Unit := ()
def PySem.W.Fast.tw9992353340212066192 : Unit := ()
def PySem.W.Fast.tw407381777659984424 : Unit := ()
def PySem.W.Fast.tw1374127671102378448 : Unit := ()
def PySem.W.Fast.tw2937718559629236575 : Unit := ()
def PySem.W.Fast.tw9698300089567374265 : Unit := ()
def PySem.W.Fast.tw655757776920752998 : Unit := ()
def PySem.W.Fast.tw5231492780820765009 : Unit := ()
def PySem.W.Fast.tw1893670087256444135 : Unit := ()
def PySem.W.Fast.tw14595795621239689942 : Unit := ()
def PySem.W.Fast.tw8305030947805358217 : Unit := ()
def PySem.W.Fast.tw15162913529529848127 : Unit := ()
def PySem.W.Fast.tw2787341119742996396 : Unit := ()
def PySem.W.Fast.tw1889412723173186172 : Unit := ()
def PySem.W.Fast.tw17759763497306106322 : Unit := ()
def PySem.W.Fast.tw5219308690494654437 : Unit := ()
def PySem.W.Fast.tw2249173320292696231 : Unit := ()
def PySem.W.Fast.tw4318541804775463340 : Unit := ()
def PySem.W.Fast.tw3501010949908157415 : Unit := ()
def PySem.W.Fast.tw10475119172149234074 : Unit := ()
def PySem.W.Fast.tw15980208122940583208 : Unit := ()
def PySem.W.Fast.tw11690119725264279300 : Unit := ()
def PySem.W.Fast.tw734566757767990876 : Unit := ()
def PySem.W.Fast.tw16418196241956557382 : Unit := ()
def PySem.W.Fast.tw56251792940532603 : Unit := ()
def PySem.W.Fast.tw7215335457261879021 : Unit := ()
def PySem.W.Fast.tw5084815436458550117 : Unit := ()
def PySem.W.Fast.tw1126911202260451485 : Unit := ()
def PySem.W.Fast.tw6887517828091190170 : Unit := ()
def PySem.W.Fast.tw1560306337643631199 : Unit := ()
def PySem.W.Fast.tw2863761147410302166 : Unit := ()
def PySem.W.Fast.tw5216927040233717935 : Unit := ()
def PySem.W.Fast.tw15033378125317109004 : Unit := ()
def PySem.W.Fast.tw5339048960904800533 : Unit := ()
def PySem.W.Fast.tw7268736906964212076 : Unit := ()
def PySem.W.Fast.tw4775341464282465206 : Unit := ()
def PySem.W.Fast.tw18343361027300149974 : Unit := ()
def PySem.W.Fast.tw12913204901878216907 : Unit := ()
def PySem.W.Fast.tw7155358328157131389 : Unit := ()
def PySem.W.Fast.tw2251820130832623609 : Unit := ()
def PySem.W.Fast.tw11349856741691042943 : Unit := ()
def PySem.W.Fast.tw14051397374940455834 : Unit := ()
def PySem.W.Fast.tw13849509339120520055 : Unit := ()
def PySem.W.Fast.tw1174155305466961925 : Unit := ()
def PySem.W.Fast.tw590693612415782270 : Unit := ()
def PySem.W.Fast.tw1068035720696705576 : Unit := ()
def PySem.W.Fast.tw12541620207647964137 : Unit := ()
def PySem.W.Fast.tw15503973545343993211 : Unit := ()
def PySem.W.Fast.tw16218377309259570683 : Unit := ()
def PySem.W.Fast.tw2947848753797447198 : Unit := ()
def PySem.W.Fast.tw8393575023749730165 : Unit := ()
def PySem.W.Fast.tw9821228122296995411 : Unit := ()
def PySem.W.Fast.tw15826490958981385963 : Unit := ()
def PySem.W.Fast.tw2514243302094353765 : Unit := ()
def PySem.W.Fast.tw2970633357429171006 : Unit := ()
def PySem.W.Fast.tw16392704761480762413 : Unit := ()
def PySem.W.Fast.tw12466512467834437487 : Unit := ()
def PySem.W.Fast.tw1693331784738064221 : Unit := ()
def PySem.W.Fast.tw12805117122169350064 : Unit := ()
def PySem.W.Fast.tw8343079042348316359 : Unit := ()
def PySem.W.Fast.tw6565997238527393025 : Unit := ()
def PySem.W.Fast.tw1599529382250389253 : Unit := ()
def PySem.W.Fast.tw2247250126047148413 : Unit := ()
def PySem.W.Fast.tw5047592254872627041 : Unit := ()
def PySem.W.Fast.tw3731010183863123260 : Unit := ()
def PySem.W.Fast.tw2644637952149602080 : Unit := ()
def PySem.W.Fast.tw2189051684945914194 : Unit := ()
def PySem.W.Fast.tw4485569642917367644 : Unit := ()
def PySem.W.Fast.tw10992505996467785330 : Unit := ()
def PySem.W.Fast.tw16713155699314967834 : Unit := ()
def PySem.W.Fast.tw8197450347076106512 : Unit := ()
def PySem.W.Fast.tw13487747086809877332 : Unit := ()
def PySem.W.Fast.tw9262185839203584867 : Unit := ()
def PySem.W.Fast.tw15612176935843756826 : Unit := ()
def PySem.W.Fast.tw11089664223040900208 : Unit := ()
def PySem.W.Fast.tw10329742218136872757 : Unit := ()
def PySem.W.Fast.tw3701284625450019073 : Unit := ()
def PySem.W.Fast.tw8863309516707061215 : Unit := ()
def PySem.W.Fast.tw18193762578700074621 : Unit := ()
def PySem.W.Fast.tw4977794178390290052 : Unit := ()
def PySem.W.Fast.tw17414551496575889753 : Unit := ()
def PySem.W.Fast.tw388310534753438844 : Unit := ()
def PySem.W.Fast.tw11443386809109972900 : Unit := ()
def PySem.W.Fast.tw16595632073404199753 : Unit := ()
def PySem.W.Fast.tw13552542845524898147 : Unit := ()
def PySem.W.Fast.tw12022568601589598674 : Unit := ()
def PySem.W.Fast.tw12905222502449712869 : Unit := ()
def PySem.W.Fast.tw18411198533293369384 : Unit := ()
def PySem.W.Fast.tw1271217738492034284 : Unit := ()
def PySem.W.Fast.tw14660142569531477666 : Unit := ()
def PySem.W.Fast.tw16534213926000458539 : Unit := ()
def PySem.W.Fast.tw14753255567051410858 : Unit := ()
def PySem.W.Fast.tw1229892237241151088 : Unit := ()
def PySem.W.Fast.tw14464303812613090018 : Unit := ()
def PySem.W.Fast.tw14679491614532302663 : Unit := ()
def PySem.W.Fast.tw7283255497600253846 : Unit := ()
def PySem.W.Fast.tw537145052652836681 : Unit := ()
def PySem.W.Fast.tw2118922949292397285 : Unit := ()
def PySem.W.Fast.tw18035027557544986033 : Unit := ()
def PySem.W.Fast.tw5528765262689055021 : Unit := ()
def PySem.W.Fast.tw13044120395529728338 : Unit := ()
def PySem.W.Fast.tw13682591212343186891 : Unit := ()
def PySem.W.Fast.tw4316898916019428391 : Unit := ()
def PySem.W.Fast.tw8835339609591350661 : Unit := ()
def PySem.W.Fast.tw2401049129826525375 : Unit := ()
def PySem.W.Fast.tw16405867314442943324 : Unit := ()
def PySem.W.Fast.tw1097118986025603743 : Unit := ()
def PySem.W.Fast.tw11708849330390333961 : Unit := ()
def PySem.W.Fast.tw10347640206223290496 : Unit := ()
def PySem.W.Fast.tw117385921573964538 : Unit := ()
def PySem.W.Fast.tw12033473238825008618 : Unit := ()
def PySem.W.Fast.tw12251779470072860338 : Unit := ()
def PySem.W.Fast.tw5324746835695323669 : Unit := ()
def PySem.W.Fast.tw17228984111601499466 : Unit := ()
def PySem.W.Fast.tw8840472488914493507 : Unit := ()
def PySem.W.Fast.tw15188547531895282237 : Unit := ()
def PySem.W.Fast.tw16218707583147201687 : Unit := ()
def PySem.W.Fast.tw9989698376044608995 : Unit := ()
def PySem.W.Fast.tw5765487586925552923 : Unit := ()
def PySem.W.Fast.tw10213046093636758195 : Unit := ()
def PySem.W.Fast.tw8329305063759888970 : Unit := ()
def PySem.W.Fast.tw1207891217842809781 : Unit := ()
def PySem.W.Fast.tw8320609669381717636 : Unit := ()
def PySem.W.Fast.tw15427044194645448095 : Unit := ()
def PySem.W.Fast.tw2720722850263532044 : Unit := ()
def PySem.W.Fast.tw14696839950637620755 : Unit := ()
def PySem.W.Fast.tw17868812866836646000 : Unit := ()
def PySem.W.Fast.tw6470589453612966384 : Unit := ()
def PySem.W.Fast.tw11747775814568507974 : Unit := ()
def PySem.W.Fast.tw7996063003158613980 : Unit := ()
def PySem.W.Fast.tw2495015881863440605 : Unit := ()
def PySem.W.Fast.tw1265950438999002877 : Unit := ()
def PySem.W.Fast.tw6831401798788176679 : Unit := ()
def PySem.W.Fast.tw17821834722165520293 : Unit := ()
def PySem.W.Fast.tw11723316679239911379 : Unit := ()
def PySem.W.Fast.tw1495481034937278903 : Unit := ()
def PySem.W.Fast.tw1250436311981286423 : Unit := ()
def PySem.W.Fast.tw12418729690993111175 : Unit := ()
def PySem.W.Fast.tw9904453681925132661 : Unit := ()
def PySem.W.Fast.tw18363532919040558780 : Unit := ()
def PySem.W.Fast.tw12615649216133626053 : Unit := ()
def PySem.W.Fast.tw4546713120140882595 : Unit := ()
def PySem.W.Fast.tw18226664331341139266 : Unit := ()
def PySem.W.Fast.tw11576117560741993834 : Unit := ()
def PySem.W.Fast.tw8911516013862690099 : Unit := ()
def PySem.W.Fast.tw1161938370176588171 : Unit := ()
def PySem.W.Fast.tw17781501790567720752 : Unit := ()
def PySem.W.Fast.tw12321559208097882919 : Unit := ()
def PySem.W.Fast.tw12998783734677554576 : Unit := ()
def PySem.W.Fast.tw6630928526612367301 : Unit := ()
def PySem.W.Fast.tw4387896612605410399 : Unit := ()
def PySem.W.Fast.tw4503372821082919283 : Unit := ()
def PySem.W.Fast.tw11972940637873851315 : Unit := ()
def PySem.W.Fast.tw7919040965426557628 : Unit := ()
def PySem.W.Fast.tw17084510316027551437 : Unit := ()
def PySem.W.Fast.tw8825546350569855568 : Unit := ()
def PySem.W.Fast.tw14184468936184446635 : Unit := ()
def PySem.W.Fast.tw14297729349884114994 : Unit := ()
def PySem.W.Fast.tw11460433873762644573 : Unit := ()
def PySem.W.Fast.tw2879586791749620160 : Unit := ()
def PySem.W.Fast.tw3015297465721184388 : Unit := ()
def PySem.W.Fast.tw3524750436221123885 : Unit := ()
def PySem.W.Fast.tw11682935506172448408 : Unit := ()
def PySem.W.Fast.tw12232199515271845769 : Unit := ()
def PySem.W.Fast.tw883110100683347532 : Unit := ()
def PySem.W.Fast.tw16980694623929314011 : Unit := ()
def PySem.W.Fast.tw18110152571944739352 : Unit := ()
def PySem.W.Fast.tw9923339569073143703 : Unit := ()
def PySem.W.Fast.tw7315100767647710250 : Unit := ()
def PySem.W.Fast.tw3083103070796721724 : Unit := ()
def PySem.W.Fast.tw5928545017429219693 : Unit := ()
def PySem.W.Fast.tw11872782867766110757 : Unit := ()
def PySem.W.Fast.tw17596881982302750147 : Unit := ()
def PySem.W.Fast.tw13299106900840460950 : Unit := ()
def PySem.W.Fast.tw5874341908231925079 : Unit := ()
def PySem.W.Fast.tw8675465569016291809 : Unit := ()
def PySem.W.Fast.tw811668368581635528 : Unit := ()
def PySem.W.Fast.tw4116040218557378140 : Unit := ()
def PySem.W.Fast.tw10334325245479436374 : Unit := ()
def PySem.W.Fast.tw6183269888387216083 : Unit := ()
def PySem.W.Fast.tw18062284289016166443 : Unit := ()
def PySem.W.Fast.tw14732916578733243944 : Unit := ()
def PySem.W.Fast.tw531272610184648191 : Unit := ()
def PySem.W.Fast.tw5921031420601975572 : Unit := ()
def PySem.W.Fast.tw8140744047758651755 : Unit := ()
def PySem.W.Fast.tw5113593461488414276 : Unit := ()
def PySem.W.Fast.tw9295911109848373498 : Unit := ()
def PySem.W.Fast.tw5229228836517719957 : Unit := ()
def PySem.W.Fast.tw16653434201708933449 : Unit := ()
def PySem.W.Fast.tw4333765901446185964 : Unit := ()
def PySem.W.Fast.tw8029332473050186485 : Unit := ()
def PySem.W.Fast.tw3007166020802353238 : Unit := ()
def PySem.W.Fast.tw13461552613864937492 : Unit := ()
def PySem.W.Fast.tw14074501656006524982 : Unit := ()
def PySem.W.Fast.tw647258618549246258 : Unit := ()
def PySem.W.Fast.tw2332765956351585036 : Unit := ()
def PySem.W.Fast.tw12039187847170116150 : Unit := ()
def PySem.W.Fast.tw12117490701049671084 : Unit := ()
def PySem.W.Fast.tw17275076339206312350 : Unit := ()
def PySem.W.Fast.tw9058324882064778343 : Unit := ()
def PySem.W.Fast.tw4456854832936567644 : Unit := ()
def PySem.W.Fast.tw10903477358529421767 : Unit := ()
def PySem.W.Fast.tw2052766737350568307 : Unit := ()
def PySem.W.Fast.tw8180796205617039538 : Unit := ()
def PySem.W.Fast.tw830609445280244932 : Unit := ()
def PySem.W.Fast.tw12558926278799963402 : Unit := ()
def PySem.W.Fast.tw7085283385529864057 : Unit := ()
def PySem.W.Fast.tw1027333165474660577 : Unit := ()
def PySem.W.Fast.tw10929725757032716751 : Unit := ()
def PySem.W.Fast.tw2169703286953768048 : Unit := ()
def PySem.W.Fast.tw2084526900237982110 : Unit := ()
def PySem.W.Fast.tw3727822507497057983 : Unit := ()
def PySem.W.Fast.tw13204737638251654206 : Unit := ()
def PySem.W.Fast.tw12207375756518104968 : Unit := ()
def PySem.W.Fast.tw14502291641386830690 : Unit := ()
def PySem.W.Fast.tw3202652333832249620 : Unit := ()
def PySem.W.Fast.tw17609466010159266300 : Unit := ()
def PySem.W.Fast.tw16505524708602984681 : Unit := ()
def PySem.W.Fast.tw2630864271150796461 : Unit := ()
def PySem.W.Fast.tw8135945618513921954 : Unit := ()
def PySem.W.Fast.tw17793776289225841685 : Unit := ()
def PySem.W.Fast.tw1325410977112351219 : Unit := ()
def PySem.W.Fast.tw15450082202342698233 : Unit := ()
def PySem.W.Fast.tw16169571804544640367 : Unit := ()
def PySem.W.Fast.tw4056060347559577013 : Unit := ()
def PySem.W.Fast.tw5319627965927889007 : Unit := ()
def PySem.W.Fast.tw7218703781153380560 : Unit := ()
def PySem.W.Fast.tw13619970900429846996 : Unit := ()
def PySem.W.Fast.tw13951050320218509578 : Unit := ()
def PySem.W.Fast.tw18231323933935703311 : Unit := ()
def PySem.W.Fast.tw10522580095651419504 : Unit := ()
def PySem.W.Fast.tw1490140252178960354 : Unit := ()
def PySem.W.Fast.tw17320026991222566092 : Unit := ()
def PySem.W.Fast.tw3948015367203139048 : Unit := ()
def PySem.W.Fast.tw8745418830182898859 : Unit := ()
def PySem.W.Fast.tw14556457401274615517 : Unit := ()
def PySem.W.Fast.tw13058029312396577373 : Unit := ()
def PySem.W.Fast.tw1391932925041848585 : Unit := ()
def PySem.W.Fast.tw6680877025539002779 : Unit := ()
def PySem.W.Fast.tw15958733725675707997 : Unit := ()
def PySem.W.Fast.tw1365206995621477258 : Unit := ()
def PySem.W.Fast.tw9475399013952408220 : Unit := ()
def PySem.W.Fast.tw8937818195283014135 : Unit := ()
def PySem.W.Fast.tw14531037035079853660 : Unit := ()
def PySem.W.Fast.tw574652303094337194 : Unit := ()
def PySem.W.Fast.tw7317366966552737779 : Unit := ()
def PySem.W.Fast.tw5800107941848513735 : Unit := ()
def PySem.W.Fast.tw13692119830458483409 : Unit := ()
def PySem.W.Fast.tw10430992311676586200 : Unit := ()
def PySem.W.Fast.tw10282339398721043241 : Unit := ()
def PySem.W.Fast.tw4683294191833748800 : Unit := ()
def PySem.W.Fast.tw834634597416974239 : Unit := ()
def PySem.W.Fast.tw4389717959370376387 : Unit := ()
def PySem.W.Fast.tw17650098409586105273 : Unit := ()
def PySem.W.Fast.tw7666579500786469756 : Unit := ()
def PySem.W.Fast.tw11394813290281626566 : Unit := ()
def PySem.W.Fast.tw16735061823572364027 : Unit := ()
def PySem.W.Fast.tw5896260228159092921 : Unit := ()
def PySem.W.Fast.tw18384117485837400282 : Unit := ()
def PySem.W.Fast.tw13555019653525651458 : Unit := ()
def PySem.W.Fast.tw10813931910614093786 : Unit := ()
def PySem.W.Fast.tw17876153302991371159 : Unit := ()
def PySem.W.Fast.tw11030631531520728414 : Unit := ()
def PySem.W.Fast.tw97723104483981326 : Unit := ()
def PySem.W.Fast.tw17108577658165785446 : Unit := ()
def PySem.W.Fast.tw9289554684127412584 : Unit := ()
def PySem.W.Fast.tw16214704619866065552 : Unit := ()
def PySem.W.Fast.tw13952197429292198537 : Unit := ()
def PySem.W.Fast.tw12287274690282892692 : Unit := ()
def PySem.W.Fast.tw10391449971293100441 : Unit := ()
def PySem.W.Fast.tw9524214073237924070 : Unit := ()
def PySem.W.Fast.tw304652878524777495 : Unit := ()
def PySem.W.Fast.tw17348407318167840065 : Unit := ()
def PySem.W.Fast.tw11125618131172509975 : Unit := ()
def PySem.W.Fast.tw6319623026761098216 : Unit := ()
def PySem.W.Fast.tw9975053341475308696 : Unit := ()
def PySem.W.Fast.tw5365734864649329579 : Unit := ()
def PySem.W.Fast.tw14669666990971453742 : Unit := ()
def PySem.W.Fast.tw614479057047614515 : Unit := ()
def PySem.W.Fast.tw11586292794440322977 : Unit := ()
def PySem.W.Fast.tw13875038482499344940 : Unit := ()
def PySem.W.Fast.tw6919115154769029628 : Unit := ()
def PySem.W.Fast.tw13169983896670668732 : Unit := ()
def PySem.W.Fast.tw14690552285861380216 : Unit := ()
def PySem.W.Fast.tw4050100829102709802 : Unit := ()
def PySem.W.Fast.tw568645267361292808 : Unit := ()
def PySem.W.Fast.tw6823977979330790247 : Unit := ()
def PySem.W.Fast.tw8241943554971515753 : Unit := ()
def PySem.W.Fast.tw6058703951981098161 : Unit := ()
def PySem.W.Fast.tw11558278854634381001 : Unit := ()
def PySem.W.Fast.tw2605846988221013000 : Unit := ()
def PySem.W.Fast.tw4964881607566300251 : Unit := ()
def PySem.W.Fast.tw3320227325487066642 : Unit := ()
def PySem.W.Fast.tw10206907422200943476 : Unit := ()
def PySem.W.Fast.tw13931989977072543951 : Unit := ()
def PySem.W.Fast.tw17207618980625095934 : Unit := ()
def PySem.W.Fast.tw14473817961972312300 : Unit := ()
def PySem.W.Fast.tw16275624464189567433 : Unit := ()
def PySem.W.Fast.tw16974734748775254326 : Unit := ()
def PySem.W.Fast.tw5473791631816361761 : Unit := ()
def PySem.W.Fast.tw9368791343421831650 : Unit := ()
def PySem.W.Fast.tw13678860644640519712 : Unit := ()
def PySem.W.Fast.tw14310142894590079727 : Unit := ()
def PySem.W.Fast.tw8327154068537851005 : Unit := ()
def PySem.W.Fast.tw17306363260152716169 : Unit := ()
def PySem.W.Fast.tw2266803406030782704 : Unit := ()
def PySem.W.Fast.tw192938810021047686 : Unit := ()
def PySem.W.Fast.tw5807249467913312119 : Unit := ()
def PySem.W.Fast.tw3907919676392519147 : Unit := ()
def PySem.W.Fast.tw5814100430542723575 : Unit := ()
def PySem.W.Fast.tw11889159170736901196 : Unit := ()
def PySem.W.Fast.tw702792398778025150 : Unit := ()
def PySem.W.Fast.tw2828758183489589993 : Unit := ()
def PySem.W.Fast.tw10498076136233805911 : Unit := ()
def PySem.W.Fast.tw9656959741317556887 : Unit := ()
def PySem.W.Fast.tw10565580063550536465 : Unit := ()
def PySem.W.Fast.tw12018280247784023948 : Unit := ()
def PySem.W.Fast.tw15245357966099130109 : Unit := ()
def PySem.W.Fast.tw14917479435032075210 : Unit := ()
def PySem.W.Fast.tw269290051638383067 : Unit := ()
def PySem.W.Fast.tw8816808780652768730 : Unit := ()
def PySem.W.Fast.tw238048639811827054 : Unit := ()
def PySem.W.Fast.tw2180479567730342109 : Unit := ()
def PySem.W.Fast.tw2924105211936605548 : Unit := ()
def PySem.W.Fast.tw80154428806971340 : Unit := ()
def PySem.W.Fast.tw16914573113661781641 : Unit := ()
def PySem.W.Fast.tw15580903583919308824 : Unit := ()
def PySem.W.Fast.tw18239444764796881956 : Unit := ()
def PySem.W.Fast.tw14822540518986805304 : Unit := ()
def PySem.W.Fast.tw5736926866366373296 : Unit := ()
def PySem.W.Fast.tw8172840973640690909 : Unit := ()
def PySem.W.Fast.tw8551922154257071040 : Unit := ()
def PySem.W.Fast.tw17935422123107301160 : Unit := ()
def PySem.W.Fast.tw10252917796120136742 : Unit := ()
def PySem.W.Fast.tw6109775337322335762 : Unit := ()
def PySem.W.Fast.tw2356971226096802470 : Unit := ()
def PySem.W.Fast.tw9776763955711517135 : Unit := ()
def PySem.W.Fast.tw14898135090249286955 : Unit := ()
def PySem.W.Fast.tw2386066887361925882 : Unit := ()
def PySem.W.Fast.tw15442870594850886285 : Unit := ()
def PySem.W.Fast.tw9433674380394483877 : Unit := ()
def PySem.W.Fast.tw2108131597340448540 : Unit := ()
def PySem.W.Fast.tw1805277622277944058 : Unit := ()
def PySem.W.Fast.tw14596960492169868932 : Unit := ()
def PySem.W.Fast.tw5885059971429144042 : Unit := ()
def PySem.W.Fast.tw7634486722578461587 : Unit := ()
def PySem.W.Fast.tw4192647020763042022 : Unit := ()
def PySem.W.Fast.tw8062209377378926318 : Unit := ()
def PySem.W.Fast.tw3069944726897735341 : Unit := ()
def PySem.W.Fast.tw9506215073691837152 : Unit := ()
def PySem.W.Fast.tw11842809790852407009 : Unit := ()
def PySem.W.Fast.tw1350293858688122953 : Unit := ()
def PySem.W.Fast.tw6160719720816949394 : Unit := ()
def PySem.W.Fast.tw6931399217231738867 : Unit := ()
def PySem.W.Fast.tw3786709332691566767 : Unit := ()
def PySem.W.Fast.tw5109531265005262694 : Unit := ()
def PySem.W.Fast.tw1214671645705781146 : Unit := ()
def PySem.W.Fast.tw6355420701477195357 : Unit := ()
def PySem.W.Fast.tw11099294950327661544 : Unit := ()
def PySem.W.Fast.tw12538511112608612926 : Unit := ()
def PySem.W.Fast.tw4251093842973848606 : Unit := ()
def PySem.W.Fast.tw7724916046642774056 : Unit := ()
def PySem.W.Fast.tw5081318494941783249 : Unit := ()
def PySem.W.Fast.tw13874169727166532741 : Unit := ()
def PySem.W.Fast.tw7823239414987728943 : Unit := ()
def PySem.W.Fast.tw7189424882072204151 : Unit := ()
def PySem.W.Fast.tw9179094337467043522 : Unit := ()
def PySem.W.Fast.tw14061284041545334919 : Unit := ()
def PySem.W.Fast.tw17987356936478941870 : Unit := ()
def PySem.W.Fast.tw10431465697274578420 : Unit := ()
def PySem.W.Fast.tw11026005985677868335 : Unit := ()
def PySem.W.Fast.tw6692915203667637327 : Unit := ()
def PySem.W.Fast.tw5665899783315468437 : Unit := ()
def PySem.W.Fast.tw1010272682424925069 : Unit := ()
def PySem.W.Fast.tw7669814220814134758 : Unit := ()
def PySem.W.Fast.tw12816809604955995370 : Unit := ()
def PySem.W.Fast.tw17947205849582707987 : Unit := ()
def PySem.W.Fast.tw10334925034622591843 : Unit := ()
def PySem.W.Fast.tw14703089429096196328 : Unit := ()
def PySem.W.Fast.tw4041971210616760231 : Unit := ()
def PySem.W.Fast.tw8860745501336471089 : Unit := ()
def PySem.W.Fast.tw689644733402424919 : Unit := ()
def PySem.W.Fast.tw2352611684439313309 : Unit := ()
def PySem.W.Fast.tw1818765479295242722 : Unit := ()
def PySem.W.Fast.tw17720242424854996568 : Unit := ()
def PySem.W.Fast.tw14421692638302556288 : Unit := ()
def PySem.W.Fast.tw6357864357650536692 : Unit := ()
def PySem.W.Fast.tw1976074938446109953 : Unit := ()
def PySem.W.Fast.tw7115989870331069044 : Unit := ()
def PySem.W.Fast.tw14843265052694203159 : Unit := ()
def PySem.W.Fast.tw9656721229589466401 : Unit := ()
def PySem.W.Fast.tw2443472355849451295 : Unit := ()
def PySem.W.Fast.tw8893185374074469996 : Unit := ()
def PySem.W.Fast.tw7827968396692089150 : Unit := ()
def PySem.W.Fast.tw14232408568782384425 : Unit := ()
def PySem.W.Fast.tw15785313992191233990 : Unit := ()
def PySem.W.Fast.tw11934665923467406395 : Unit := ()
def PySem.W.Fast.tw14577829348642696266 : Unit := ()
def PySem.W.Fast.tw119682807289443815 : Unit := ()
def PySem.W.Fast.tw1650457366969263930 : Unit := ()
def PySem.W.Fast.tw5923482139936708431 : Unit := ()
def PySem.W.Fast.tw912983656511031543 : Unit := ()
def PySem.W.Fast.tw5948709169202214450 : Unit := ()
def PySem.W.Fast.tw15501887328519413191 : Unit := ()
def PySem.W.Fast.tw12261446200344645240 : Unit := ()
def PySem.W.Fast.tw18160088446889871506 : Unit := ()
def PySem.W.Fast.tw10694045329366127838 : Unit := ()
def PySem.W.Fast.tw11386193224724854370 : Unit := ()
def PySem.W.Fast.tw5368070226161694381 : Unit := ()
def PySem.W.Fast.tw7599491724541277289 : Unit := ()
def PySem.W.Fast.tw7753093255776482952 : Unit := ()
def PySem.W.Fast.tw3614837206625663073 : Unit := ()
def PySem.W.Fast.tw667482129984067316 : Unit := ()
def PySem.W.Fast.tw17849875846525855078 : Unit := ()
def PySem.W.Fast.tw15002505025946327375 : Unit := ()
def PySem.W.Fast.tw8752280754905070798 : Unit := ()
def PySem.W.Fast.tw1990534180841424552 : Unit := ()
def PySem.W.Fast.tw5287362846019202383 : Unit := ()
def PySem.W.Fast.tw5311741688297908017 : Unit := ()
def PySem.W.Fast.tw11234798495887029918 : Unit := ()
def PySem.W.Fast.tw18077486366136745663 : Unit := ()
def PySem.W.Fast.tw11734634760143338791 : Unit := ()
def PySem.W.Fast.tw7912642456616949296 : Unit := ()
def PySem.W.Fast.tw2206029162817128809 : Unit := ()
def PySem.W.Fast.tw3188751511798509535 : Unit := ()
def PySem.W.Fast.tw4235568800084866637 : Unit := ()
def PySem.W.Fast.tw4284047617439157490 : Unit := ()
def PySem.W.Fast.tw18131773139931626566 : Unit := ()
def PySem.W.Fast.tw36689659963786513 : Unit := ()
def PySem.W.Fast.tw14186214098137573971 : Unit := ()
def PySem.W.Fast.tw4279194153677275094 : Unit := ()
def PySem.W.Fast.tw14672750781419861304 : Unit := ()
def PySem.W.Fast.tw13009984634270112261 : Unit := ()
def PySem.W.Fast.tw15328748782945977116 : Unit := ()
def PySem.W.Fast.tw6417392237664274910 : Unit := ()
def PySem.W.Fast.tw18166022171265817742 : Unit := ()
def PySem.W.Fast.tw1304986374532988696 : Unit := ()
def PySem.W.Fast.tw9992184563396998198 : Unit := ()
def PySem.W.Fast.tw234531289092163974 : Unit := ()
def PySem.W.Fast.tw16182631768991653006 : Unit := ()
def PySem.W.Fast.tw3577645503993335542 : Unit := ()
def PySem.W.Fast.tw10415691607498711674 : Unit := ()
def PySem.W.Fast.tw14106528192314761774 : Unit := ()
def PySem.W.Fast.tw10513483677530882211 : Unit := ()
def PySem.W.Fast.tw17982913884215834052 : Unit := ()
def PySem.W.Fast.tw16772322934197880521 : Unit := ()
def PySem.W.Fast.tw5076137816507552 : Unit := ()
def PySem.W.Fast.tw6366772344487441295 : Unit := ()
def PySem.W.Fast.tw14170014375419344581 : Unit := ()
def PySem.W.Fast.tw5116789184154744008 : Unit := ()
def PySem.W.Fast.tw5471191425791321204 : Unit := ()
def PySem.W.Fast.tw11577247948860897597 : Unit := ()
def PySem.W.Fast.tw5242027353768523051 : Unit := ()
def PySem.W.Fast.tw14756977411120751379 : Unit := ()
def PySem.W.Fast.tw1375733854187216212 : Unit := ()
def PySem.W.Fast.tw2507678532870000396 : Unit := ()
def PySem.W.Fast.tw9486196954359337708 : Unit := ()
def PySem.W.Fast.tw9294847908235897992 : Unit := ()
def PySem.W.Fast.tw8586097500921437720 : Unit := ()
def PySem.W.Fast.tw6770941328795611631 : Unit := ()
def PySem.W.Fast.tw13789462443390895148 : Unit := ()
def PySem.W.Fast.tw9343430619899815390 : Unit := ()
def PySem.W.Fast.tw6025032345692655770 : Unit := ()
def PySem.W.Fast.tw9260924260993478786 : Unit := ()
def PySem.W.Fast.tw16941211176101928426 : Unit := ()
def PySem.W.Fast.tw17278692452998477532 : Unit := ()
def PySem.W.Fast.tw18376167078218854549 : Unit := ()
def PySem.W.Fast.tw11897046209288796250 : Unit := ()
def PySem.W.Fast.tw7038009326224417125 : Unit := ()
def PySem.W.Fast.tw5324530295729721788 : Unit := ()
def PySem.W.Fast.tw13752923093896600566 : Unit := ()
def PySem.W.Fast.tw4076839229889789181 : Unit := ()
def PySem.W.Fast.tw3344535207263709798 : Unit := ()
def PySem.W.Fast.tw3776800225162299887 : Unit := ()
def PySem.W.Fast.tw11996493565884501877 : Unit := ()
def PySem.W.Fast.tw10756322386842870225 : Unit := ()
def PySem.W.Fast.tw16953273036419290669 : Unit := ()
def PySem.W.Fast.tw12370904333397691530 : Unit := ()
def PySem.W.Fast.tw4006924075063231315 : Unit := ()
def PySem.W.Fast.tw4173545252683312406 : Unit := ()
def PySem.W.Fast.tw17257078812851807204 : Unit := ()
def PySem.W.Fast.tw12279215587222700087 : Unit := ()
def PySem.W.Fast.tw9431312949224947499 : Unit := ()
def PySem.W.Fast.tw8445828628421908457 : Unit := ()
def PySem.W.Fast.tw10234246071609118021 : Unit := ()
def PySem.W.Fast.tw7806506220866796213 : Unit := ()
def PySem.W.Fast.tw517180632903907013 : Unit := ()
def PySem.W.Fast.tw17079106377764253892 : Unit := ()
def PySem.W.Fast.tw15247598760629962859 : Unit := ()
def PySem.W.Fast.tw7045950357167579636 : Unit := ()
def PySem.W.Fast.tw18030474663472438350 : Unit := ()
def PySem.W.Fast.tw599662619083638521 : Unit := ()
def PySem.W.Fast.tw7082968221557384162 : Unit := ()
def PySem.W.Fast.tw3171390987769395629 : Unit := ()
def PySem.W.Fast.tw8029991054610238749 : Unit := ()
def PySem.W.Fast.tw14554849664721504322 : Unit := ()
def PySem.W.Fast.tw15279632851214436923 : Unit := ()
def PySem.W.Fast.tw9758325071995717463 : Unit := ()
def PySem.W.Fast.tw16705251112689894878 : Unit := ()
def PySem.W.Fast.tw15490199531536953216 : Unit := ()
def PySem.W.Fast.tw18102676874632082769 : Unit := ()
def PySem.W.Fast.tw9794273967511018538 : Unit := ()
def PySem.W.Fast.tw15468821957951130580 : Unit := ()
def PySem.W.Fast.tw9905972462678195994 : Unit := ()
def PySem.W.Fast.tw144787281180446095 : Unit := ()
def PySem.W.Fast.tw10170855621563837232 : Unit := ()
def PySem.W.Fast.tw18291626722400415367 : Unit := ()
def PySem.W.Fast.tw7246803339811741830 : Unit := ()
def PySem.W.Fast.tw8913825299032772738 : Unit := ()
def PySem.W.Fast.tw4714024396138966453 : Unit := ()
def PySem.W.Fast.tw6006682910790273442 : Unit := ()
def PySem.W.Fast.tw1036935260345634275 : Unit := ()
def PySem.W.Fast.tw9948325114987807364 : Unit := ()
def PySem.W.Fast.tw14855998079394175026 : Unit := ()
def PySem.W.Fast.tw11205767323873372820 : Unit := ()
def PySem.W.Fast.tw14684025854913260331 : Unit := ()
def PySem.W.Fast.tw3101421552514194400 : Unit := ()
def PySem.W.Fast.tw12210243315179382064 : Unit := ()
def PySem.W.Fast.tw1180628762151332666 : Unit := ()
def PySem.W.Fast.tw7364675578384822939 : Unit := ()
def PySem.W.Fast.tw12505985996290223103 : Unit := ()
def PySem.W.Fast.tw7963287392935174410 : Unit := ()
def PySem.W.Fast.tw30385873771054469 : Unit := ()
def PySem.W.Fast.tw14834207642006430230 : Unit := ()
def PySem.W.Fast.tw11059731287032462289 : Unit := ()
def PySem.W.Fast.tw7985915259069661301 : Unit := ()
def PySem.W.Fast.tw11778126857927695324 : Unit := ()
def PySem.W.Fast.tw6188493826072817624 : Unit := ()
def PySem.W.Fast.tw14622658263380877828 : Unit := ()
def PySem.W.Fast.tw14063499004038584341 : Unit := ()
def PySem.W.Fast.tw6862195934329866382 : Unit := ()
def PySem.W.Fast.tw4919491285140619204 : Unit := ()
def PySem.W.Fast.tw10644807628664303745 : Unit := ()
def PySem.W.Fast.tw14672816248924938121 : Unit := ()
def PySem.W.Fast.tw4269314073702609926 : Unit := ()
def PySem.W.Fast.tw462851686346678280 : Unit := ()
def PySem.W.Fast.tw16956994125395971972 : Unit := ()
def PySem.W.Fast.tw2409784712617473961 : Unit := ()
def PySem.W.Fast.tw7053982435006414479 : Unit := ()
def PySem.W.Fast.tw9887328709235302623 : Unit := ()
def PySem.W.Fast.tw3164046923853943473 : Unit := ()
def PySem.W.Fast.tw4644891935879105016 : Unit := ()
def PySem.W.Fast.tw14725123005905843736 : Unit := ()
def PySem.W.Fast.tw6718200902288164059 : Unit := ()
def PySem.W.Fast.tw2007247915462546133 : Unit := ()
def PySem.W.Fast.tw12391915262075347428 : Unit := ()
def PySem.W.Fast.tw318374961444064980 : Unit := ()
def PySem.W.Fast.tw3556370959518903598 : Unit := ()
def PySem.W.Fast.tw15622944250506588910 : Unit := ()
def PySem.W.Fast.tw11259872055546592863 : Unit := ()
def PySem.W.Fast.tw17650257062524094182 : Unit := ()
def PySem.W.Fast.tw17146358437658880239 : Unit := ()
def PySem.W.Fast.tw1503843923412297410 : Unit := ()
def PySem.W.Fast.tw15722392978748253291 : Unit := ()
def PySem.W.Fast.tw6142166414232290506 : Unit := ()
def PySem.W.Fast.tw2067910175477945452 : Unit := ()
def PySem.W.Fast.tw4781785583400489931 : Unit := ()
def PySem.W.Fast.tw15985247864473000138 : Unit := ()
def PySem.W.Fast.tw16594942602107693202 : Unit := ()
def PySem.W.Fast.tw814132166911293181 : Unit := ()
def PySem.W.Fast.tw5478420297820129201 : Unit := ()
def PySem.W.Fast.tw4417412424163353793 : Unit := ()
def PySem.W.Fast.tw14245472053576984105 : Unit := ()
def PySem.W.Fast.tw4290321888802007252 : Unit := ()
def PySem.W.Fast.tw5797079102758014791 : Unit := ()
def PySem.W.Fast.tw2052815164141889921 : Unit := ()
def PySem.W.Fast.tw17617076263378214941 : Unit := ()
def PySem.W.Fast.tw12199608722162551029 : Unit := ()
def PySem.W.Fast.tw11296229970064469868 : Unit := ()
def PySem.W.Fast.tw5120163694952968199 : Unit := ()
def PySem.W.Fast.tw5066768511692718542 : Unit := ()
def PySem.W.Fast.tw12069015182990001611 : Unit := ()
def PySem.W.Fast.tw9981852689877754292 : Unit := ()
def PySem.W.Fast.tw16203032678031121184 : Unit := ()
def PySem.W.Fast.tw12154545856604136619 : Unit := ()
def PySem.W.Fast.tw1885188707270160409 : Unit := ()
def PySem.W.Fast.tw13520175742597481892 : Unit := ()
def PySem.W.Fast.tw7485379765855855514 : Unit := ()
def PySem.W.Fast.tw8559010003827324327 : Unit := ()
def PySem.W.Fast.tw17244984149396490767 : Unit := ()
def PySem.W.Fast.tw16061502464130484425 : Unit := ()
def PySem.W.Fast.tw11356357963523356595 : Unit := ()
def PySem.W.Fast.tw12013868579289277182 : Unit := ()
def PySem.W.Fast.tw12199503603844384881 : Unit := ()
def PySem.W.Fast.tw8938293337928375365 : Unit := ()
def PySem.W.Fast.tw8089608333662553906 : Unit := ()
def PySem.W.Fast.tw14894461310483599560 : Unit := ()
def PySem.W.Fast.tw15538039037111558301 : Unit := ()
def PySem.W.Fast.tw17350703666260037732 : Unit := ()
def PySem.W.Fast.tw1301577674558566623 : Unit := ()
def PySem.W.Fast.tw951258972196735369 : Unit := ()
def PySem.W.Fast.tw11999395185609699780 : Unit := ()
def PySem.W.Fast.tw7658132054249652704 : Unit := ()
def PySem.W.Fast.tw11537604923094219304 : Unit := ()
def PySem.W.Fast.tw6867782529918684130 : Unit := ()
def PySem.W.Fast.tw12122659565688872809 : Unit := ()
def PySem.W.Fast.tw8025143467584774110 : Unit := ()
def PySem.W.Fast.tw10162267499003904711 : Unit := ()
def PySem.W.Fast.tw12592116038257333228 : Unit := ()
def PySem.W.Fast.tw2817283636055869971 : Unit := ()
def PySem.W.Fast.tw12320847349891840975 : Unit := ()
def PySem.W.Fast.tw9271178634927702348 : Unit := ()
def PySem.W.Fast.tw6722782810200686797 : Unit := ()
def PySem.W.Fast.tw14725644296779915776 : Unit := ()
def PySem.W.Fast.tw16573135317679720205 : Unit := ()
def PySem.W.Fast.tw8590600350647350184 : Unit := ()
def PySem.W.Fast.tw11551753589871823624 : Unit := ()
def PySem.W.Fast.tw8367551302176855660 : Unit := ()
def PySem.W.Fast.tw4193276046295594899 : Unit := ()
def PySem.W.Fast.tw16488047426164861822 : Unit := ()
def PySem.W.Fast.tw11889317229637721813 : Unit := ()
def PySem.W.Fast.tw7315910609254628433 : Unit := ()
def PySem.W.Fast.tw6611189946124961765 : Unit := ()
def PySem.W.Fast.tw14078302674332977973 : Unit := ()
def PySem.W.Fast.tw6879709856738811264 : Unit := ()
def PySem.W.Fast.tw13328062173082107238 : Unit := ()
def PySem.W.Fast.tw12952441509617809118 : Unit := ()
def PySem.W.Fast.tw18059470846638785393 : Unit := ()
def PySem.W.Fast.tw6023612536405509606 : Unit := ()
def PySem.W.Fast.tw2048429755670832002 : Unit := ()
def PySem.W.Fast.tw17365940312129552196 : Unit := ()
def PySem.W.Fast.tw16800927230631579908 : Unit := ()
def PySem.W.Fast.tw14694378802373844804 : Unit := ()
def PySem.W.Fast.tw1530700752889390999 : Unit := ()
def PySem.W.Fast.tw7163212476540222424 : Unit := ()
def PySem.W.Fast.tw13395316279862338034 : Unit := ()
def PySem.W.Fast.tw12666312461663937405 : Unit := ()
def PySem.W.Fast.tw1095549793094606668 : Unit := ()
def PySem.W.Fast.tw4718907229314998626 : Unit := ()
def PySem.W.Fast.tw5054049359183992031 : Unit := ()
def PySem.W.Fast.tw17025253678810322322 : Unit := ()
def PySem.W.Fast.tw13821034599692118986 : Unit := ()
def PySem.W.Fast.tw12482776936859844878 : Unit := ()
def PySem.W.Fast.tw4831717682921904113 : Unit := ()
def PySem.W.Fast.tw5606901511750484874 : Unit := ()
def PySem.W.Fast.tw13260136780290601900 : Unit := ()
def PySem.W.Fast.tw16120132117148239346 : Unit := ()
def PySem.W.Fast.tw1837372564662257582 : Unit := ()
def PySem.W.Fast.tw12509272424076488177 : Unit := ()
def PySem.W.Fast.tw13976978054564561569 : Unit := ()
def PySem.W.Fast.tw10537250371835292468 : Unit := ()
def PySem.W.Fast.tw607134101502275752 : Unit := ()
def PySem.W.Fast.tw17057664600175450739 : Unit := ()
def PySem.W.Fast.tw12511617835604053070 : Unit := ()
def PySem.W.Fast.tw132215500352309858 : Unit := ()
def PySem.W.Fast.tw840774772471239638 : Unit := ()
def PySem.W.Fast.tw17203135149936057137 : Unit := ()
def PySem.W.Fast.tw9836156566093302803 : Unit := ()
def PySem.W.Fast.tw17555203145812002833 : Unit := ()
def PySem.W.Fast.tw7607152621685435769 : Unit := ()
def PySem.W.Fast.tw2857867659353764662 : Unit := ()
def PySem.W.Fast.tw1430032516712879433 : Unit := ()
def PySem.W.Fast.tw8154802374311992782 : Unit := ()
def PySem.W.Fast.tw17090566027964733157 : Unit := ()
def PySem.W.Fast.tw11382967907360599959 : Unit := ()
def PySem.W.Fast.tw1933612949760515093 : Unit := ()
def PySem.W.Fast.tw10743580072529118860 : Unit := ()
def PySem.W.Fast.tw9568148665041382683 : Unit := ()
def PySem.W.Fast.tw1030070778686204402 : Unit := ()
def PySem.W.Fast.tw5722265019331206576 : Unit := ()
def PySem.W.Fast.tw4300645869759412420 : Unit := ()
def PySem.W.Fast.tw9738394684406368320 : Unit := ()
def PySem.W.Fast.tw4420469340047716818 : Unit := ()
def PySem.W.Fast.tw16090236646712990364 : Unit := ()
def PySem.W.Fast.tw16392197821746652114 : Unit := ()
def PySem.W.Fast.tw16064105617975193166 : Unit := ()
def PySem.W.Fast.tw13076120118434377563 : Unit := ()
def PySem.W.Fast.tw6733187186050049310 : Unit := ()
def PySem.W.Fast.tw4919423252488009463 : Unit := ()
def PySem.W.Fast.tw15746961928996013565 : Unit := ()
def PySem.W.Fast.tw17539502456978695628 : Unit := ()
def PySem.W.Fast.tw6016780777670185286 : Unit := ()
def PySem.W.Fast.tw14688297675380208139 : Unit := ()
def PySem.W.Fast.tw4782316031811161926 : Unit := ()
def PySem.W.Fast.tw5946787373061805199 : Unit := ()
def PySem.W.Fast.tw3286129873651988227 : Unit := ()
def PySem.W.Fast.tw11563747732951996937 : Unit := ()
def PySem.W.Fast.tw15568615770254947643 : Unit := ()
def PySem.W.Fast.tw500640077786866500 : Unit := ()
def PySem.W.Fast.tw6440002509419713246 : Unit := ()
def PySem.W.Fast.tw15755081506314286030 : Unit := ()
def PySem.W.Fast.tw9501683276388304236 : Unit := ()
def PySem.W.Fast.tw10126483549172033084 : Unit := ()
def PySem.W.Fast.tw13499614697265492940 : Unit := ()
def PySem.W.Fast.tw2195598466753028572 : Unit := ()
def PySem.W.Fast.tw14835897505819729545 : Unit := ()
def PySem.W.Fast.tw16948893527591117231 : Unit := ()
def PySem.W.Fast.tw10765991578657991595 : Unit := ()
def PySem.W.Fast.tw13774116760732806688 : Unit := ()
def PySem.W.Fast.tw12097264982619074061 : Unit := ()
def PySem.W.Fast.tw2778790037368677819 : Unit := ()
def PySem.W.Fast.tw11334205901003513860 : Unit := ()
def PySem.W.Fast.tw16972820826538074826 : Unit := ()
def PySem.W.Fast.tw1385645930739288544 : Unit := ()
def PySem.W.Fast.tw5591432366282402140 : Unit := ()
def PySem.W.Fast.tw6510455013165405590 : Unit := ()
def PySem.W.Fast.tw7823952113669587401 : Unit := ()
def PySem.W.Fast.tw11022932031080033480 : Unit := ()
def PySem.W.Fast.tw3363533034969880895 : Unit := ()
def PySem.W.Fast.tw5977744375953246563 : Unit := ()
def PySem.W.Fast.tw8344015367683834200 : Unit := ()
def PySem.W.Fast.tw7046784531517135272 : Unit := ()
def PySem.W.Fast.tw15586426342102182831 : Unit := ()
def PySem.W.Fast.tw3775965922733162153 : Unit := ()
def PySem.W.Fast.tw4463842173911638169 : Unit := ()
def PySem.W.Fast.tw1925818122081369709 : Unit := ()
def PySem.W.Fast.tw11141174732051368221 : Unit := ()
def PySem.W.Fast.tw1570717039612615424 : Unit := ()
def PySem.W.Fast.tw1252556084881401741 : Unit := ()
def PySem.W.Fast.tw3443166985560904896 : Unit := ()
def PySem.W.Fast.tw1712682540648686852 : Unit := ()
def PySem.W.Fast.tw578631786901317903 : Unit := ()
def PySem.W.Fast.tw12565697750716923606 : Unit := ()
def PySem.W.Fast.tw2998962363397141470 : Unit := ()
def PySem.W.Fast.tw1729150891717280711 : Unit := ()
def PySem.W.Fast.tw1032720324047750886 : Unit := ()
def PySem.W.Fast.tw2926170859082230969 : Unit := ()
def PySem.W.Fast.tw2992548375836175024 : Unit := ()
def PySem.W.Fast.tw10106556367908640476 : Unit := ()
def PySem.W.Fast.tw1080709355237955522 : Unit := ()
def PySem.W.Fast.tw3952583177887844570 : Unit := ()
def PySem.W.Fast.tw16653693474541111337 : Unit := ()
def PySem.W.Fast.tw5223279838771907149 : Unit := ()
def PySem.W.Fast.tw2529444912101820023 : Unit := ()
def PySem.W.Fast.tw17918706757784411406 : Unit := ()
def PySem.W.Fast.tw522430380612494594 : Unit := ()
def PySem.W.Fast.tw433252427525391636 : Unit := ()
def PySem.W.Fast.tw5446960931909120566 : Unit := ()
def PySem.W.Fast.tw7654668705453759761 : Unit := ()
def PySem.W.Fast.tw6166773646067935173 : Unit := ()
def PySem.W.Fast.tw17609859884475235046 : Unit := ()
def PySem.W.Fast.tw2307352189634557984 : Unit := ()
def PySem.W.Fast.tw5858813114850405627 : Unit := ()
def PySem.W.Fast.tw11085268812604279537 : Unit := ()
def PySem.W.Fast.tw10347432346304708402 : Unit := ()
def PySem.W.Fast.tw7947370455591153727 : Unit := ()
def PySem.W.Fast.tw15212516237474047539 : Unit := ()
def PySem.W.Fast.tw6813077333378368378 : Unit := ()
def PySem.W.Fast.tw13241277382738178678 : Unit := ()
def PySem.W.Fast.tw15578310924703270210 : Unit := ()
def PySem.W.Fast.tw8202678580925791423 : Unit := ()
def PySem.W.Fast.tw12673372057083436024 : Unit := ()
def PySem.W.Fast.tw7862689429705299454 : Unit := ()
def PySem.W.Fast.tw4725469238789423433 : Unit := ()
def PySem.W.Fast.tw3308998051954933011 : Unit := ()
def PySem.W.Fast.tw12417645799908911614 : Unit := ()
def PySem.W.Fast.tw13438616371750217453 : Unit := ()
def PySem.W.Fast.tw7508695894643221292 : Unit := ()
def PySem.W.Fast.tw13008561321171534772 : Unit := ()
def PySem.W.Fast.tw18146115188900567704 : Unit := ()
def PySem.W.Fast.tw6372846929542469483 : Unit := ()
def PySem.W.Fast.tw15155813891211661449 : Unit := ()
def PySem.W.Fast.tw10870376080933191524 : Unit := ()
def PySem.W.Fast.tw7019675345694045056 : Unit := ()
def PySem.W.Fast.tw12533117062072972338 : Unit := ()
def PySem.W.Fast.tw2047528632068565014 : Unit := ()
def PySem.W.Fast.tw13767679620668289006 : Unit := ()
def PySem.W.Fast.tw4983359984982557092 : Unit := ()
def PySem.W.Fast.tw11253307727944103228 : Unit := ()
def PySem.W.Fast.tw1287871479707353408 : Unit := ()
def PySem.W.Fast.tw18194058675759478906 : Unit := ()
def PySem.W.Fast.tw13627220533622254266 : Unit := ()
def PySem.W.Fast.tw11425478220790939649 : Unit := ()
def PySem.W.Fast.tw2436003313484751327 : Unit := ()
def PySem.W.Fast.tw17357341176359467269 : Unit := ()
def PySem.W.Fast.tw6722239045671998876 : Unit := ()
def PySem.W.Fast.tw16828508794604153377 : Unit := ()
def PySem.W.Fast.tw6594743517301118342 : Unit := ()
def PySem.W.Fast.tw1654130899512412732 : Unit := ()
def PySem.W.Fast.tw1880326204915477702 : Unit := ()
def PySem.W.Fast.tw9296937710749602584 : Unit := ()
def PySem.W.Fast.tw15901589195563397016 : Unit := ()
def PySem.W.Fast.tw12889364086146538264 : Unit := ()
def PySem.W.Fast.tw2977527677975815061 : Unit := ()
def PySem.W.Fast.tw14262005772670556124 : Unit := ()
def PySem.W.Fast.tw5518517661914342833 : Unit := ()
def PySem.W.Fast.tw6321732464232729539 : Unit := ()
def PySem.W.Fast.tw2410673725340799345 : Unit := ()
def PySem.W.Fast.tw17492203454519319403 : Unit := ()
def PySem.W.Fast.tw5675400130214465243 : Unit := ()
def PySem.W.Fast.tw6935378305299164847 : Unit := ()
def PySem.W.Fast.tw18247589426863413418 : Unit := ()
def PySem.W.Fast.tw8650852171034308415 : Unit := ()
def PySem.W.Fast.tw4673110127491517842 : Unit := ()
def PySem.W.Fast.tw6878827643966973243 : Unit := ()
def PySem.W.Fast.tw589035447365687895 : Unit := ()
def PySem.W.Fast.tw17372028542463824790 : Unit := ()
def PySem.W.Fast.tw10538015005666138192 : Unit := ()
def PySem.W.Fast.tw14008492901689672995 : Unit := ()
def PySem.W.Fast.tw15466830684399981983 : Unit := ()
def PySem.W.Fast.tw14467896825142000473 : Unit := ()
def PySem.W.Fast.tw10317437288453162424 : Unit := ()
def PySem.W.Fast.tw6120333512887909737 : Unit := ()
def PySem.W.Fast.tw8195198034455718592 : Unit := ()
def PySem.W.Fast.tw6848616975543421701 : Unit := ()
def PySem.W.Fast.tw2975947270544360661 : Unit := ()
def PySem.W.Fast.tw17012160924407903431 : Unit := ()
def PySem.W.Fast.tw6037200757931128063 : Unit := ()
def PySem.W.Fast.tw16902936923273321186 : Unit := ()
def PySem.W.Fast.tw3315657690573113373 : Unit := ()
def PySem.W.Fast.tw3510039186684129032 : Unit := ()
def PySem.W.Fast.tw7522437625777471092 : Unit := ()
def PySem.W.Fast.tw1264163339297913916 : Unit := ()
def PySem.W.Fast.tw250275994242312543 : Unit := ()
def PySem.W.Fast.tw18375980125096396918 : Unit := ()
def PySem.W.Fast.tw9584919662022499437 : Unit := ()
def PySem.W.Fast.tw8641527584992577754 : Unit := ()
def PySem.W.Fast.tw9815289039976738207 : Unit := ()
def PySem.W.Fast.tw6740826056137833012 : Unit := ()
def PySem.W.Fast.tw16523579189877123953 : Unit := ()
def PySem.W.Fast.tw8437568940508713058 : Unit := ()
def PySem.W.Fast.tw484887019097043597 : Unit := ()
def PySem.W.Fast.tw14870267737762264850 : Unit := ()
def PySem.W.Fast.tw9095298118748045035 : Unit := ()
def PySem.W.Fast.tw14267398794802983694 : Unit := ()
def PySem.W.Fast.tw7633341459666354198 : Unit := ()
def PySem.W.Fast.tw8929429174439216388 : Unit := ()
def PySem.W.Fast.tw14512589914527818428 : Unit := ()
def PySem.W.Fast.tw15481263785607204472 : Unit := ()
def PySem.W.Fast.tw15657531830832399968 : Unit := ()
def PySem.W.Fast.tw143759836340634195 : Unit := ()
def PySem.W.Fast.tw14833219480235354632 : Unit := ()
def PySem.W.Fast.tw17118779423907813977 : Unit := ()
def PySem.W.Fast.tw8018350237779724480 : Unit := ()
def PySem.W.Fast.tw10286995046961978659 : Unit := ()
def PySem.W.Fast.tw13736413755706271645 : Unit := ()
def PySem.W.Fast.tw16466453235181174128 : Unit := ()
def PySem.W.Fast.tw6308956060633619037 : Unit := ()
def PySem.W.Fast.tw838219124996402934 : Unit := ()
def PySem.W.Fast.tw5693223084052986195 : Unit := ()
def PySem.W.Fast.tw9837055155792325058 : Unit := ()
def PySem.W.Fast.tw5771490612840225498 : Unit := ()
def PySem.W.Fast.tw8396411945602140351 : Unit := ()
def PySem.W.Fast.tw14309797877933335943 : Unit := ()
def PySem.W.Fast.tw12403731217077567484 : Unit := ()
def PySem.W.Fast.tw17332991633206216988 : Unit := ()
def PySem.W.Fast.tw8864038462818464719 : Unit := ()
def PySem.W.Fast.tw9006266329388742990 : Unit := ()
def PySem.W.Fast.tw87844628864686440 : Unit := ()
def PySem.W.Fast.tw15421106880215102060 : Unit := ()
def PySem.W.Fast.tw10422457633170120678 : Unit := ()
def PySem.W.Fast.tw6500371535410905734 : Unit := ()
def PySem.W.Fast.tw6549871243078380542 : Unit := ()
def PySem.W.Fast.tw12387464287812982170 : Unit := ()
def PySem.W.Fast.tw2673342926600578787 : Unit := ()
def PySem.W.Fast.tw3166168342715497052 : Unit := ()
def PySem.W.Fast.tw6784568899259171908 : Unit := ()
def PySem.W.Fast.tw1243966735424098093 : Unit := ()
def PySem.W.Fast.tw4635491898921101430 : Unit := ()
def PySem.W.Fast.tw4475820192295126317 : Unit := ()
def PySem.W.Fast.tw3995296096802504559 : Unit := ()
def PySem.W.Fast.tw6288338823567144086 : Unit := ()
def PySem.W.Fast.tw6392013088187367023 : Unit := ()
def PySem.W.Fast.tw12866587657938491649 : Unit := ()
def PySem.W.Fast.tw6241700999960687093 : Unit := ()
def PySem.W.Fast.tw3593194013246522826 : Unit := ()
def PySem.W.Fast.tw12067575639550097834 : Unit := ()
def PySem.W.Fast.tw12619033931596272540 : Unit := ()
def PySem.W.Fast.tw7068033007122802544 : Unit := ()
def PySem.W.Fast.tw4305192405687576277 : Unit := ()
def PySem.W.Fast.tw9847877317861898485 : Unit := ()
def PySem.W.Fast.tw14290476954271751051 : Unit := ()
def PySem.W.Fast.tw995772398156045989 : Unit := ()
def PySem.W.Fast.tw17564789046562994133 : Unit := ()
def PySem.W.Fast.tw17658424998829247178 : Unit := ()
def PySem.W.Fast.tw6708721682530459980 : Unit := ()
def PySem.W.Fast.tw4688916104634055581 : Unit := ()
def PySem.W.Fast.tw12508854052934729555 : Unit := ()
def PySem.W.Fast.tw15958277909664689871 : Unit := ()
def PySem.W.Fast.tw9750358039486004464 : Unit := ()
def PySem.W.Fast.tw16127677443076352929 : Unit := ()
def PySem.W.Fast.tw8856505546105981747 : Unit := ()
def PySem.W.Fast.tw12405673596051759881 : Unit := ()
def PySem.W.Fast.tw5657833926367886922 : Unit := ()
def PySem.W.Fast.tw6277232650437388853 : Unit := ()
def PySem.W.Fast.tw17116619941562434904 : Unit := ()
def PySem.W.Fast.tw2338714522388841121 : Unit := ()
def PySem.W.Fast.tw13519048573664183103 : Unit := ()
def PySem.W.Fast.tw545826957257548343 : Unit := ()
def PySem.W.Fast.tw2547319565619204416 : Unit := ()
def PySem.W.Fast.tw16728280603599073413 : Unit := ()
def PySem.W.Fast.tw12768063694794107530 : Unit := ()
def PySem.W.Fast.tw1016669144083231334 : Unit := ()
def PySem.W.Fast.tw15339063911478227173 : Unit := ()
def PySem.W.Fast.tw12962123071358299302 : Unit := ()
def PySem.W.Fast.tw1728077248114759091 : Unit := ()
def PySem.W.Fast.tw42019422780461778 : Unit := ()
def PySem.W.Fast.tw5572529212739253652 : Unit := ()
def PySem.W.Fast.tw3389450230798560981 : Unit := ()
def PySem.W.Fast.tw3490839618028440684 : Unit := ()
def PySem.W.Fast.tw6419544459561170651 : Unit := ()
def PySem.W.Fast.tw7406236245317301070 : Unit := ()
def PySem.W.Fast.tw5745551165481793852 : Unit := ()
def PySem.W.Fast.tw2942130060018541891 : Unit := ()
def PySem.W.Fast.tw6900298421833297619 : Unit := ()
def PySem.W.Fast.tw6319122592996916156 : Unit := ()
def PySem.W.Fast.tw3564798531672816442 : Unit := ()
def PySem.W.Fast.tw4775139165143998852 : Unit := ()
def PySem.W.Fast.tw14893207953569208071 : Unit := ()
def PySem.W.Fast.tw6551013717943205135 : Unit := ()
def PySem.W.Fast.tw16020101232907349088 : Unit := ()
def PySem.W.Fast.tw13564860002738386850 : Unit := ()
def PySem.W.Fast.tw5315888166311877032 : Unit := ()
def PySem.W.Fast.tw8413035990717461478 : Unit := ()
def PySem.W.Fast.tw6030022697143128226 : Unit := ()
def PySem.W.Fast.tw12894620547577038544 : Unit := ()
def PySem.W.Fast.tw18306195420255447633 : Unit := ()
def PySem.W.Fast.tw3522755978503089108 : Unit := ()
def PySem.W.Fast.tw4562253862394937063 : Unit := ()
def PySem.W.Fast.tw2566603058276608078 : Unit := ()
def PySem.W.Fast.tw5356513534709125136 : Unit := ()
def PySem.W.Fast.tw6756025133384279846 : Unit := ()
def PySem.W.Fast.tw15762425954386744593 : Unit := ()
def PySem.W.Fast.tw5713951442036790637 : Unit := ()
def PySem.W.Fast.tw4223413762396294685 : Unit := ()
def PySem.W.Fast.tw7026278774925893818 : Unit := ()
def PySem.W.Fast.tw16803052370457613174 : Unit := ()
def PySem.W.Fast.tw1687787022711639831 : Unit := ()
def PySem.W.Fast.tw10946604971455063553 : Unit := ()
def PySem.W.Fast.tw9914842613838998276 : Unit := ()
def PySem.W.Fast.tw5220420104176485059 : Unit := ()
def PySem.W.Fast.tw1539225739767821335 : Unit := ()
def PySem.W.Fast.tw5493169749740882118 : Unit := ()
def PySem.W.Fast.tw11999272864925959274 : Unit := ()
def PySem.W.Fast.tw1891344355048637014 : Unit := ()
def PySem.W.Fast.tw612583906649861092 : Unit := ()
def PySem.W.Fast.tw1050384974432697857 : Unit := ()
def PySem.W.Fast.tw15382222443083588101 : Unit := ()
def PySem.W.Fast.tw13931622503196683120 : Unit := ()
def PySem.W.Fast.tw2189966348106763395 : Unit := ()
set_option maxRecDepth 100000 in
set_option maxHeartbeats 0 in
theorem PySem.Challenge.cw_biddingmoves_k77_claims_that_are_none_holds : PySem.Challenge.rw_biddingmoves_k77_claims_that_are_none.Holds := by
  w_on; o_law; k_head; (case hw => w_witness2)
  k_fill
  refine Vf.walkG (l := PySem.Challenge.rw_biddingmoves_k77_claims_that_are_none) (n := 63) (k := 11) (x := "script") (CX := fun w => L2.CX PySem.Challenge.rw_biddingmoves_k77_claims_that_are_none.prog w) rfl (by decide) rfl ⟨rfl, by decide, by decide⟩ (fun w h Y => PySem.W.kIn_of Y) ?F ?calm
  case calm => exact fun w H s e s' z => Tr.calm_of z
  case F =>
    intro w mg fa h Y KX G hmg
    refine' Tr.lawAt_of (m := Tr.m_law _) ((Tr.all_mk (P := PySem.Challenge.rw_biddingmoves_k77_claims_that_are_none.prog) (w := w) KX G hmg ?z_int ?z_len ?z_abs ?z_divmod ?z_range ?z_sorted ?z_set ?z_tuple ?z_list ?z_type ?z_str ?z_all ?Wp ?z_max ?z_min ?z_sum ?z_repr ?z_isinstance ?z_dict ?z_bool ?z_zip ?z_enumerate ?z_gcd ?z_lcm ?g_MOST_BOTTOM ?g_MOST_PLACES ?g_MOST_MOVES ?g__FORMS ?gl__FORMS ?gp0__FORMS ?gp1__FORMS ?gp2__FORMS ?gp3__FORMS ?gp4__FORMS ?a_m__law_dip ?l_m__law_dip ?c_m__law_dip ?k_m__law_dip ?a_m__law_any ?l_m__law_any ?c_m__law_any ?k_m__law_any ?a_m__law_none ?l_m__law_none ?c_m__law_none ?k_m__law_none ?a_m__law_shared ?l_m__law_shared ?c_m__law_shared ?k_m__law_shared ?a_m__law_low_v1 ?l_m__law_low_v1 ?c_m__law_low_v1 ?k_m__law_low_v1 ?a_m__law_bad_rows ?l_m__law_bad_rows ?c_m__law_bad_rows ?k_m__law_bad_rows ?a_m_is_row ?l_m_is_row ?c_m_is_row ?k_m_is_row ?a_m_is_integer ?l_m_is_integer ?c_m_is_integer ?k_m_is_integer ?a_m_is_fraction ?l_m_is_fraction ?c_m_is_fraction ?k_m_is_fraction ?a_m_is_string ?l_m_is_string ?c_m_is_string ?k_m_is_string ?a_m_is_one_of ?l_m_is_one_of ?c_m_is_one_of ?k_m_is_one_of ?a_m_has_form_ck ?l_m_has_form_ck ?c_m_has_form_ck ?k_m_has_form_ck ?a_m_is_ascending ?l_m_is_ascending ?c_m_is_ascending ?k_m_is_ascending ?a_m_is_share ?l_m_is_share ?c_m_is_share ?k_m_is_share ?a_m_is_part ?l_m_is_part ?c_m_is_part ?k_m_is_part ?a_m_arrows_of ?l_m_arrows_of ?c_m_arrows_of ?k_m_arrows_of ?a_m_first_stuck ?l_m_first_stuck ?c_m_first_stuck ?k_m_first_stuck ?a_m_is_letter ?l_m_is_letter ?c_m_is_letter ?k_m_is_letter ?a_m_is_arrows ?l_m_is_arrows ?c_m_is_arrows ?k_m_is_arrows ?a_m_is_pair ?l_m_is_pair ?c_m_is_pair ?k_m_is_pair ?a_m_are_rows ?l_m_are_rows ?c_m_are_rows ?k_m_are_rows ?a_m_is_moves ?l_m_is_moves ?c_m_is_moves ?k_m_is_moves ?a_m_is_checker_claim_ck ?l_m_is_checker_claim_ck ?c_m_is_checker_claim_ck ?k_m_is_checker_claim_ck ?a_m_is_table ?l_m_is_table ?c_m_is_table ?k_m_is_table ?a_m_numbers_of_ck ?l_m_numbers_of_ck ?c_m_numbers_of_ck ?k_m_numbers_of_ck ?a_m_lowest ?l_m_lowest ?c_m_lowest ?k_m_lowest ?a_m_middle ?l_m_middle ?c_m_middle ?k_m_middle ?a_m_follows_ck ?l_m_follows_ck ?c_m_follows_ck ?k_m_follows_ck ?a_m_are_needs_ck ?l_m_are_needs_ck ?c_m_are_needs_ck ?k_m_are_needs_ck ?a_m_is_below ?l_m_is_below ?c_m_is_below ?k_m_is_below ?a_m_difference ?l_m_difference ?c_m_difference ?k_m_difference ?a_m_total ?l_m_total ?c_m_total ?k_m_total ?a_m_keeps_the_win ?l_m_keeps_the_win ?c_m_keeps_the_win ?k_m_keeps_the_win ?a_m_is_true ?l_m_is_true ?c_m_is_true ?k_m_is_true ?a_m_are_needs_within_ck ?l_m_are_needs_within_ck ?c_m_are_needs_within_ck ?k_m_are_needs_within_ck ?a_m_accepts_ck ?l_m_accepts_ck ?c_m_accepts_ck ?k_m_accepts_ck ?a_m__law_path ?l_m__law_path ?c_m__law_path ?k_m__law_path ?a_m__law_right ?l_m__law_right ?c_m__law_right ?k_m__law_right ?a_m__law_urn ?l_m__law_urn ?c_m__law_urn ?k_m__law_urn ?a_m_law ?l_m_law ?c_m_law ?k_m_law)) ?math
    (case z_int => k_is)
    (case z_len => k_is)
    (case z_abs => k_is)
    (case z_divmod => k_is)
    (case z_range => k_is)
    (case z_sorted => k_is)
    (case z_set => k_is)
    (case z_tuple => k_is)
    (case z_list => k_is)
    (case z_type => k_is)
    (case z_str => k_is)
    (case z_all => k_is)
    (case Wp => k_is)
    (case z_max => k_is)
    (case z_min => k_is)
    (case z_sum => k_is)
    (case z_repr => k_is)
    (case z_isinstance => k_is)
    (case z_dict => k_is)
    (case z_bool => k_is)
    (case z_zip => k_is)
    (case z_enumerate => k_is)
    (case z_gcd => k_is)
    (case z_lcm => k_is)
    (case g_MOST_BOTTOM => k_is)
    (case g_MOST_PLACES => k_is)
    (case g_MOST_MOVES => k_is)
    (case g__FORMS => k_is)
    (case gl__FORMS => k_is)
    (case gp0__FORMS => k_is)
    (case gp1__FORMS => k_is)
    (case gp2__FORMS => k_is)
    (case gp3__FORMS => k_is)
    (case gp4__FORMS => k_is)
    (case a_m__law_dip => k_is)
    (case l_m__law_dip => k_is)
    (case c_m__law_dip => k_is)
    (case k_m__law_dip => k_is)
    (case a_m__law_any => k_is)
    (case l_m__law_any => k_is)
    (case c_m__law_any => k_is)
    (case k_m__law_any => k_is)
    (case a_m__law_none => k_is)
    (case l_m__law_none => k_is)
    (case c_m__law_none => k_is)
    (case k_m__law_none => k_is)
    (case a_m__law_shared => k_is)
    (case l_m__law_shared => k_is)
    (case c_m__law_shared => k_is)
    (case k_m__law_shared => k_is)
    (case a_m__law_low_v1 => k_is)
    (case l_m__law_low_v1 => k_is)
    (case c_m__law_low_v1 => k_is)
    (case k_m__law_low_v1 => k_is)
    (case a_m__law_bad_rows => k_is)
    (case l_m__law_bad_rows => k_is)
    (case c_m__law_bad_rows => k_is)
    (case k_m__law_bad_rows => k_is)
    (case a_m_is_row => k_is)
    (case l_m_is_row => k_is)
    (case c_m_is_row => k_is)
    (case k_m_is_row => k_is)
    (case a_m_is_integer => k_is)
    (case l_m_is_integer => k_is)
    (case c_m_is_integer => k_is)
    (case k_m_is_integer => k_is)
    (case a_m_is_fraction => k_is)
    (case l_m_is_fraction => k_is)
    (case c_m_is_fraction => k_is)
    (case k_m_is_fraction => k_is)
    (case a_m_is_string => k_is)
    (case l_m_is_string => k_is)
    (case c_m_is_string => k_is)
    (case k_m_is_string => k_is)
    (case a_m_is_one_of => k_is)
    (case l_m_is_one_of => k_is)
    (case c_m_is_one_of => k_is)
    (case k_m_is_one_of => k_is)
    (case a_m_has_form_ck => k_is)
    (case l_m_has_form_ck => k_is)
    (case c_m_has_form_ck => k_is)
    (case k_m_has_form_ck => k_is)
    (case a_m_is_ascending => k_is)
    (case l_m_is_ascending => k_is)
    (case c_m_is_ascending => k_is)
    (case k_m_is_ascending => k_is)
    (case a_m_is_share => k_is)
    (case l_m_is_share => k_is)
    (case c_m_is_share => k_is)
    (case k_m_is_share => k_is)
    (case a_m_is_part => k_is)
    (case l_m_is_part => k_is)
    (case c_m_is_part => k_is)
    (case k_m_is_part => k_is)
    (case a_m_arrows_of => k_is)
    (case l_m_arrows_of => k_is)
    (case c_m_arrows_of => k_is)
    (case k_m_arrows_of => k_is)
    (case a_m_first_stuck => k_is)
    (case l_m_first_stuck => k_is)
    (case c_m_first_stuck => k_is)
    (case k_m_first_stuck => k_is)
    (case a_m_is_letter => k_is)
    (case l_m_is_letter => k_is)
    (case c_m_is_letter => k_is)
    (case k_m_is_letter => k_is)
    (case a_m_is_arrows => k_is)
    (case l_m_is_arrows => k_is)
    (case c_m_is_arrows => k_is)
    (case k_m_is_arrows => k_is)
    (case a_m_is_pair => k_is)
    (case l_m_is_pair => k_is)
    (case c_m_is_pair => k_is)
    (case k_m_is_pair => k_is)
    (case a_m_are_rows => k_is)
    (case l_m_are_rows => k_is)
    (case c_m_are_rows => k_is)
    (case k_m_are_rows => k_is)
    (case a_m_is_moves => k_is)
    (case l_m_is_moves => k_is)
    (case c_m_is_moves => k_is)
    (case k_m_is_moves => k_is)
    (case a_m_is_checker_claim_ck => k_is)
    (case l_m_is_checker_claim_ck => k_is)
    (case c_m_is_checker_claim_ck => k_is)
    (case k_m_is_checker_claim_ck => k_is)
    (case a_m_is_table => k_is)
    (case l_m_is_table => k_is)
    (case c_m_is_table => k_is)
    (case k_m_is_table => k_is)
    (case a_m_numbers_of_ck => k_is)
    (case l_m_numbers_of_ck => k_is)
    (case c_m_numbers_of_ck => k_is)
    (case k_m_numbers_of_ck => k_is)
    (case a_m_lowest => k_is)
    (case l_m_lowest => k_is)
    (case c_m_lowest => k_is)
    (case k_m_lowest => k_is)
    (case a_m_middle => k_is)
    (case l_m_middle => k_is)
    (case c_m_middle => k_is)
    (case k_m_middle => k_is)
    (case a_m_follows_ck => k_is)
    (case l_m_follows_ck => k_is)
    (case c_m_follows_ck => k_is)
    (case k_m_follows_ck => k_is)
    (case a_m_are_needs_ck => k_is)
    (case l_m_are_needs_ck => k_is)
    (case c_m_are_needs_ck => k_is)
    (case k_m_are_needs_ck => k_is)
    (case a_m_is_below => k_is)
    (case l_m_is_below => k_is)
    (case c_m_is_below => k_is)
    (case k_m_is_below => k_is)
    (case a_m_difference => k_is)
    (case l_m_difference => k_is)
    (case c_m_difference => k_is)
    (case k_m_difference => k_is)
    (case a_m_total => k_is)
    (case l_m_total => k_is)
    (case c_m_total => k_is)
    (case k_m_total => k_is)
    (case a_m_keeps_the_win => k_is)
    (case l_m_keeps_the_win => k_is)
    (case c_m_keeps_the_win => k_is)
    (case k_m_keeps_the_win => k_is)
    (case a_m_is_true => k_is)
    (case l_m_is_true => k_is)
    (case c_m_is_true => k_is)
    (case k_m_is_true => k_is)
    (case a_m_are_needs_within_ck => k_is)
    (case l_m_are_needs_within_ck => k_is)
    (case c_m_are_needs_within_ck => k_is)
    (case k_m_are_needs_within_ck => k_is)
    (case a_m_accepts_ck => k_is)
    (case l_m_accepts_ck => k_is)
    (case c_m_accepts_ck => k_is)
    (case k_m_accepts_ck => k_is)
    (case a_m__law_path => k_is)
    (case l_m__law_path => k_is)
    (case c_m__law_path => k_is)
    (case k_m__law_path => k_is)
    (case a_m__law_right => k_is)
    (case l_m__law_right => k_is)
    (case c_m__law_right => k_is)
    (case k_m__law_right => k_is)
    (case a_m__law_urn => k_is)
    (case l_m__law_urn => k_is)
    (case c_m__law_urn => k_is)
    (case k_m__law_urn => k_is)
    (case a_m_law => k_is)
    (case l_m_law => k_is)
    (case c_m_law => k_is)
    (case k_m_law => k_is)
    case math => exact Tr.math77 _
