import PyProof.Rows.All
import Wide.All
import OpenK.AllK
import Wide.FinOn
import HandS.ForMost
import HandS.ForExc
import HandS.Wide
import HandS.IsInst
import HandS.AnyAll
import HandS.EndTab
import HandS.TupAny
import HandS.TupMul
import HandS.FStr
import HandS.StrMore
import HandS.WideBits
import KE.KxField
import HandS.Walk
import HandS.Replace
import HandS.Style
import HandS.Codes
import KE.KRevSl
import KE.KUnpackStar
import HandS.Zip
import HandS.GenList
import HandS.TupLen
import HandS.Deep
import HandS.ExcIs
import HandS.ExcOwn
import HandS.Set
import HandS.SetFor
import HandS.SetTxt0
import HandS.Strs
import PyProof.Rows.SortShellAny
import PyProof.SumWalk
import HandS.SuiteRaise
import HandS.HotCalls
import HandS.ExcInitHot
import HandS.ExcField
import KE.KExcIs
import HandS.More
import KE.KTryMore
import PySem.Challenge.RW_sealchart_k35_making_a_trusted_set
set_option Elab.async false
set_option linter.all false
set_option maxRecDepth 100000
set_option maxHeartbeats 2000000
namespace SC
open PySem L2

/-- the built-in names are the built-ins -/
structure Blt (mg : Str → Option Value) : Prop where
  len : mg "len" = none
  int : mg "int" = none
  str : mg "str" = none
  bool : mg "bool" = none
  list : mg "list" = none
  tuple : mg "tuple" = none
  range : mg "range" = none
  isinstance : mg "isinstance" = none
  ord : mg "ord" = none
  all : mg "all" = none
section
variable {X : Cx} {p p2 pos : Pos} {e : Expr} {es : List Expr} {t : TA}
theorem Blt.len_s (B : Blt X.mg) (ha : PA X (e :: es) t) (hg : Gl X "len" := by rfl) (he : starEach (e :: es) X.env = (false, eval e X.env) :: starEach es X.env := by rfl) (hpl : (backTo pos (starEach es X.env)).any (·.1) = false := by rfl) :
    PE X (.Call (.Name "len" p) (e :: es) [] pos) (tCB (fun xs H Q => ∃ z, xs = [.str z] ∧ z.length ≤ sizeLine ∧ Q (.int z.length) H) t) := pe_callB call_len_str hg B.len PySem.boot_len ha (he := he) (hpl := hpl)
theorem Blt.len_q (B : Blt X.mg) (ha : PA X (e :: es) t) (hg : Gl X "len" := by rfl) (he : starEach (e :: es) X.env = (false, eval e X.env) :: starEach es X.env := by rfl) (hpl : (backTo pos (starEach es X.env)).any (·.1) = false := by rfl) :
    PE X (.Call (.Name "len" p) (e :: es) [] pos) (tCB (fun xs H Q => ∃ p ys, xs = [.ref p] ∧ (SqL X.K H p ys ∨ SqT X.K H p ys) ∧ Q (.int ys.length) H) t) := pe_callB call_len_seq hg B.len PySem.boot_len ha (he := he) (hpl := hpl)
theorem call_intI : CallR X (.type "int") (fun xs H Q => ∃ i, xs = [.int i] ∧ Q (.int i) H) := fun pins s σ H xs us Q I r h => call_int1 pins s σ H xs us Q I r (.inl h)
theorem Blt.int_i (B : Blt X.mg) (ha : PA X (e :: es) t) (hg : Gl X "int" := by rfl) (he : starEach (e :: es) X.env = (false, eval e X.env) :: starEach es X.env := by rfl) (hpl : (backTo pos (starEach es X.env)).any (·.1) = false := by rfl) :
    PE X (.Call (.Name "int" p) (e :: es) [] pos) (tCB (fun xs H Q => ∃ i, xs = [.int i] ∧ Q (.int i) H) t) :=
  pe_callTy call_intI hg B.int (by decide +kernel) ha (he := he) (hpl := hpl)
theorem Blt.int_s (B : Blt X.mg) (ha : PA X (e :: es) t) (hg : Gl X "int" := by rfl) (he : starEach (e :: es) X.env = (false, eval e X.env) :: starEach es X.env := by rfl) (hpl : (backTo pos (starEach es X.env)).any (·.1) = false := by rfl) :
    PE X (.Call (.Name "int" p) (e :: es) [] pos) (tCB (fun xs H Q => ∃ a n, xs = [.str a] ∧ PySem.intText? a = some n ∧ a.length ≤ 640 ∧ Q (.int n) H) t) :=
  pe_callTy call_int_str hg B.int (by decide +kernel) ha (he := he) (hpl := hpl)
theorem Blt.str_i (B : Blt X.mg) (ha : PA X (e :: es) t) (hg : Gl X "str" := by rfl) (he : starEach (e :: es) X.env = (false, eval e X.env) :: starEach es X.env := by rfl) (hpl : (backTo pos (starEach es X.env)).any (·.1) = false := by rfl) :
    PE X (.Call (.Name "str" p) (e :: es) [] pos) (tCB (fun xs H Q => ∃ i, xs = [.int i] ∧ i.natAbs.log2 < 1920 ∧ Q (.str (toString i)) H) t) :=
  pe_callTy call_str_int hg B.str (by decide +kernel) ha (he := he) (hpl := hpl)
theorem Blt.isi (B : Blt X.mg) (ha : PA X (e :: es) t) (hg : Gl X "isinstance" := by rfl) (he : starEach (e :: es) X.env = (false, eval e X.env) :: starEach es X.env := by rfl) (hpl : (backTo pos (starEach es X.env)).any (·.1) = false := by rfl) :
    PE X (.Call (.Name "isinstance" p) (e :: es) [] pos) (tCB (rIsi X.K) t) := pe_callB call_isi hg B.isinstance (by decide +kernel) ha (he := he) (hpl := hpl)
theorem Blt.ord_ (B : Blt X.mg) (ha : PA X (e :: es) t) (hg : Gl X "ord" := by rfl) (he : starEach (e :: es) X.env = (false, eval e X.env) :: starEach es X.env := by rfl) (hpl : (backTo pos (starEach es X.env)).any (·.1) = false := by rfl) :
    PE X (.Call (.Name "ord" p) (e :: es) [] pos) (tCB (fun xs H Q => ∃ x, xs = [.str x] ∧ x.length = 1 ∧ Q (.int (x.cps.getD 0 0 : Nat)) H) t) :=
  pe_callB call_ord hg B.ord (by decide +kernel) ha (he := he) (hpl := hpl)
theorem Blt.tuple_l (B : Blt X.mg) (ha : PA X (e :: es) t) (hg : Gl X "tuple" := by rfl) (he : starEach (e :: es) X.env = (false, eval e X.env) :: starEach es X.env := by rfl) (hpl : (backTo pos (starEach es X.env)).any (·.1) = false := by rfl) :
    PE X (.Call (.Name "tuple" p) (e :: es) [] pos) (tCB (fun xs H Q => ∃ p ys, xs = [.ref p] ∧ ((SqL X.K H p ys ∧ ∀ l, H l = none → Q (.ref l) (upd H l (.tup ys))) ∨ (SqT X.K H p ys ∧ Q (.ref p) H))) t) :=
  pe_callTy call_tuple_of hg B.tuple (by decide +kernel) ha (he := he) (hpl := hpl)
theorem Blt.list_q (B : Blt X.mg) (ha : PA X (e :: es) t) (hg : Gl X "list" := by rfl) (he : starEach (e :: es) X.env = (false, eval e X.env) :: starEach es X.env := by rfl) (hpl : (backTo pos (starEach es X.env)).any (·.1) = false := by rfl) :
    PE X (.Call (.Name "list" p) (e :: es) [] pos) (tCB (fun xs H Q => ∃ p ys, xs = [.ref p] ∧ (SqL X.K H p ys ∨ SqT X.K H p ys) ∧ ∀ l, H l = none → Q (.ref l) (upd H l (.lst ys))) t) :=
  pe_callTy call_list_of hg B.list (by decide +kernel) ha (he := he) (hpl := hpl)
theorem Blt.v_int (B : Blt X.mg) (hg : Gl X "int" := by rfl) : PE X (.Name "int" p) (tC (.ty "int")) := pe_bltn hg B.int (by decide +kernel) rfl
theorem Blt.v_str (B : Blt X.mg) (hg : Gl X "str" := by rfl) : PE X (.Name "str" p) (tC (.ty "str")) := pe_bltn hg B.str (by decide +kernel) rfl
theorem Blt.v_bool (B : Blt X.mg) (hg : Gl X "bool" := by rfl) : PE X (.Name "bool" p) (tC (.ty "bool")) := pe_bltn hg B.bool (by decide +kernel) rfl
theorem Blt.v_list (B : Blt X.mg) (hg : Gl X "list" := by rfl) : PE X (.Name "list" p) (tC (.ty "list")) := pe_bltn hg B.list (by decide +kernel) rfl
theorem Blt.v_tuple (B : Blt X.mg) (hg : Gl X "tuple" := by rfl) : PE X (.Name "tuple" p) (tC (.ty "tuple")) := pe_bltn hg B.tuple (by decide +kernel) rfl
theorem Blt.range1 (B : Blt X.mg) {tg : Expr} (ha : PA X [e] t) (hg : Gl X "range" := by rfl) (hs : starEach [e] X.env = [(false, eval e X.env)] := by rfl) : PI X tg (.Call (.Name "range" p) [e] [] pos) (iRng1 t) := pi_range1 hg B.range ha hs
end

section
variable {X : Cx}
/-- the same rules for what is tracked: the item list is told by the heap -/
theorem ix_lM : IxR X (fun x y H Q => ∃ p xs i v, x = .ref p ∧ H p = some (.lst xs) ∧ y = .int i ∧ atI xs i = some v ∧ Q v H) := by
  intro value slice pins s σ H x y v u Q I rx ry h hs
  obtain ⟨p, xs, i, z, e1, hp, e2, he, q⟩ := h
  exact ix_list value slice pins s σ H x y v u Q I rx ry ⟨p, xs, i, z, e1, e2, SqL.of hp, he, q⟩ hs
theorem ix_tM : IxR X (fun x y H Q => ∃ p xs i v, x = .ref p ∧ H p = some (.tup xs) ∧ y = .int i ∧ atI xs i = some v ∧ Q v H) := by
  intro value slice pins s σ H x y v u Q I rx ry h hs
  obtain ⟨p, xs, i, z, e1, hp, e2, he, q⟩ := h
  exact ix_tup value slice pins s σ H x y v u Q I rx ry ⟨p, xs, i, z, e1, e2, SqT.of hp, he, q⟩ hs
end
/-- a def of the text that keeps its promise, by its name -/
structure Cal (P : Program) (w : World) (K : PySem.W.Frag) (mg : Str → Option Value) (base : Heap) (CX : CXT) (k : Nat) (x : Str) (sp : Sp) : Prop where
  ex : ∃ f fd ps, FnOk P w K mg base CX k f fd ps sp ∧ mg x = some (.ref f) ∧ PySem.W.keepIn K (.ref f) = true ∧ Binds K fd ps []
section
variable {P : Program} {w : World} {K : PySem.W.Frag} {mg : Str → Option Value} {base : Heap} {CX : CXT} {x qual : Str} {sp : Sp}
theorem Cal.mono {j k : Nat} (c : Cal P w K mg base CX j x sp) (h : j ≤ k) : Cal P w K mg base CX k x sp :=
  let ⟨f, fd, ps, F, m, kp, b⟩ := c.ex
  ⟨f, fd, ps, F.mono h, m, kp, b⟩
theorem Cal.imp {k : Nat} {sp' : Sp} (c : Cal P w K mg base CX k x sp) (h : ∀ vs H Q E, sp' vs H Q E → sp vs H Q E) : Cal P w K mg base CX k x sp' :=
  let ⟨f, fd, ps, F, m, kp, b⟩ := c.ex
  ⟨f, fd, ps, F.imp h, m, kp, b⟩
end
section
variable {X : Cx} {x : Str} {p pos : Pos} {e : Expr} {es : List Expr} {t : TA} {sp : Sp} {j k : Nat} {CX : CXT} {E : XK}
/-- its call, what it raises passes as hx says -/
theorem Cal.pex (c : Cal X.prog X.w X.K X.mg X.base CX j x sp) (hr : Room k X.A) (hx : Passes CX X E) (ha : PA X (e :: es) t) (hjk : j ≤ k := by first | decide | omega) (hg : Gl X x := by rfl) (hdb : (x == ("__debug__" : Str)) = false := by decide)
    (he : starEach (e :: es) X.env = (false, eval e X.env) :: starEach es X.env := by rfl) (hpl : (backTo pos (starEach es X.env)).any (·.1) = false := by rfl) :
    PE X (.Call (.Name x p) (e :: es) [] pos) (tCall sp [] E t) :=
  let ⟨_, _, _, F, m, kp, b⟩ := c.ex
  pe_call F (hr.mono hjk) hg m kp b .nil hx ha hdb he hpl
theorem Cal.pe (c : Cal X.prog X.w X.K X.mg X.base CX0 j x sp) (hr : Room k X.A) (ha : PA X (e :: es) t) (hjk : j ≤ k := by first | decide | omega) (hg : Gl X x := by rfl) (hdb : (x == ("__debug__" : Str)) = false := by decide)
    (he : starEach (e :: es) X.env = (false, eval e X.env) :: starEach es X.env := by rfl) (hpl : (backTo pos (starEach es X.env)).any (·.1) = false := by rfl) :
    PE X (.Call (.Name x p) (e :: es) [] pos) (tCall sp [] E0 t) := c.pex hr pass0 ha hjk hg hdb he hpl
theorem Cal.pe0 (c : Cal X.prog X.w X.K X.mg X.base CX0 j x sp) (hr : Room k X.A) (hjk : j ≤ k := by first | decide | omega) (hg : Gl X x := by rfl) (hdb : (x == ("__debug__" : Str)) = false := by decide) :
    PE X (.Call (.Name x p) [] [] pos) (tCall sp [] E0 tNil) :=
  let ⟨_, _, _, F, m, kp, b⟩ := c.ex
  pe_call0 F (hr.mono hjk) hg m kp b .nil pass0 hdb
/-- of a def that may raise, where it does not -/
theorem Cal.peL (c : Cal X.prog X.w X.K X.mg X.base (L2.CX X.prog X.w) j x sp) (hr : Room k X.A) (ha : PA X (e :: es) t) (hjk : j ≤ k := by first | decide | omega) (hg : Gl X x := by rfl) (hdb : (x == ("__debug__" : Str)) = false := by decide)
    (he : starEach (e :: es) X.env = (false, eval e X.env) :: starEach es X.env := by rfl) (hpl : (backTo pos (starEach es X.env)).any (·.1) = false := by rfl) :
    PE X (.Call (.Name x p) (e :: es) [] pos) (tCall sp [] E0 t) := c.pex hr passL ha hjk hg hdb he hpl
end

/-- what was tracked outside S is as it was; tuples stand -/
structure Kp (S : List Addr) (H H' : Hp) : Prop where
  keep : ∀ b o, b ∉ S → H b = some o → H' b = some o
  tup : ∀ b xs, H b = some (.tup xs) → H' b = some (.tup xs)
theorem Kp.refl (S : List Addr) (H : Hp) : Kp S H H := ⟨fun _ _ _ h => h, fun _ _ h => h⟩
theorem Kp.trans {S : List Addr} {H H1 H2 : Hp} (a : Kp S H H1) (b : Kp S H1 H2) : Kp S H H2 := ⟨fun c o n h => b.keep c o n (a.keep c o n h), fun c xs h => b.tup c xs (a.tup c xs h)⟩
theorem Kp.new {S : List Addr} {H : Hp} {p : Addr} (h : H p = none) (o : HO) : Kp S H (upd H p o) :=
  ⟨fun b u _ q => by rw [upd_ne (ne_of_none q h)]; exact q, fun b u q => by rw [upd_ne (ne_of_none q h)]; exact q⟩
theorem Kp.lst {S : List Addr} {H : Hp} {p : Addr} {xs ys : List V} (h : H p = some (.lst xs)) (m : p ∈ S) : Kp S H (upd H p (.lst ys)) :=
  ⟨fun b u n q => by rw [upd_ne (fun z => n (by rw [z]; exact m))]; exact q, fun b u q => by rw [upd_ne (ne_of q h (by intro z; cases z))]; exact q⟩
theorem Kp.mono {S S' : List Addr} {H H' : Hp} (a : Kp S H H') (h : ∀ b ∈ S, b ∈ S') : Kp S' H H' := ⟨fun b o n q => a.keep b o (fun z => n (h b z)) q, a.tup⟩
/-- what was not there may change -/
theorem Kp.drop {S : List Addr} {H H' : Hp} {p : Addr} (h : H p = none) (a : Kp (p :: S) H H') : Kp S H H' :=
  ⟨fun b o n q => a.keep b o (fun z => by
    rcases List.mem_cons.mp z with z | z
    · rw [z, h] at q; cases q
    · exact n z) q, a.tup⟩
theorem Kp.upd {S : List Addr} {H H' : Hp} {p : Addr} {xs ys : List V} (a : Kp S H H') (h : H p = none) (e : H' p = some (.lst xs)) : Kp S H (upd H' p (.lst ys)) :=
  Kp.drop h ((a.mono fun b hb => List.mem_cons_of_mem _ hb).trans (Kp.lst e List.mem_cons_self))
theorem Kp.seqL {K : PySem.W.Frag} {S : List Addr} {H H' : Hp} {a : Addr} {xs : List V} (e : Kp S H H') (n : a ∉ S) (h : SqL K H a xs) : SqL K H' a xs := by
  rcases h with (h | ⟨o, h⟩) | h
  · exact .inl (.inl (e.keep _ _ n h))
  · exact .inl (.inr ⟨o, e.keep _ _ n h⟩)
  · exact .inr h
theorem Kp.tab {P : Addr} {S : List Addr} {H H' : Hp} (hG : GxR.TabG H P) (t : GxR.Tabbed P H H') (m : P ∈ S) : Kp S H H' := by
  obtain ⟨ps, e, _⟩ := hG
  refine ⟨fun b o n q => ?_, fun b xs q => ?_⟩
  · rw [t.2 b (fun z => n (by rw [z]; exact m))]; exact q
  · rw [t.2 b (ne_of q e (by intro z; cases z))]; exact q
/-- a stream of the law's: a list of two ints -/
def Strm (H : Hp) (s : Addr) : Prop := ∃ a b : Int, H s = some (.lst [.int a, .int b])
theorem Strm.mk {H : Hp} {s : Addr} {a b : Int} : Strm (upd H s (.lst [.int a, .int b])) s := ⟨a, b, upd_same⟩
theorem Strm.nT {H : Hp} {s P : Addr} (h : Strm H s) (g : GxR.TabG H P) : s ≠ P := by
  obtain ⟨a, b, e⟩ := h
  obtain ⟨ps, q, _⟩ := g
  exact ne_of e q (by intro z; cases z)
theorem Strm.kp {H H' : Hp} {s : Addr} {S : List Addr} (h : Strm H s) (k : Kp S H H') (n : s ∉ S) : Strm H' s := let ⟨a, b, e⟩ := h; ⟨a, b, k.keep _ _ n e⟩
theorem tabG_kp {H H' : Hp} {P : Addr} {S : List Addr} (h : GxR.TabG H P) (k : Kp S H H') (n : P ∉ S) : GxR.TabG H' P := let ⟨a, e, q⟩ := h; ⟨a, k.keep _ _ n e, q⟩

/-- the built-in type of a value, by the tracked heap -/
def tyN (H : Hp) : V → Option String
  | .non => some "NoneType" | .bl _ => some "bool" | .int _ => some "int" | .str _ => some "str"
  | .ref p => match H p with
    | some (.lst _) => some "list"
    | some (.tup _) => some "tuple"
    | some (.dK _) => some "dict"
    | _ => none
  | _ => none
theorem tyN_ok {K : PySem.W.Frag} {H : Hp} {v : V} {t : String} (h : tyN H v = some t) : TyX K H v (.type t) := by
  cases v with
  | non => cases h; exact .base .non
  | bl b => cases h; exact .base (.bl b)
  | int i => cases h; exact .base (.int i)
  | str z => cases h; exact .base (.str z)
  | ref p =>
    unfold tyN at h
    simp only at h
    split at h
    · rename_i xs e; cases h; exact .base (.lst e)
    · rename_i xs e; cases h; exact .base (.tup e)
    · rename_i xs e; cases h; exact .base (.dK e)
    · cases h
  | _ => cases h
theorem tyN_lst {H : Hp} {p : Addr} {xs : List V} (h : H p = some (.lst xs)) : tyN H (.ref p) = some "list" := by unfold tyN; simp only [h]
theorem tyN_tup {H : Hp} {p : Addr} {xs : List V} (h : H p = some (.tup xs)) : tyN H (.ref p) = some "tuple" := by unfold tyN; simp only [h]
theorem tyN_dK {H : Hp} {p : Addr} {xs : List (Key × V)} (h : H p = some (.dK xs)) : tyN H (.ref p) = some "dict" := by unfold tyN; simp only [h]
/-- whether the first type is one of the second -/
def isaB (t c : String) : Bool := t == c || (t == "bool" && c == "int")
theorem kit_isaB {t c : String} (ht : t ∈ ["NoneType", "bool", "int", "str", "list", "tuple", "dict"]) (hc : c ∈ ["bool", "int", "str", "list", "tuple"]) : kitB t c = some (isaB t c) := by
  simp only [List.mem_cons, List.not_mem_nil, or_false] at ht hc
  rcases ht with rfl | rfl | rfl | rfl | rfl | rfl | rfl <;> rcases hc with rfl | rfl | rfl | rfl | rfl <;> decide +kernel
theorem tyN_in {H : Hp} {v : V} {t : String} (h : tyN H v = some t) : t ∈ ["NoneType", "bool", "int", "str", "list", "tuple", "dict"] := by
  unfold tyN at h
  split at h
  · cases h; decide
  · cases h; decide
  · cases h; decide
  · cases h; decide
  · split at h
    · cases h; decide
    · cases h; decide
    · cases h; decide
    · cases h
  · cases h
section
variable {X : Cx} {p pos : Pos} {e : Expr} {es : List Expr} {t : TA}
/-- len of a tracked tuple, of a tracked list -/
theorem Blt.len_t (B : Blt X.mg) (ha : PA X (e :: es) t) (hg : Gl X "len" := by rfl) (he : starEach (e :: es) X.env = (false, eval e X.env) :: starEach es X.env := by rfl) (hpl : (backTo pos (starEach es X.env)).any (·.1) = false := by rfl) :
    PE X (.Call (.Name "len" p) (e :: es) [] pos) (tCB (fun xs H Q => ∃ p ys, xs = [.ref p] ∧ H p = some (.tup ys) ∧ Q (.int ys.length) H) t) :=
  pe_callB (fun pins s σ H xs us Q I r ⟨p, ys, e1, e2, q⟩ => call_len_seq pins s σ H xs us Q I r ⟨p, ys, e1, .inr (SqT.of e2), q⟩) hg B.len PySem.boot_len ha (he := he) (hpl := hpl)
theorem Blt.len_l (B : Blt X.mg) (ha : PA X (e :: es) t) (hg : Gl X "len" := by rfl) (he : starEach (e :: es) X.env = (false, eval e X.env) :: starEach es X.env := by rfl) (hpl : (backTo pos (starEach es X.env)).any (·.1) = false := by rfl) :
    PE X (.Call (.Name "len" p) (e :: es) [] pos) (tCB (fun xs H Q => ∃ p ys, xs = [.ref p] ∧ H p = some (.lst ys) ∧ Q (.int ys.length) H) t) :=
  pe_callB (fun pins s σ H xs us Q I r ⟨p, ys, e1, e2, q⟩ => call_len_seq pins s σ H xs us Q I r ⟨p, ys, e1, .inl (SqL.of e2), q⟩) hg B.len PySem.boot_len ha (he := he) (hpl := hpl)
end
section
variable {X : Cx} {p p2 pos : Pos} {e : Expr} {te : TE} {c : Str} {cs : String}
/-- a reading that may be weakened -/
def tMono (te : TE) : TE := fun σ H Q => ∃ Q0 : VK, te σ H Q0 ∧ ∀ x H1, Q0 x H1 → Q x H1
theorem pe_mono (he : PE X e te) : PE X e (tMono te) := ⟨fun pins s σ H Q I ⟨Q0, q, m⟩ => thn (he.run pins s σ H Q0 I q) fun u s1 ⟨v, H1, J, r, z⟩ => ⟨v, H1, J, r, m v H1 z⟩⟩
/-- isinstance(e, T), T a built-in type's name: told by the tracked heap -/
def tIsT (c : String) (te : TE) : TE := fun σ H Q => te σ H fun x H1 => ∃ t, tyN H1 x = some t ∧ Q (.bl (isaB t c)) H1
theorem Blt.isT (B : Blt X.mg) (he : PE X e te) (hc : PE X (.Name c p2) (tC (.ty cs))) (hm : cs ∈ ["bool", "int", "str", "list", "tuple"] := by decide) (hg : Gl X "isinstance" := by rfl) (hs : starEach [e, .Name c p2] X.env = (false, eval e X.env) :: starEach [.Name c p2] X.env := by rfl)
    (hs2 : starEach [.Name c p2] X.env = (false, eval (.Name c p2) X.env) :: starEach [] X.env := by rfl) (hpl : (backTo pos (starEach [.Name c p2] X.env)).any (·.1) = false := by rfl) :
    PE X (.Call (.Name "isinstance" p) [e, .Name c p2] [] pos) (tIsT cs te) := by
  have h := Blt.isi (p := p) (pos := pos) B (pa_cons (pe_mono he) (pa_cons hc pa_nil hs2) hs) hg hs hpl
  exact ⟨fun pins s σ H Q I q => h.run pins s σ H Q I ⟨_, q, fun x H1 ⟨t, h1, h2⟩ => ⟨x, .ty cs, .type t, .type cs, isaB t cs, rfl, .ty cs, tyN_ok h1, kit_ty (kit_isaB (tyN_in h1) hm), h2⟩⟩⟩
end

theorem tyN_ref {H : Hp} {p : Addr} {t : String} (h : tyN H (.ref p) = some t) : t = "list" ∨ t = "tuple" ∨ t = "dict" := by
  unfold tyN at h
  simp only at h
  split at h
  · cases h; exact .inl rfl
  · cases h; exact .inr (.inl rfl)
  · cases h; exact .inr (.inr rfl)
  · cases h
theorem isa_str {H : Hp} {v : V} {t : String} (h : tyN H v = some t) (q : isaB t "str" = true) : ∃ z, v = .str z := by
  cases v with
  | str z => exact ⟨z, rfl⟩
  | ref p => rcases tyN_ref h with rfl | rfl | rfl <;> exact absurd q (by decide)
  | _ => cases h <;> exact absurd q (by decide)
theorem isa_int {H : Hp} {v : V} {t : String} (h : tyN H v = some t) (q : isaB t "int" = true) : (∃ z, v = .int z) ∨ ∃ b, v = .bl b := by
  cases v with
  | int z => exact .inl ⟨z, rfl⟩
  | bl b => exact .inr ⟨b, rfl⟩
  | ref p => rcases tyN_ref h with rfl | rfl | rfl <;> exact absurd q (by decide)
  | _ => cases h <;> exact absurd q (by decide)
theorem isa_bool {H : Hp} {v : V} {t : String} (h : tyN H v = some t) (q : isaB t "bool" = true) : ∃ b, v = .bl b := by
  cases v with
  | bl b => exact ⟨b, rfl⟩
  | ref p => rcases tyN_ref h with rfl | rfl | rfl <;> exact absurd q (by decide)
  | _ => cases h <;> exact absurd q (by decide)
theorem isa_tuple {H : Hp} {v : V} {t : String} (h : tyN H v = some t) (q : isaB t "tuple" = true) : ∃ p xs, v = .ref p ∧ H p = some (.tup xs) := by
  cases v with
  | ref p =>
    unfold tyN at h
    simp only at h
    split at h
    · cases h; exact absurd q (by decide)
    · rename_i xs e; exact ⟨p, xs, rfl, e⟩
    · cases h; exact absurd q (by decide)
    · cases h
  | _ => cases h <;> exact absurd q (by decide)
theorem isaB_all : isaB "NoneType" "bool" = false ∧ isaB "NoneType" "int" = false ∧ isaB "NoneType" "str" = false ∧ isaB "NoneType" "list" = false ∧ isaB "NoneType" "tuple" = false ∧
  isaB "bool" "bool" = true ∧ isaB "bool" "int" = true ∧ isaB "bool" "str" = false ∧ isaB "bool" "list" = false ∧ isaB "bool" "tuple" = false ∧
  isaB "int" "bool" = false ∧ isaB "int" "int" = true ∧ isaB "int" "str" = false ∧ isaB "int" "list" = false ∧ isaB "int" "tuple" = false ∧
  isaB "str" "bool" = false ∧ isaB "str" "int" = false ∧ isaB "str" "str" = true ∧ isaB "str" "list" = false ∧ isaB "str" "tuple" = false ∧
  isaB "list" "bool" = false ∧ isaB "list" "int" = false ∧ isaB "list" "str" = false ∧ isaB "list" "list" = true ∧ isaB "list" "tuple" = false ∧
  isaB "tuple" "bool" = false ∧ isaB "tuple" "int" = false ∧ isaB "tuple" "str" = false ∧ isaB "tuple" "list" = false ∧ isaB "tuple" "tuple" = true ∧
  isaB "dict" "bool" = false ∧ isaB "dict" "int" = false ∧ isaB "dict" "str" = false ∧ isaB "dict" "list" = false ∧ isaB "dict" "tuple" = false := by decide
theorem tyN_non {H : Hp} : tyN H .non = some "NoneType" := rfl
theorem tyN_bl {H : Hp} {b : Bool} : tyN H (.bl b) = some "bool" := rfl
theorem tyN_int {H : Hp} {b : Int} : tyN H (.int b) = some "int" := rfl
theorem tyN_str {H : Hp} {b : Str} : tyN H (.str b) = some "str" := rfl
theorem ixN_20 : ixN 2 0 = some 0 := rfl
theorem ixN_21 : ixN 2 1 = some 1 := rfl
theorem ixN_10 : ixN 1 0 = some 0 := rfl
theorem at0 {α : Type} {a : α} {l : List α} : atI (a :: l) 0 = some a := atI_nat (j := 0) rfl
theorem at1 {α : Type} {a b : α} {l : List α} : atI (a :: b :: l) 1 = some b := atI_nat (j := 1) rfl
theorem if_dec {p : Prop} [Decidable p] {A B : Prop} (h1 : p → A) (h2 : ¬ p → B) : if decide p = true then A else B := by
  by_cases c : p
  · rw [decide_eq_true c]; exact iteT (h1 c)
  · rw [decide_eq_false c]; exact iteF (h2 c)
theorem gsOf {env : Env} {scope : Scope} {x : Str} (h : (match scope.kind with | .function => true | _ => false) && !scope.isCoroutine && (scope.names.all fun y => match y.2 with | .cell => false | .free => false | _ => true) && (match scope.names.lookup (".0" : Str) with | some .local => true | _ => false) = true)
    (hx : (match scope.names.lookup x with | some .local => true | _ => false) = true) : GxR.GenS env scope x := by
  simp only [Bool.and_eq_true, List.all_eq_true] at h
  obtain ⟨⟨⟨h1, h2⟩, h3⟩, h4⟩ := h
  refine ⟨?_, by simpa using h2, fun y hy e => ?_, ?_, ?_, fun y hy e => ?_⟩
  · split at h1
    · assumption
    · cases h1
  · have := h3 y hy; rw [e] at this; cases this
  · split at h4
    · assumption
    · cases h4
  · split at hx
    · assumption
    · cases hx
  · have := h3 y hy; rw [e] at this; cases this
/-- the empty text joins -/
theorem joinL_nil : ∀ l : List (List Nat), TL.joinL [] l = l.flatten
  | [] => rfl
  | [p] => by simp [TL.joinL]
  | p :: q :: r => by
    show p ++ ([] ++ TL.joinL [] (q :: r)) = _
    rw [joinL_nil (q :: r)]
    simp
theorem tl_joinE (ys : List Str) : TL.tl (Txt.join (Str.ofString "") ys) = (ys.map TL.tl).flatten := by
  rw [TL.join_eq, TL.tl_join]
  exact joinL_nil _
/-- one-sign texts -/
def sgs (cs : List Nat) : List Str := cs.map fun c => (⟨#[c]⟩ : Str)
theorem tl_sgs (cs : List Nat) : TL.tl (Txt.join (Str.ofString "") (sgs cs)) = cs := by
  rw [tl_joinE]
  unfold sgs
  rw [List.map_map]
  induction cs with
  | nil => rfl
  | cons c r ih => rw [List.map_cons, List.flatten_cons, ih]; rfl
theorem sgs_sum (cs : List Nat) : ((sgs cs).map (·.length)).sum = cs.length := by
  unfold sgs
  rw [List.map_map]
  induction cs with
  | nil => rfl
  | cons c r ih => rw [List.map_cons, List.sum_cons, ih]; show 1 + r.length = r.length + 1; omega
theorem sgs_len (cs : List Nat) : (sgs cs).length = cs.length := List.length_map _
theorem sgs_add (cs : List Nat) (c : Nat) : (sgs cs).map V.str ++ [.str ⟨#[c]⟩] = (sgs (cs ++ [c])).map V.str := by unfold sgs; simp
end SC

/-! all(test for mark in text), the test one that reads built-ins and globals too -/
namespace SC
open PySem PySem.Spec PyProof.Rows L2
open GxR (TabB TabG Tabbed Ready GenS keeps_tok trF trF_some all_signs inv_tab sh_eta)
/-- what the element may lean on: the module's names, the built-ins -/
structure Names2 (h : Heap) (mg : Str → Option Value) : Prop where
  glob : h.Ns mainGlobals mg
  blt : ∃ mb, h.Ns builtinsNs mb ∧ ∀ x : Str, x ≠ "__name__" → mb x = bootBuiltins x
def EltX (prog : Program) (w : World) (mg : Str → Option Value) (scope : Scope) (x : Str) (elt : Expr) (pb : Nat → Bool) : Prop :=
  ∀ (ce : Env) (A' : Around) (E' : Value → Shared → Prop) (c : Nat) (t : Tok) (s2 : Shared) (m2 : Str → Option Value), ce.scope = scope → ce.globals = mainGlobals → ce.builtins = builtinsNs → Names2 s2.heap mg →
    s2.heap.Ns ce.locals m2 → m2 x = some (.str ⟨#[c]⟩ t) → wpAny (model prog w) A' (eval elt ce) (fun y s3 => y = .bool (pb c) ∧ Keeps s2 s3) E' s2
section
variable {X : Cx} {pins : List (Addr × Obj)} {σ : L2.St} {H : Hp} {s : Shared}
theorem gen_mk {c P : Addr} {elt iter : Expr} {x : Str} {px gpos : Pos} {scope : Scope} {pb : Nat → Bool} {te : TE} {k : Nat} {Q' : Value → Shared → Prop} {R : Str → Hp → Prop}
    (hr : Room k X.A) (TB : TabB X.base X.mg c P) (hcode : X.env.code = .ref c) (S : GenS X.env scope x) (hi : PE X iter te) (hel : EltX X.prog X.w X.mg scope x elt pb)
    (hs : ∀ v, genFold iter X.env v = pure v) (I : Inv X pins σ H s) (h : te σ H fun v H1 => ∃ a : Str, v = .str a ∧ TabG H1 P ∧ R a H1)
    (hQ : ∀ a H1 g s5, R a H1 → Ready X pins σ H1 P a pb g s5 → Q' (.ref g) s5) :
    wpAny (model X.prog X.w) X.A (eval (.GeneratorExp elt [⟨.Name x px, iter, [], 0⟩] scope gpos) X.env) Q' X.xe s := by
  refine wpAny_GeneratorExp_walksQ hr.hd S.co (closure_ok S.free) S.cell S.dot S.loc S.kind (by have := hr.dp; omega) ?_ hs
  refine thn (hi.run pins s σ H _ I h) fun xv t1 ⟨v, H1, J, rv, a, ev, ⟨ps, hP, htr⟩, hR⟩ => ?_
  subst ev
  obtain ⟨tk1, rfl⟩ := rv
  refine wpAny_pyIter_str fun o St W hst => ?_
  have hPs : t1.heap.get? P = some { cls := .none, data := .fields ps } := J.hok P _ hP
  have hPlt := Heap.lt_size hPs
  have up : ∀ b u, t1.heap.get? b = some u → (t1.heap.push o).get? b = some u := fun b u e => Heap.get?_push_of_some _ e
  have cd : PySem.W.CodeHd (t1.heap.push o) c P := TB.code.keeps fun b u e => up b u (J.bk b u e)
  have lim : (t1.heap.push o).NoLimit := J.nolimit.push o
  have hclt : cStatics < t1.heap.objs.size := let ⟨_, hn, _⟩ := J.nolimit; hn.lt
  have hsz1 : (t1.heap.push o).objs.size = t1.heap.objs.size + 1 := Heap.size_push ..
  refine ⟨lim, ?_⟩
  have go : ∀ (code : Value) (h3 : Heap) (tk : Nat) (qs : Array Value), Heap.ExtBut P (t1.heap.push o) h3 → (t1.heap.push o).objs.size ≤ h3.objs.size → h3.get? P = some { cls := .none, data := .fields qs } →
      (∃ more, qs = ps ++ more) → TriplesOk qs.toList →
      wpAny (model X.prog X.w) X.A (builtinsFor X.env.globals X.env.builtins) (fun bi s4 =>
        ∃ Ia fp wr n0 Pf St0 pz F, Value.ref t1.heap.objs.size = .ref Ia ∧ (∀ A' : Around, A'.handled = none → Walks X.prog X.w A' Ia fp wr n0 Pf St0) ∧ St0 0 s4.heap ∧ (∀ b ∈ fp, b < s4.heap.objs.size) ∧ s4.heap.NoLimit ∧ cStatics ∉ wr ∧
          (∀ href : Heap, (∀ b o, s4.heap.get? b = some o → href.get? b = some o) →
            QuietGen X.prog X.w (genEnv scope (cloFrom X.env.cells scope.names []) s4.heap.objs.size code bi X.env) x [] elt (List.range s4.heap.objs.size) wr Pf pz F href) ∧
          (∀ g h5 tk5 gs, gs.bare = true → s4.heap.objs.size < g → h5.objs.size = g + 1 → (∀ b o, s4.heap.get? b = some o → h5.get? b = some o) →
            WalksS X.prog X.w X.A.in4 g (g :: s4.heap.objs.size :: List.range s4.heap.objs.size) (s4.heap.objs.size :: wr) (GenOnlyQ s4.gens.size) (passing pz n0 0).length
              (fun j y => ∃ i, (passing pz n0 0)[j]? = some i ∧ F i y) (GenAt X.prog X.w X.A.in4 g s4.gens.size s4.heap.objs.size (List.range s4.heap.objs.size) wr pz n0 F) →
            GenAt X.prog X.w X.A.in4 g s4.gens.size s4.heap.objs.size (List.range s4.heap.objs.size) wr pz n0 F 0 { s4 with gens := s4.gens.push gs, toks := tk5, heap := h5 } →
            Q' (.ref g) { s4 with gens := s4.gens.push gs, toks := tk5, heap := h5 })) X.xe { t1 with heap := h3, toks := tk } := by
    intro code h3 tk qs hx hsz hP3 hmore htq
    obtain ⟨bm, ob, e1, e2, e3, e4, e5, e6, e7, e8⟩ := TB.bm
    have ncP : cStatics ≠ P := fun e => by
      obtain ⟨_, hns, _⟩ := J.nolimit
      obtain ⟨o', es, ep, ho, hd, _⟩ := hns
      rw [e, hPs] at ho
      cases ho; cases hd
    have nbP : (builtinsNs : Addr) ≠ P := fun e => by
      obtain ⟨mb, hns, _⟩ := J.mod.blt
      obtain ⟨o', es, ep, ho, hd, _⟩ := hns
      have ho := J.bk _ _ ho
      rw [e, hPs] at ho
      cases ho; cases hd
    have k3 : ∀ b u, b ≠ P → t1.heap.get? b = some u → h3.get? b = some u := fun b u hb e => hx b u hb (up b u e)
    refine wpAny_builtinsFor (m := X.mg) (by rw [J.ok.glob]; exact ((J.mod.glob.keeps J.bk).push o).extBut hx TB.gP) e1 e2 (k3 _ _ e4 (J.bk _ _ e5)) e6 e7 e8 ?_
    refine ⟨t1.heap.objs.size, [t1.heap.objs.size], [t1.heap.objs.size], a.cps.size, SignAt a, St, (fun _ => true), (fun i y => ∃ cc, a.cps[i]? = some cc ∧ y = .bool (pb cc)), rfl, W, ?_, ?_, lim.extBut hx ncP, ?_, ?_, ?_⟩
    · refine (W X.A hr.hd).frame _ _ _ hst fun b hb u e => hx b u (fun z => ?_) e
      rcases List.mem_cons.mp hb with y | y
      · exact Nat.ne_of_lt hPlt (z.symm.trans y)
      · cases y
    · intro b hb
      rcases List.mem_cons.mp hb with z | z
      · rw [z]
        show t1.heap.objs.size < h3.objs.size
        omega
      · cases z
    · intro z
      rcases List.mem_cons.mp z with z | z
      · exact Nat.ne_of_lt hclt z
      · cases z
    · intro href hh
      refine ⟨fun A' E' i v s2 m2 hA hv hn hm hk => ?_, fun A' E' i v s2 m2 hA hv hp hn hm hk => ?_⟩
      · simp only [List.forIn_nil]
        exact wpAny_pure ⟨rfl, GxR.keeps_refl _⟩
      · obtain ⟨cc, u, hcc, rfl⟩ := hv
        have old : ∀ L, L ≠ P → ∀ q, X.base.get? L = some q → s2.heap.get? L = some q := fun L nL q e => by
          have e1 := J.bk _ _ e
          have l1 := Heap.lt_size e1
          have e2 := k3 L q nL e1
          refine hk L (List.mem_range.mpr (Heap.lt_size e2)) (fun z => ?_) q (hh L q e2)
          rcases List.mem_cons.mp z with z | z
          · rw [z] at l1; exact Nat.lt_irrefl _ l1
          · cases z
        have nm : Names2 s2.heap X.mg := ⟨J.mod.glob.at (old mainGlobals TB.gP), let ⟨mb, q1, q2⟩ := J.mod.blt; ⟨mb, q1.at (old builtinsNs nbP), q2⟩⟩
        exact wpAny_mono (hel (genEnv scope (cloFrom X.env.cells scope.names []) h3.objs.size code builtinsNs X.env) A' E' cc u s2 m2 rfl J.ok.glob rfl nm hn hm) (fun y s3 r => ⟨⟨cc, hcc, r.1⟩, r.2⟩) fun _ _ e => e
    · intro g h5 tk5 gs hgb hag hsz5 hk5 W5 hat
      simp only [GxR.passing_true, List.length_range] at W5
      refine hQ a H1 g _ hR ⟨_, _, _, _, _, W5.in4_1, hat, ?_, fun s' hm => ?_⟩
      · intro j y sj Qj Ej hy hQj
        obtain ⟨i, hij, cc, hcc, rfl⟩ := hy
        obtain ⟨hj, ej⟩ := List.getElem?_eq_some_iff.mp hij
        rw [List.getElem_range] at ej
        subst ej
        have e9 : a.cps.toList[j]? = some cc := by rw [Array.getElem?_toList]; exact hcc
        have hQ2 : Qj (trF pb a.cps.toList j) sj := hQj
        rw [trF_some e9] at hQ2
        exact wpAny_truthy_bool hQ2
      · obtain ⟨more, em⟩ := hmore
        have nwr : ∀ b u, t1.heap.get? b = some u → b ∉ h3.objs.size :: [t1.heap.objs.size] := fun b u e hb => by
          have hl : b < t1.heap.objs.size := Heap.lt_size e
          rcases List.mem_cons.mp hb with z | z
          · rw [z] at hl
            exact absurd hl (Nat.not_lt.mpr (show t1.heap.objs.size ≤ h3.objs.size by omega))
          · rcases List.mem_cons.mp z with z | z
            · rw [z] at hl
              exact Nat.lt_irrefl _ hl
            · cases z
        have J2 := inv_tab (more := more) (h' := s'.heap) (g' := s'.gens) (d' := s'.drawn) (t' := s'.toks) J hP (fun b u hb e => hm.heap b u (nwr b u e) (hk5 b u (k3 b u hb e)))
          (by rw [← em]; exact hm.heap P _ (nwr P _ hPs) (hk5 P _ hP3)) (AllBare.movedS (J.bare.push hgb) hm)
        rw [sh_eta t1 s' hm.os] at J2
        refine ⟨upd H1 P (.tbl (ps ++ more)), ⟨⟨ps ++ more, upd_same, by rw [← em]; exact htq⟩, fun b hb => upd_ne hb⟩, J2⟩
  cases hf : codeAmong gpos ps.toList with
  | none =>
    refine wpAny_genexprCodeX hcode (cd.code (up _ _ hPs) htr) (cd.tab (up _ _ hPs)) hf fun c' h' tk hx hge hlt hco' _ htab' _ => ?_
    obtain ⟨o1, vs, f1, tf, fl, tg, inF, tx, tt, op, _, _, _, _, _, _, _, _, _, hz, _⟩ := hco'
    exact go _ h' tk _ hx (Nat.le_trans hge (Nat.le_of_lt hlt)) htab'.2 ⟨_, rfl⟩ hz
  | some cv =>
    refine wpAny_genexprCode_hit hcode (cd.code (up _ _ hPs) htr) hf ?_
    exact go cv (t1.heap.push o) t1.toks ps (Heap.ExtBut.refl _ _) (Nat.le_refl _) (up _ _ hPs) ⟨#[], by simp⟩ htr

theorem pe_allX {c P : Addr} {elt iter : Expr} {x : Str} {px p pos gpos : Pos} {scope : Scope} {pb : Nat → Bool} {te : TE} {k : Nat}
    (hr : Room k X.A) (B : Blt X.mg) (TB : TabB X.base X.mg c P) (hcode : X.env.code = .ref c) (S : GenS X.env scope x) (hi : PE X iter te) (hel : EltX X.prog X.w X.mg scope x elt pb)
    (hs : ∀ v, genFold iter X.env v = pure v) (hg : Gl X "all" := by rfl)
    (he : starEach [.GeneratorExp elt [⟨.Name x px, iter, [], 0⟩] scope gpos] X.env = (false, eval (.GeneratorExp elt [⟨.Name x px, iter, [], 0⟩] scope gpos) X.env) :: starEach [] X.env := by rfl) :
    PE X (.Call (.Name "all" p) [.GeneratorExp elt [⟨.Name x px, iter, [], 0⟩] scope gpos] [] pos) (GxR.tAllS P pb te) := by
  refine ⟨fun pins s σ H Q I h => ?_⟩
  refine wpAny_Call_Name_kw (ld_blt I hg B.all (show bootBuiltins "all" = some (.builtin "all") by decide +kernel) ?_)
  refine PyProof.Rows.callWith_builtin1 ?_ he (by rfl)
  rw [he]
  show wpAny _ _ (spliced ((false, eval (.GeneratorExp elt [⟨.Name x px, iter, [], 0⟩] scope gpos) X.env) :: backTo pos (starEach [] X.env))) _ _ s
  refine Calls.spliced_cons (gen_mk (R := fun a H1 => ∀ H2, Tabbed P H1 H2 → Q (.bl (a.cps.toList.all pb)) H2) hr TB hcode S hi hel hs I h fun a H1 g t5 hR hG => ?_)
  obtain ⟨fp, wr, G, F, St, W, hst, htr, hI⟩ := hG
  refine Calls.spliced_nil (call_all_walkS (W.self 0 _ _ _ hst ⟨g, fp, wr, G, _, F, St, _, rfl, W, hst, htr, fun s' hmv => ?_⟩))
  obtain ⟨H2, hT, J⟩ := hI s' hmv
  refine ⟨.bl _, H2, J, rfl, ?_⟩
  rw [all_signs a pb]
  exact hR H2 hT
end

/-- a sign that the document calls printable -/
def prc (c : Nat) : Bool := decide (32 ≤ c) && decide (c ≤ 126) && !decide (c = 37)
def prn (z : Str) : Bool := z.cps.toList.all prc
theorem prn_app (x y : Str) : prn (x ++ y) = (prn x && prn y) := by
  unfold prn
  rw [show (x ++ y).cps.toList = TL.tl x ++ TL.tl y from TL.tl_append x y, List.all_append]
theorem prn_cut {z : Str} (h : prn z = true) (lo hi : Option Int) : prn (cutS z lo hi) = true := by
  unfold prn at h ⊢
  rw [List.all_eq_true] at h ⊢
  intro c hc
  exact h c (List.mem_of_mem_drop (List.mem_of_mem_take (show c ∈ (z.cps.toList.drop _).take _ from hc)))
theorem prn_no {z : Str} {c : Nat} (h : c ∈ TL.tl z) (hc : prc c = false) : prn z = false := by
  unfold prn
  cases e : z.cps.toList.all prc with
  | false => rfl
  | true => rw [List.all_eq_true] at e; rw [e c h] at hc; cases hc
theorem one_lt {a b : Nat} : ([a] < [b]) ↔ a < b := by
  constructor
  · intro h
    cases h with
    | rel h => exact h
    | cons h => cases h
  · intro h
    exact List.Lex.rel h
theorem elt_prn {prog : Program} {w : World} {mg : Str → Option Value} {scope : Scope} {j1 j2 : Nat} {q1 q2 q3 q4 q5 q6 q7 q8 q9 q10 : Pos} {t37 : Tok} (B : Blt mg) (h37 : mg "_BARRED_CODE" = some (.int 37 t37))
    (hk : scope.kind = .function) (hl : scope.names.lookup ("mark" : Str) = some .local) (h1 : scope.names.lookup ("ord" : Str) = some .globalImplicit) (h2 : scope.names.lookup ("_BARRED_CODE" : Str) = some .globalImplicit) :
    EltX prog w mg scope "mark" (.BoolOp .And [.Compare (.Constant (.str " ") j1 q1) [.LtE, .LtE] [.Name "mark" q2, .Constant (.str "~") j2 q3] q4,
      .Compare (.Call (.Name "ord" q5) [.Name "mark" q6] [] q7) [.NotEq] [.Name "_BARRED_CODE" q8] q9] q10) prc := by
  intro ce A' E' c t s2 m2 hs hg hb nm hn hm
  have ld : ∀ {Q : Value → Shared → Prop} {p : Pos} {s3 : Shared}, (∃ tk, s3 = { s2 with toks := tk }) → Q (.str ⟨#[c]⟩ t) s3 → wpAny (model prog w) A' (eval (.Name "mark" p) ce) Q E' s3 := by
    rintro Q p s3 ⟨tk, rfl⟩ h
    exact wpAny_Name (wpAny_loadName_local (by rw [hs]; exact hk) (show ce.scope.names.lookup ("mark" : Str) = some .local by rw [hs]; exact hl) hn hm h) (by decide)
  have fin : ∀ {b : Bool} {tk : Nat}, b = prc c → (fun y s3 => y = Value.bool (prc c) ∧ Keeps s2 s3) (.bool b) { s2 with toks := tk } := fun e => ⟨by rw [e], keeps_tok _ _⟩
  refine BoolOp_and ?_
  refine Compare_chain (Calls.Constant_str (chain_link (ld ⟨_, rfl⟩ (PySem.P.le_str ?_))))
  have e1 : (!decide ((⟨#[c]⟩ : Str).cps.toList < (Str.ofString " ").cps.toList)) = decide (32 ≤ c) := by
    show (!decide ([c] < [32])) = _
    rw [decide_eq_decide.mpr (one_lt (a := c) (b := 32))]
    by_cases h : c < 32
    · rw [decide_eq_true h, decide_eq_false (by omega)]; rfl
    · rw [decide_eq_false h, decide_eq_true (by omega)]; rfl
  rw [e1]
  refine wpAny_truthy_bool ?_
  by_cases c1 : 32 ≤ c
  · rw [decide_eq_true c1]
    refine ite_tt (chain_last (Calls.Constant_str (PySem.P.le_str ?_)))
    have e2 : (!decide ((Str.ofString "~").cps.toList < (⟨#[c]⟩ : Str).cps.toList)) = decide (c ≤ 126) := by
      show (!decide ([126] < [c])) = _
      rw [decide_eq_decide.mpr (one_lt (a := 126) (b := c))]
      by_cases h : c ≤ 126
      · rw [decide_eq_true h, decide_eq_false (by omega)]; rfl
      · rw [decide_eq_false h, decide_eq_true (by omega)]; rfl
    rw [e2]
    refine wpAny_truthy_bool ?_
    by_cases c2 : c ≤ 126
    · rw [decide_eq_true c2]
      refine ite_tt (BoolOp_one (wpAny_Compare1 ?_))
      obtain ⟨mb, n1, n2⟩ := nm.blt
      refine wpAny_Call_Name_kw (Calls.Name_function_global (by rw [hs]; exact hk) (show ce.scope.names.lookup ("ord" : Str) = some .globalImplicit by rw [hs]; exact h1) (Calls.loadGlobal_builtin (by rw [hg]; exact nm.glob) B.ord (by rw [hb]; exact n1) ((n2 "ord" (by decide)).trans (show bootBuiltins "ord" = some (.builtin "ord") by decide +kernel)) ?_) (by decide))
      refine PyProof.Rows.callWith_builtin1 ?_ (by rfl) (by rfl)
      refine Calls.spliced_cons (ld ⟨_, rfl⟩ (Calls.spliced_nil (PyProof.Rows.ord_of_one rfl ?_)))
      refine Calls.Name_function_global (by rw [hs]; exact hk) (show ce.scope.names.lookup ("_BARRED_CODE" : Str) = some .globalImplicit by rw [hs]; exact h2) (Calls.loadGlobal_global (by rw [hg]; exact nm.glob) h37 ?_) (by decide)
      refine ne_int (fin ?_)
      show (((c : Int)) != 37) = (decide (32 ≤ c) && decide (c ≤ 126) && !decide (c = 37))
      rw [decide_eq_true c1, decide_eq_true c2]
      by_cases c3 : c = 37
      · subst c3; rfl
      · rw [decide_eq_false c3]
        have : ((c : Int) != 37) = true := bne_iff_ne.mpr (by omega)
        rw [this]; rfl
    · rw [decide_eq_false c2]
      refine ite_ff (fin ?_)
      simp [prc, c2]
  · rw [decide_eq_false c1]
    refine ite_ff (wpAny_truthy_bool (ite_ff (fin ?_)))
    simp [prc, c1]
end SC

/-! the end of a law's row whose text holds generator expressions: the tables out of the top -/
namespace SC
open PySem PySem.Spec PyProof.Rows L2 LamX
theorem walk_tab {l : PySem.W.OpenLaw} {n k : Nat} {q : Program} {loose : List Str} {XP : (Str → Option Value) → Heap → Prop} {YP : World → Heap → Prop} {d : DefRec} {K : Params → PySem.W.Frag} {CX : World → CXT} {x : Str}
    (hn : l.most = some n) (hn2 : n ≤ sizeLine) (hdf : d.params.defaults = []) (hr : Room k callerA) (hY : ∀ (w : World) (h : Heap), YP w h → (K w.params).In h)
    (hCX : ∀ (w : World) (H : Hp) (s : Shared) (e : Value) (s' : Shared), CX w [] H s (fun _ _ _ => False) e s' → False)
    (F : ∀ (w : World) (mg mb : Str → Option Value) (lo : List Str) (mean : ExcName → Option Value) (fa : Addr) (h : Heap), Top q lo mean mg mb h → (K w.params).In h → h.Ns mainGlobals mg → mg d.name = some (.ref fa) → LawAtS l w (K w.params) (CX w) k n x mg fa h) :
    PySem.W.WalkO q loose XP YP l.row.toRowW d [] (fun f vs => PySem.call f vs) := by
  refine Att.attach_callB hn hdf fun w s0 s1 mg mb fa o pm cd doc a vs ns G Y ho hd hcd hmg hobj hints hlen hbits hg => ?_
  have KX := hY w _ Y
  obtain ⟨fd, cs, sp, hT, nT, C, hb, hsp, hF⟩ := F w mg mb _ _ fa _ G.T KX G.T.g hmg
  exact law_callTs KX G.T.g G.T.b G.T.builtins G.T.nolimit hg hT nT C G.T.bmain hobj hints (Nat.le_trans hlen hn2) hr hF hb (fun H hH hS => hsp H a ns hlen hbits hH hS) fun H e s' => hCX w H s1 e s'
theorem tab_mk {q : Program} {lo : List Str} {mean : ExcName → Option Value} {mg mb : Str → Option Value} {h : Heap} {K : PySem.W.Frag} {d : DefRec} {x : Str} {f c P : Addr} {fd : FuncData} {oc cc : Value} {od dc : Option Addr} {sl sc : Array (Option Value)} {vs : Array Value}
    (T : Top q lo mean mg mb h) (X : K.In h) (hr : (recsOf q).find? (fun e => e.name == x) = some d) (a : PySem.W.nsIn K mainGlobals x = some (some (.ref f))) (l : K.lookup f = some ⟨oc, od, .func fd, sl⟩) (hc : fd.code = .ref c)
    (lc : K.lookup c = some ⟨cc, dc, .fields vs, sc⟩) (hv : vs[11]? = some (.ref P)) : PySem.W.CodeHd h c P ∧ h.get? P = some (PySem.W.tabObj #[]) := by
  refine PySem.W.tab_of T X hr ?_
  unfold PySem.W.tabIn
  rw [a]
  simp only [l, hc, lc, hv]
/-- a law's state: the table may have grown, the stream stands, all else that was there is as it was -/
structure LS (Pt st : Addr) (H0 H : Hp) : Prop where
  k : Kp [Pt] H0 H
  g : GxR.TabG H Pt
  s : Strm H st
  g0 : GxR.TabG H0 Pt
  fr : H0 st = none
section
variable {Pt st p : Addr} {H0 H H' : Hp} {K : PySem.W.Frag}
theorem LS.ne (L : LS Pt st H0 H) : st ≠ Pt := L.s.nT L.g
theorem LS.first (g0 : GxR.TabG H0 Pt) (h : H0 st = none) {a b : Int} : LS Pt st H0 (upd H0 st (.lst [.int a, .int b])) :=
  ⟨Kp.new h _, tabG_kp g0 (Kp.new h _ : Kp [] _ _) (by simp), Strm.mk, g0, h⟩
theorem LS.take (L : LS Pt st H0 H) (k : Kp [st] H H') (s : Strm H' st) : LS Pt st H0 H' :=
  ⟨Kp.drop L.fr ((L.k.mono fun b hb => List.mem_cons_of_mem _ hb).trans (k.mono fun b hb => by rw [List.mem_singleton.mp hb]; exact List.mem_cons_self)), tabG_kp L.g k (by simpa using L.ne.symm), s, L.g0, L.fr⟩
theorem LS.prn (L : LS Pt st H0 H) (k : Kp [Pt] H H') (g : GxR.TabG H' Pt) : LS Pt st H0 H' := ⟨L.k.trans k, g, L.s.kp k (by simpa using L.ne), L.g0, L.fr⟩
theorem LS.new (L : LS Pt st H0 H) (h : H p = none) (o : HO) : LS Pt st H0 (upd H p o) :=
  ⟨L.k.trans (Kp.new h o), tabG_kp L.g (Kp.new h o : Kp [] _ _) (by simp), L.s.kp (Kp.new h o : Kp [] _ _) (by simp), L.g0, L.fr⟩
theorem LS.kp0 (L : LS Pt st H0 H) (k : Kp [] H H') : LS Pt st H0 H' := ⟨L.k.trans (k.mono fun b hb => absurd hb (by simp)), tabG_kp L.g k (by simp), L.s.kp k (by simp), L.g0, L.fr⟩
theorem seq_tab {a : Addr} {xs : List V} (k : Kp [Pt] H0 H) (g0 : GxR.TabG H0 Pt) (h : SqL K H0 a xs) : SqL K H a xs := by
  obtain ⟨ps, e, _⟩ := g0
  rcases h with (h | ⟨o, h⟩) | h
  · exact .inl (.inl (k.keep _ _ (by simpa using ne_of h e (by intro z; cases z)) h))
  · exact .inl (.inr ⟨o, k.keep _ _ (by simpa using ne_of h e (by intro z; cases z)) h⟩)
  · exact .inr h
theorem LS.seq {a : Addr} {xs : List V} (L : LS Pt st H0 H) (h : SqL K H0 a xs) : SqL K H a xs := seq_tab L.k L.g0 h
theorem Kp.get1 {b : Addr} {o : HO} (k : Kp [Pt] H H') (g : GxR.TabG H Pt) (h : H b = some o) (no : ∀ ps, o ≠ .tbl ps := by intro ps z; cases z) : H' b = some o := by
  obtain ⟨ps, e, _⟩ := g
  exact k.keep b o (by simpa using ne_of h e (no ps)) h
theorem tyN_kp {v : V} {t : String} (k : Kp [Pt] H H') (g : GxR.TabG H Pt) (h : tyN H v = some t) : tyN H' v = some t := by
  cases v with
  | ref p =>
    unfold tyN at h
    simp only at h
    split at h
    · rename_i xs q; cases h; exact tyN_lst (k.get1 g q)
    · rename_i xs q; cases h; exact tyN_tup (k.get1 g q)
    · rename_i xs q; cases h; exact tyN_dK (k.get1 g q)
    · cases h
  | _ => exact h
end
end SC

/-! canonical texts: the values as trees, what encode writes, what decode reads: plain Lean -/
namespace SC
open PySem L2
/-- a value as a tree; oth: what is neither an int nor a text nor a tuple -/
inductive Tr where
  | int (n : Int) | str (z : Str) | tup (ts : List Tr) | oth (v : V)
mutual
inductive Rep (H : Hp) : V → Tr → Prop
  | int (i : Int) : Rep H (.int i) (.int i)
  | str (z : Str) : Rep H (.str z) (.str z)
  | tup {a : Addr} {xs : List V} {ts : List Tr} : H a = some (.tup xs) → RepAll H xs ts → Rep H (.ref a) (.tup ts)
  | oth {v : V} {t : String} : tyN H v = some t → t ≠ "int" → t ≠ "str" → t ≠ "tuple" → Rep H v (.oth v)
inductive RepAll (H : Hp) : List V → List Tr → Prop
  | nil : RepAll H [] []
  | cons {v : V} {vs : List V} {t : Tr} {ts : List Tr} : Rep H v t → RepAll H vs ts → RepAll H (v :: vs) (t :: ts)
end
theorem Rep.ty {H : Hp} {v : V} {t : Tr} (h : Rep H v t) : ∃ s, tyN H v = some s := by
  cases h with
  | int => exact ⟨_, rfl⟩
  | str => exact ⟨_, rfl⟩
  | tup e _ => exact ⟨_, tyN_tup e⟩
  | oth e _ _ _ => exact ⟨_, e⟩
theorem RepAll.len {H : Hp} : ∀ {xs : List V} {ts : List Tr}, RepAll H xs ts → xs.length = ts.length
  | _, _, .nil => rfl
  | _, _, .cons _ h => congrArg (· + 1) h.len
theorem RepAll.app {H : Hp} : ∀ {xs ys : List V} {ts us : List Tr}, RepAll H xs ts → RepAll H ys us → RepAll H (xs ++ ys) (ts ++ us)
  | _, _, _, _, .nil, h => h
  | _, _, _, _, .cons a b, h => .cons a (b.app h)
theorem RepAll.get {H : Hp} : ∀ {xs : List V} {ts : List Tr} {i : Nat} {x : V}, RepAll H xs ts → xs[i]? = some x → ∃ t, ts[i]? = some t ∧ Rep H x t
  | _, _, _, _, .nil, h => by simp at h
  | _, _, 0, _, .cons a _, h => by
    have e := Option.some.inj h
    subst e
    exact ⟨_, rfl, a⟩
  | _, _, i + 1, _, .cons _ b, h => b.get (i := i) h
mutual
theorem Rep.kp {Pt : Addr} {H H' : Hp} (k : Kp [Pt] H H') (g : GxR.TabG H Pt) : ∀ {v : V} {t : Tr}, Rep H v t → Rep H' v t
  | _, _, .int i => .int i
  | _, _, .str z => .str z
  | _, _, .tup e h => .tup (k.tup _ _ e) (h.kp k g)
  | v, _, .oth e a b c => .oth (tyN_kp k g e) a b c
theorem RepAll.kp {Pt : Addr} {H H' : Hp} (k : Kp [Pt] H H') (g : GxR.TabG H Pt) : ∀ {vs : List V} {ts : List Tr}, RepAll H vs ts → RepAll H' vs ts
  | _, _, .nil => .nil
  | _, _, .cons a b => .cons (a.kp k g) (b.kp k g)
end
/-- the digits of a number -/
abbrev dig (n : Nat) : List Nat := TL.numL n
mutual
/-- the canonical text, its codes -/
def txt : Tr → List Nat
  | .int n => dig n.toNat ++ [46]
  | .str z => dig z.length ++ 58 :: TL.tl z
  | .tup ts => 91 :: (txts ts ++ [93])
  | .oth _ => []
def txts : List Tr → List Nat
  | [] => []
  | t :: ts => txt t ++ txts ts
end
mutual
/-- plain, tuples nested at most n deep -/
def pl (n : Nat) : Tr → Bool
  | .int i => decide (0 ≤ i) && decide (i ≤ 99999999999999999999)
  | .str z => prn z
  | .tup ts => match n with
    | 0 => false
    | m + 1 => pls m ts
  | .oth _ => false
def pls (n : Nat) : List Tr → Bool
  | [] => true
  | t :: ts => pl n t && pls n ts
end
mutual
/-- no tuple's text within is too long -/
def fit : Tr → Bool
  | .tup ts => fits ts && decide ((txts ts).length + 2 ≤ 100000)
  | _ => true
def fits : List Tr → Bool
  | [] => true
  | t :: ts => fit t && fits ts
end
mutual
/-- texts of a size that Python's may have -/
def sml : Tr → Bool
  | .str z => decide (z.length ≤ 10000000)
  | .tup ts => smls ts && decide (ts.length ≤ 1000000)
  | _ => true
def smls : List Tr → Bool
  | [] => true
  | t :: ts => sml t && smls ts
end
theorem txts_app : ∀ (ts us : List Tr), txts (ts ++ us) = txts ts ++ txts us
  | [], _ => rfl
  | t :: ts, us => by
    show txt t ++ txts (ts ++ us) = (txt t ++ txts ts) ++ txts us
    rw [txts_app ts us, List.append_assoc]
theorem pls_app (n : Nat) : ∀ (ts us : List Tr), pls n (ts ++ us) = (pls n ts && pls n us)
  | [], us => by simp [pls]
  | t :: ts, us => by
    show (pl n t && pls n (ts ++ us)) = ((pl n t && pls n ts) && pls n us)
    rw [pls_app n ts us, Bool.and_assoc]
theorem fits_app : ∀ (ts us : List Tr), fits (ts ++ us) = (fits ts && fits us)
  | [], us => by simp [fits]
  | t :: ts, us => by
    show (fit t && fits (ts ++ us)) = ((fit t && fits ts) && fits us)
    rw [fits_app ts us, Bool.and_assoc]
theorem smls_app : ∀ (ts us : List Tr), smls (ts ++ us) = (smls ts && smls us)
  | [], us => by simp [smls]
  | t :: ts, us => by
    show (sml t && smls (ts ++ us)) = ((sml t && smls ts) && smls us)
    rw [smls_app ts us, Bool.and_assoc]
theorem mem_len : ∀ {t : Tr} {ts : List Tr}, t ∈ ts → (txt t).length ≤ (txts ts).length
  | t, u :: ts, h => by
    show _ ≤ (txt u ++ txts ts).length
    rw [List.length_append]
    rcases List.mem_cons.mp h with rfl | h
    · omega
    · have := mem_len h; omega
mutual
theorem fit_of : ∀ (t : Tr), (txt t).length ≤ 100000 → fit t = true
  | .int _, _ => rfl
  | .str _, _ => rfl
  | .oth _, _ => rfl
  | .tup ts, h => by
    have h : (91 :: (txts ts ++ [93])).length ≤ 100000 := h
    rw [List.length_cons, List.length_append] at h
    have h : (txts ts).length + 1 + 1 ≤ 100000 := h
    show (fits ts && decide ((txts ts).length + 2 ≤ 100000)) = true
    rw [fits_of ts (by omega), decide_eq_true (by omega)]
    rfl
theorem fits_of : ∀ (ts : List Tr), (txts ts).length ≤ 100000 → fits ts = true
  | [], _ => rfl
  | t :: ts, h => by
    have h : (txt t ++ txts ts).length ≤ 100000 := h
    rw [List.length_append] at h
    show (fit t && fits ts) = true
    rw [fit_of t (by omega), fits_of ts (by omega)]
    rfl
end

/-! ### reading -/
def isD (c : Nat) : Bool := decide (48 ≤ c) && decide (c ≤ 57)
def val (l : List Nat) : Nat := NumText.digitsVal l
/-- a number's digits that decode takes -/
def goodD (d : List Nat) : Bool := !d.isEmpty && decide (d.length ≤ 20) && !(d.head? == some 48 && !(d == [48]))
/-- a number or a text at the head of l -/
def leaf (l : List Nat) : Option (Tr × List Nat) :=
  if goodD (l.takeWhile isD) = true then
    match l.dropWhile isD with
    | 46 :: r => some (.int (val (l.takeWhile isD)), r)
    | 58 :: r => if val (l.takeWhile isD) ≤ r.length then some (.str ⟨(r.take (val (l.takeWhile isD))).toArray⟩, r.drop (val (l.takeWhile isD))) else none
    | _ => none
  else none
/-- items up to the closing bracket -/
def items (p : List Nat → Option (Tr × List Nat)) : Nat → List Nat → Option (List Tr × List Nat)
  | 0, _ => none
  | f + 1, l => match l with
    | 93 :: r => some ([], r)
    | l => match p l with
      | none => none
      | some (t, r) => match items p f r with
        | none => none
        | some (ts, r2) => some (t :: ts, r2)
/-- a value at the head of l, tuples nested at most n deep -/
def pval : Nat → List Nat → Option (Tr × List Nat)
  | 0, l => match l with
    | 91 :: _ => none
    | l => leaf l
  | n + 1, l => match l with
    | 91 :: r => match items (pval n) (r.length + 1) r with
      | none => none
      | some (ts, r2) => some (.tup ts, r2)
    | l => leaf l

/-! ### digits -/
theorem isD_iff {c : Nat} : isD c = true ↔ 48 ≤ c ∧ c ≤ 57 := by unfold isD; simp
theorem val_app (l : List Nat) (c : Nat) : val (l ++ [c]) = val l * 10 + (c - 48) := by
  unfold val NumText.digitsVal
  rw [List.foldl_append]
  rfl
theorem dig_isD (n : Nat) : ∀ c ∈ dig n, isD c = true := fun c hc => by
  have := TL.numL_digits n c hc
  exact isD_iff.mpr ⟨by omega, by omega⟩
theorem dig_zero : dig 0 = [48] := TL.numL_lt (by decide)
theorem val_dig (n : Nat) : val (dig n) = n := TL.numL_val n
theorem dig_val : ∀ (k : Nat) (d : List Nat), d.length = k → d ≠ [] → (∀ c ∈ d, isD c = true) → (d.head? ≠ some 48 ∨ d = [48]) → dig (val d) = d
  | 0, d, hk, h, _, _ => absurd (List.length_eq_zero_iff.mp hk) h
  | k + 1, d, hk, h, hd, h0 => by
    obtain ⟨e, c, rfl⟩ : ∃ e c, d = e ++ [c] := ⟨d.dropLast, d.getLast h, (List.dropLast_concat_getLast h).symm⟩
    have hc := isD_iff.mp (hd c (List.mem_append_right _ (List.mem_singleton.mpr rfl)))
    rw [val_app]
    by_cases he : e = []
    · subst he
      show dig (val [] * 10 + (c - 48)) = [c]
      have z : val [] = 0 := rfl
      rw [z, Nat.zero_mul, Nat.zero_add]
      have q := TL.numL_lt (n := c - 48) (by omega)
      rw [show 48 + (c - 48) = c by omega] at q
      exact q
    · have hl : e.length = k := by rw [List.length_append] at hk; simpa using hk
      obtain ⟨a, e', rfl⟩ := List.exists_cons_of_ne_nil he
      have ha : a ≠ 48 := by
        intro z
        subst z
        rcases h0 with q | q
        · exact q rfl
        · have := congrArg List.length q
          simp at this
      have ih := dig_val k (a :: e') hl he (fun c hc => hd c (List.mem_append_left _ hc)) (.inl (by simpa using ha))
      have pos : 1 ≤ val (a :: e') := by
        by_cases q : val (a :: e') = 0
        · rw [q, dig_zero] at ih
          injection ih with z1 _
          exact absurd z1.symm ha
        · omega
      have st := TL.numL_step (n := val (a :: e') * 10 + (c - 48)) (by omega)
      show TL.numL _ = _
      rw [st, show (val (a :: e') * 10 + (c - 48)) / 10 = val (a :: e') by omega, show 48 + (val (a :: e') * 10 + (c - 48)) % 10 = c by omega]
      rw [show TL.numL (val (a :: e')) = a :: e' from ih]
theorem dig_head : ∀ (n : Nat), (dig n).head? = some 48 → dig n = [48] := by
  intro n
  induction n using Nat.strongRecOn with
  | _ n ih =>
    intro h
    by_cases c : n < 10
    · have e := TL.numL_lt c
      have h : (TL.numL n).head? = some 48 := h
      rw [e] at h
      have : 48 + n = 48 := by simpa using h
      have : n = 0 := by omega
      subst this
      exact dig_zero
    · have e := TL.numL_step (n := n) (by omega)
      have h : (TL.numL n).head? = some 48 := h
      rw [e] at h
      have h2 : (dig (n / 10)).head? = some 48 := by
        have ne := TL.numL_ne (n / 10)
        obtain ⟨a, r, q⟩ := List.exists_cons_of_ne_nil ne
        rw [q] at h
        show (TL.numL (n / 10)).head? = _
        rw [q]
        simpa using h
      have z := ih (n / 10) (by omega) h2
      have v := val_dig (n / 10)
      rw [z] at v
      have : n / 10 = 0 := v.symm
      omega
theorem goodD_dig {n : Nat} (h : n < 10 ^ 20) : goodD (dig n) = true := by
  have ne := TL.numL_ne n
  have len : (dig n).length ≤ 20 := TL.numL_len (by decide) h
  unfold goodD
  rw [show (dig n).isEmpty = false by rw [List.isEmpty_eq_false_iff]; exact ne, decide_eq_true len]
  cases e : ((dig n).head? == some 48) with
  | false => rfl
  | true =>
    have := dig_head n (by simpa using e)
    rw [this]
    rfl
theorem take_dig {n c : Nat} (r : List Nat) (hc : isD c = false) : (dig n ++ c :: r).takeWhile isD = dig n ∧ (dig n ++ c :: r).dropWhile isD = c :: r := by
  have key : ∀ (d : List Nat), (∀ x ∈ d, isD x = true) → (d ++ c :: r).takeWhile isD = d ∧ (d ++ c :: r).dropWhile isD = c :: r := by
    intro d
    induction d with
    | nil => intro _; simp [List.takeWhile, List.dropWhile, hc]
    | cons x d ih =>
      intro h
      have hx := h x List.mem_cons_self
      obtain ⟨i1, i2⟩ := ih fun y hy => h y (List.mem_cons_of_mem _ hy)
      simp [List.takeWhile, List.dropWhile, hx, i1, i2]
  exact key _ (dig_isD n)
theorem leaf_int {n : Nat} (h : n < 10 ^ 20) (r : List Nat) : leaf (dig n ++ 46 :: r) = some (.int n, r) := by
  obtain ⟨t1, t2⟩ := take_dig (n := n) (c := 46) r (by decide)
  unfold leaf
  rw [t1, t2, if_pos (goodD_dig h), val_dig]
  rfl
theorem leaf_str {z : Str} (h : z.length < 10 ^ 20) (r : List Nat) : leaf (dig z.length ++ 58 :: (TL.tl z ++ r)) = some (.str z, r) := by
  obtain ⟨t1, t2⟩ := take_dig (n := z.length) (c := 58) (TL.tl z ++ r) (by decide)
  unfold leaf
  have hl : (TL.tl z).length = z.length := (TL.len_tl z).symm
  rw [t1, t2, if_pos (goodD_dig h), val_dig]
  simp only
  rw [if_pos (by rw [List.length_append]; omega), ← hl, List.take_left, List.drop_left, TL.mk_tl]
theorem dig_first (n : Nat) : ∃ a r, dig n = a :: r ∧ 48 ≤ a ∧ a ≤ 57 := by
  obtain ⟨a, r, e⟩ := List.exists_cons_of_ne_nil (TL.numL_ne n)
  have := isD_iff.mp (dig_isD n a (by rw [show dig n = a :: r from e]; exact List.mem_cons_self))
  exact ⟨a, r, e, this.1, this.2⟩
/-- a text's first sign -/
theorem txt_first {n : Nat} : ∀ {t : Tr}, pl n t = true → ∃ a r, txt t = a :: r ∧ (a = 91 ∨ (48 ≤ a ∧ a ≤ 57))
  | .int i, _ => by
    obtain ⟨a, r, e, h1, h2⟩ := dig_first i.toNat
    exact ⟨a, r ++ [46], by show dig i.toNat ++ [46] = _; rw [e]; rfl, .inr ⟨h1, h2⟩⟩
  | .str z, _ => by
    obtain ⟨a, r, e, h1, h2⟩ := dig_first z.length
    exact ⟨a, r ++ 58 :: TL.tl z, by show dig z.length ++ 58 :: TL.tl z = _; rw [e]; rfl, .inr ⟨h1, h2⟩⟩
  | .tup ts, _ => ⟨91, _, rfl, .inl rfl⟩
  | .oth _, h => by cases h
theorem pval_leaf {n : Nat} {l : List Nat} (h : ∀ r, l ≠ 91 :: r) : pval n l = leaf l := by
  cases n with
  | zero =>
    unfold pval
    split
    · rename_i r; exact absurd rfl (h r)
    · rfl
  | succ n =>
    unfold pval
    split
    · rename_i r; exact absurd rfl (h r)
    · rfl
theorem sml_str {z : Str} (h : sml (.str z) = true) : z.length < 10 ^ 20 := by
  have : z.length ≤ 10000000 := of_decide_eq_true h
  omega
mutual
/-- what encode wrote is read back -/
theorem pval_txt : ∀ (n : Nat) (t : Tr) (r : List Nat), pl n t = true → sml t = true → pval n (txt t ++ r) = some (t, r)
  | n, .int i, r, h, _ => by
    have h : (decide (0 ≤ i) && decide (i ≤ 99999999999999999999)) = true := h
    rw [Bool.and_eq_true, decide_eq_true_eq, decide_eq_true_eq] at h
    obtain ⟨a, q, e, h1, h2⟩ := dig_first i.toNat
    have e2 : txt (.int i) ++ r = dig i.toNat ++ 46 :: r := by show (dig i.toNat ++ [46]) ++ r = _; rw [List.append_assoc]; rfl
    rw [e2, pval_leaf (fun r' z => by rw [e] at z; injection z with z _; omega), leaf_int (by omega)]
    rw [show ((i.toNat : Nat) : Int) = i by omega]
  | n, .str z, r, _, hs => by
    obtain ⟨a, q, e, h1, h2⟩ := dig_first z.length
    have e2 : txt (.str z) ++ r = dig z.length ++ 58 :: (TL.tl z ++ r) := by show (dig z.length ++ 58 :: TL.tl z) ++ r = _; rw [List.append_assoc]; rfl
    rw [e2, pval_leaf (fun r' z => by rw [e] at z; injection z with z _; omega), leaf_str (sml_str hs)]
  | 0, .tup ts, _, h, _ => by cases h
  | n + 1, .tup ts, r, h, hs => by
    have h : pls n ts = true := h
    have hs : (smls ts && decide (ts.length ≤ 1000000)) = true := hs
    rw [Bool.and_eq_true] at hs
    have e2 : txt (.tup ts) ++ r = 91 :: (txts ts ++ 93 :: r) := by show 91 :: ((txts ts ++ [93]) ++ r) = _; rw [List.append_assoc]; rfl
    rw [e2]
    unfold pval
    simp only
    rw [items_txts n ts r ((txts ts ++ 93 :: r).length + 1) h hs.1 (by omega)]
  | _, .oth _, _, h, _ => by cases h
theorem items_txts : ∀ (n : Nat) (ts : List Tr) (r : List Nat) (f : Nat), pls n ts = true → smls ts = true → (txts ts ++ 93 :: r).length < f → items (pval n) f (txts ts ++ 93 :: r) = some (ts, r)
  | n, [], r, f, _, _, hf => by
    cases f with
    | zero => omega
    | succ f => rfl
  | n, t :: ts, r, f, h, hs, hf => by
    have h : (pl n t && pls n ts) = true := h
    have hs : (sml t && smls ts) = true := hs
    rw [Bool.and_eq_true] at h hs
    obtain ⟨a, q, e, ha⟩ := txt_first h.1
    have e2 : txts (t :: ts) ++ 93 :: r = txt t ++ (txts ts ++ 93 :: r) := by show (txt t ++ txts ts) ++ _ = _; rw [List.append_assoc]
    rw [e2] at hf ⊢
    rw [List.length_append, e, List.length_cons] at hf
    cases f with
    | zero => omega
    | succ f =>
      have p1 := pval_txt n t (txts ts ++ 93 :: r) h.1 hs.1
      have p2 := items_txts n ts r f h.2 hs.2 (by omega)
      unfold items
      rw [e] at p1 ⊢
      have ne : a ≠ 93 := by omega
      show (match a :: (q ++ (txts ts ++ 93 :: r)) with
        | 93 :: r => some ([], r)
        | l => match pval n l with
          | none => none
          | some (t, r) => match items (pval n) f r with
            | none => none
            | some (ts, r2) => some (t :: ts, r2)) = _
      split
      · rename_i z; injection z with z _; exact absurd z ne
      · have p1 : pval n (a :: (q ++ (txts ts ++ 93 :: r))) = some (t, txts ts ++ 93 :: r) := p1
        rw [p1]
        simp only
        rw [p2]
end

theorem val_lt : ∀ (d : List Nat), (∀ c ∈ d, isD c = true) → val d < 10 ^ d.length := by
  have key : ∀ (k : Nat) (d : List Nat), d.length = k → (∀ c ∈ d, isD c = true) → val d < 10 ^ k := by
    intro k
    induction k with
    | zero => intro d h _; rw [List.length_eq_zero_iff.mp h]; decide
    | succ k ih =>
      intro d h hd
      have ne : d ≠ [] := fun z => by rw [z] at h; cases h
      have e := (List.dropLast_concat_getLast ne).symm
      generalize d.dropLast = a at e
      generalize d.getLast ne = c at e
      subst e
      have hc := isD_iff.mp (hd c (List.mem_append_right _ (List.mem_singleton.mpr rfl)))
      have := ih a (by rw [List.length_append] at h; simpa using h) fun c hc => hd c (List.mem_append_left _ hc)
      rw [val_app, Nat.pow_succ]
      omega
  exact fun d h => key _ d rfl h
theorem goodD_iff {d : List Nat} (h : goodD d = true) : d ≠ [] ∧ d.length ≤ 20 ∧ (d.head? ≠ some 48 ∨ d = [48]) := by
  unfold goodD at h
  rw [Bool.and_eq_true, Bool.and_eq_true, decide_eq_true_eq] at h
  obtain ⟨⟨h1, h2⟩, h3⟩ := h
  refine ⟨fun z => (by rw [z] at h1; cases h1), h2, ?_⟩
  by_cases e : d = [48]
  · exact .inr e
  · left
    intro z
    rw [z] at h3
    have : (d == [48]) = false := by simpa using e
    rw [this] at h3
    cases h3
theorem takeD (l : List Nat) : ∀ c ∈ l.takeWhile isD, isD c = true := by
  induction l with
  | nil => intro c h; cases h
  | cons a l ih =>
    intro c h
    rw [List.takeWhile_cons] at h
    split at h
    · rename_i ha
      rcases List.mem_cons.mp h with rfl | h
      · exact ha
      · exact ih c h
    · cases h
/-- what leaf read, written -/
theorem leaf_back {n : Nat} {l r : List Nat} {t : Tr} (h : leaf l = some (t, r)) : l = txt t ++ r ∧ ((∀ c ∈ l, prc c = true) → pl n t = true) := by
  unfold leaf at h
  by_cases g : goodD (l.takeWhile isD) = true
  · rw [if_pos g] at h
    obtain ⟨g1, g2, g3⟩ := goodD_iff g
    have ad := takeD l
    have dv := dig_val _ _ rfl g1 ad g3
    have lt := val_lt _ ad
    have el : l = l.takeWhile isD ++ l.dropWhile isD := List.takeWhile_append_dropWhile.symm
    generalize hv : val (l.takeWhile isD) = v at h dv lt
    split at h
    · rename_i r' e
      cases h
      have lt2 : v < 10 ^ 20 := Nat.lt_of_lt_of_le lt (Nat.pow_le_pow_right (by decide) g2)
      refine ⟨?_, fun _ => ?_⟩
      · show l = (dig (v : Int).toNat ++ [46]) ++ r
        rw [Int.toNat_natCast, dv, List.append_assoc]
        rw [e] at el
        exact el
      · show (decide (0 ≤ (v : Int)) && decide ((v : Int) ≤ 99999999999999999999)) = true
        rw [decide_eq_true (by omega), decide_eq_true (by omega)]
        rfl
    · rename_i r' e
      split at h
      · rename_i hle
        cases h
        have ez : (⟨(r'.take v).toArray⟩ : Str).length = v := by
          show (r'.take v).toArray.size = v
          rw [List.size_toArray, List.length_take]
          omega
        refine ⟨?_, fun hp => ?_⟩
        · show l = (dig (⟨(r'.take v).toArray⟩ : Str).length ++ 58 :: r'.take v) ++ r'.drop v
          rw [ez, dv, List.append_assoc, List.cons_append, List.take_append_drop]
          rw [e] at el
          exact el
        · show prn ⟨(r'.take v).toArray⟩ = true
          unfold prn
          rw [List.all_eq_true]
          intro c hc
          refine hp c ?_
          rw [el, e]
          exact List.mem_append_right _ (List.mem_cons_of_mem _ (List.mem_of_mem_take hc))
      · cases h
    · cases h
  · rw [if_neg g] at h
    cases h
mutual
/-- what decode read is what encode writes -/
theorem pval_back : ∀ (n : Nat) (l r : List Nat) (t : Tr), pval n l = some (t, r) → l = txt t ++ r ∧ ((∀ c ∈ l, prc c = true) → pl n t = true)
  | 0, l, r, t, h => by
    unfold pval at h
    split at h
    · cases h
    · exact leaf_back h
  | n + 1, l, r, t, h => by
    unfold pval at h
    split at h
    · rename_i r'
      cases e : items (pval n) (r'.length + 1) r' with
      | none => rw [e] at h; cases h
      | some x =>
        obtain ⟨ts, r2⟩ := x
        rw [e] at h
        cases h
        obtain ⟨q1, q2⟩ := items_back n (r'.length + 1) r' r ts e
        refine ⟨?_, fun hp => q2 fun c hc => hp c (List.mem_cons_of_mem _ hc)⟩
        show 91 :: r' = 91 :: (txts ts ++ [93]) ++ r
        rw [q1, List.cons_append, List.append_assoc]
        rfl
    · exact leaf_back h
theorem items_back : ∀ (n f : Nat) (l r : List Nat) (ts : List Tr), items (pval n) f l = some (ts, r) → l = txts ts ++ 93 :: r ∧ ((∀ c ∈ l, prc c = true) → pls n ts = true)
  | _, 0, _, _, _, h => by cases h
  | n, f + 1, l, r, ts, h => by
    unfold items at h
    split at h
    · rename_i r'
      cases h
      exact ⟨rfl, fun _ => rfl⟩
    · cases e : pval n l with
      | none => rw [e] at h; cases h
      | some x =>
        obtain ⟨t, r1⟩ := x
        rw [e] at h
        simp only at h
        cases e2 : items (pval n) f r1 with
        | none => rw [e2] at h; cases h
        | some y =>
          obtain ⟨us, r2⟩ := y
          rw [e2] at h
          cases h
          obtain ⟨p1, p2⟩ := pval_back n l r1 t e
          obtain ⟨q1, q2⟩ := items_back n f r1 r us e2
          refine ⟨?_, fun hp => ?_⟩
          · show l = (txt t ++ txts us) ++ 93 :: r
            rw [p1, q1, List.append_assoc]
          · show (pl n t && pls n us) = true
            rw [p2 hp, q2 fun c hc => hp c (by rw [p1]; exact List.mem_append_right _ hc)]
            rfl
end
end SC

/-! own errors of the text -/
namespace SC
open PySem L2
/-- an own error class over ValueError without an __init__ -/
structure Err (K : PySem.W.Frag) (mg : Str → Option Value) (x : Str) (C : Addr) : Prop where
  g : mg x = some (.ref C)
  e : PySem.W.excIn K C [.type "ValueError", .type "Exception", .type "BaseException", .type "object"] "ValueError.__new__" = true
  k : PySem.W.keepIn K (.ref C) = true
  b : PySem.W.subIn K (.ref C) (.type "BaseException") = some true
  t : PySem.W.typeIn K (.ref C) = some (.type "type")
  i : PySem.W.isClsIn K C = true
  s : PySem.W.subIn K (.ref C) (.ref C) = some true
def tErr (C : Addr) (W : WX) : TS := fun _ σ H => W (.ref C) none σ H
theorem Err.raise {X : Cx} {W : WX} {x m : Str} {C : Addr} {j : Nat} {p p2 pos pos2 : Pos} (T : Err X.K X.mg x C) (tk : Takes X W) (hc : X.calm = true := by rfl) (hg : Gl X x := by rfl) (hdb : (x == ("__debug__" : Str)) = false := by decide) :
    PS X (.Raise (some (.Call (.Name x p) [.Constant (.str m) j p2] [] pos)) none pos2) (tErr C W) :=
  ps_raise hc tk (pmk_own PySem.F.excBase_ValueError T.e T.g T.k (raises_own T.b T.t) hg hdb)
theorem Err.em {K : PySem.W.Frag} {mg : Str → Option Value} {x : Str} {C : Addr} (T : Err K mg x C) : PySem.W.exmOne K (.ref C) (.ref C) = some true := by
  have e1 : (PySem.W.subIn K (.ref C) (.type "BaseException") == some true) = true := by rw [T.b]; rfl
  have e2 : ((PySem.W.clsIn K C).isSome && PySem.W.typeIn K (.ref C) == some (.type "type")) = true := by
    rw [show (PySem.W.clsIn K C).isSome = true from T.i, T.t]; rfl
  have e3 : PySem.W.kitCls K (.ref C) (.ref C) = some true := by
    show (if ((PySem.W.clsIn K C).isSome && PySem.W.typeIn K (.ref C) == some (.type "type")) = true then PySem.W.subIn K (.ref C) (.ref C) else none) = some true
    rw [if_pos e2]; exact T.s
  show (if (PySem.W.subIn K (.ref C) (.type "BaseException") == some true) = true then PySem.W.kitCls K (.ref C) (.ref C) else none) = some true
  rw [if_pos e1]; exact e3
/-- what a raising def's callees let out, handed on -/
theorem passX {X : Cx} {E : XK} {W : WX} (tk : Takes X W) (h : ∀ cls d σ H, E cls d H → W cls d σ H) : Passes (L2.CX X.prog X.w) X E := passes_call tk h
/-- a module's constant int -/
theorem pe_cI {X : Cx} {x : Str} {n : Int} {t : Tok} {p : Pos} (h : X.mg x = some (.int n t)) (hg : Gl X x := by rfl) (hd : (x == ("__debug__" : Str)) = false := by decide) : PE X (.Name x p) (tC (.int n)) :=
  pe_glob (v := .int n) hg h ⟨t, rfl⟩ hd
/-- c * n, c one sign -/
theorem op_mulS {X : Cx} : OpR X (binaryOp .Mult) (fun x y H Q => ∃ (c : Nat) (n : Int), x = .str ⟨#[c]⟩ ∧ y = .int n ∧ (0 ≤ n ∧ n ≤ 16000000) ∧ Q (.str ⟨(List.replicate n.toNat c).toArray⟩) H) := by
  intro pins s σ H x y v u Q I rx ry h
  obtain ⟨c, n, rfl, rfl, ⟨n0, n1⟩, q⟩ := h
  obtain ⟨t, rfl⟩ := rx
  obtain ⟨t', rfl⟩ := ry
  have lim : sizeLine = 16777216 := sizeLine_eq
  have fold : ∀ (k : Nat) (a : Array Nat), ((List.replicate k (#[c] : Array Nat)).foldl (· ++ ·) a).toList = a.toList ++ List.replicate k c := by
    intro k
    induction k with
    | zero => intro a; simp
    | succ k ih => intro a; rw [List.replicate_succ, List.foldl_cons, ih, Array.toList_append, List.replicate_succ]; simp
  have e : Txt.mul (⟨#[c]⟩ : Str) n = ⟨(List.replicate n.toNat c).toArray⟩ := by
    unfold Txt.mul
    by_cases h1 : n < 1
    · rw [if_pos h1]
      have : n.toNat = 0 := by omega
      rw [this]; rfl
    · rw [if_neg h1]
      by_cases h2 : n = 1
      · subst h2; rfl
      · have h3 : (n == 1 || (⟨#[c]⟩ : Str).length == 0) = false := by
          have : (n == 1) = false := by simpa using h2
          rw [this]; rfl
        rw [h3, if_neg Bool.false_ne_true]
        refine TL.ext_tl ?_
        show ((List.replicate n.toNat (#[c] : Array Nat)).foldl (· ++ ·) #[]).toList = _
        rw [fold]
        simp [TL.tl]
  refine PySem.SB.mul ⟨?_, fun h1 h2 => ?_, fun h1 h2 => ?_⟩ fun t' k => ?_
  · rw [decide_eq_false (by omega), decide_eq_false (by omega)]; rfl
  · show ¬ ((1 : Int) > (2 ^ 63 - 1) / n)
    have : (1 : Int) ≤ (2 ^ 63 - 1) / n := by
      rw [Int.le_ediv_iff_mul_le (by omega)]
      omega
    omega
  · show PySem.Builtin.Str.tooLong (1 * n.toNat) = false
    rw [Nat.one_mul]
    unfold PySem.Builtin.Str.tooLong
    simp only [decide_eq_false_iff_not]
    omega
  · rw [e]
    exact ⟨.str _, H, I.tok _, ⟨_, rfl⟩, q⟩
theorem dig_len {n : Nat} (h : n < 10 ^ 20) : (dig n).length ≤ 20 := TL.numL_len (by decide) h
theorem txt_size {n : Nat} : ∀ {t : Tr}, pl n t = true → fit t = true → sml t = true → (txt t).length ≤ 10000100
  | .int i, h, _, _ => by
    have h : (decide (0 ≤ i) && decide (i ≤ 99999999999999999999)) = true := h
    rw [Bool.and_eq_true, decide_eq_true_eq, decide_eq_true_eq] at h
    have := dig_len (n := i.toNat) (by omega)
    show (dig i.toNat ++ [46]).length ≤ _
    rw [List.length_append]
    show _ + 1 ≤ _
    omega
  | .str z, _, _, hs => by
    have h : z.length ≤ 10000000 := of_decide_eq_true hs
    have := dig_len (n := z.length) (by omega)
    show (dig z.length ++ 58 :: TL.tl z).length ≤ _
    rw [List.length_append, List.length_cons, ← TL.len_tl]
    omega
  | .tup ts, _, h, _ => by
    have h : (fits ts && decide ((txts ts).length + 2 ≤ 100000)) = true := h
    rw [Bool.and_eq_true, decide_eq_true_eq] at h
    show (91 :: (txts ts ++ [93])).length ≤ _
    rw [List.length_cons, List.length_append]
    show _ + 1 + 1 ≤ _
    omega
  | .oth _, h, _, _ => by cases h
theorem S_len (l : List Nat) : (⟨l.toArray⟩ : Str).length = l.length := by
  show l.toArray.size = _
  rw [List.size_toArray]
/-- str(n) -/
theorem toString_S (n : Nat) : Str.ofString (toString ((n : Nat) : Int)) = ⟨(dig n).toArray⟩ := TL.ext_tl (TL.tl_num n)
theorem app_S (a b : List Nat) : (⟨a.toArray⟩ : Str) ++ (⟨b.toArray⟩ : Str) = ⟨(a ++ b).toArray⟩ := TL.ext_tl (by rw [TL.tl_append])
theorem S_of (z : Str) : z = ⟨(TL.tl z).toArray⟩ := (TL.mk_tl z).symm
theorem log_small {i : Int} (h0 : 0 ≤ i) (h : i ≤ 99999999999999999999) : i.natAbs.log2 < 1920 := by
  by_cases z : i.natAbs = 0
  · rw [z]; decide
  · have := (Nat.log2_lt (k := 70) z).mpr (by omega)
    omega
theorem pls_mem {n : Nat} {t : Tr} : ∀ {ts : List Tr}, pls n ts = true → t ∈ ts → pl n t = true
  | u :: ts, h, m => by
    have h : (pl n u && pls n ts) = true := h
    rw [Bool.and_eq_true] at h
    rcases List.mem_cons.mp m with rfl | m
    · exact h.1
    · exact pls_mem h.2 m
theorem fits_mem {t : Tr} : ∀ {ts : List Tr}, fits ts = true → t ∈ ts → fit t = true
  | u :: ts, h, m => by
    have h : (fit u && fits ts) = true := h
    rw [Bool.and_eq_true] at h
    rcases List.mem_cons.mp m with rfl | m
    · exact h.1
    · exact fits_mem h.2 m
theorem smls_mem {t : Tr} : ∀ {ts : List Tr}, smls ts = true → t ∈ ts → sml t = true
  | u :: ts, h, m => by
    have h : (sml u && smls ts) = true := h
    rw [Bool.and_eq_true] at h
    rcases List.mem_cons.mp m with rfl | m
    · exact h.1
    · exact smls_mem h.2 m
theorem take_one {α : Type} {l : List α} {i : Nat} {x : α} (h : l[i]? = some x) : l.take (i + 1) = l.take i ++ [x] := by
  rw [List.take_add_one, h]; rfl
/-- the texts of items, as Python's texts -/
def tys (ts : List Tr) : List Str := ts.map fun t => (⟨(txt t).toArray⟩ : Str)
theorem tys_app (ts us : List Tr) : tys (ts ++ us) = tys ts ++ tys us := List.map_append
theorem tl_tys : ∀ ts : List Tr, TL.tl (Txt.join (Str.ofString "") (tys ts)) = txts ts := by
  intro ts
  rw [tl_joinE]
  induction ts with
  | nil => rfl
  | cons t ts ih =>
    show txt t ++ ((tys ts).map TL.tl).flatten = txt t ++ txts ts
    rw [ih]
theorem tys_sum : ∀ ts : List Tr, ((tys ts).map (·.length)).sum = (txts ts).length
  | [] => rfl
  | t :: ts => by
    show (⟨(txt t).toArray⟩ : Str).length + ((tys ts).map (·.length)).sum = (txt t ++ txts ts).length
    rw [tys_sum ts, S_len, List.length_append]
theorem take_le : ∀ (ts : List Tr) (i : Nat), (txts (ts.take i)).length ≤ (txts ts).length
  | [], i => by rw [List.take_nil]; exact Nat.le_refl _
  | t :: ts, 0 => Nat.zero_le _
  | t :: ts, i + 1 => by
    show (txt t ++ txts (ts.take i)).length ≤ (txt t ++ txts ts).length
    have := take_le ts i
    rw [List.length_append, List.length_append]
    omega
theorem TabG.ne_lst {Pt p : Addr} {H : Hp} {xs : List V} (g : GxR.TabG H Pt) (h : H p = some (.lst xs)) : p ≠ Pt := by
  obtain ⟨ps, e, _⟩ := g
  exact ne_of h e (by intro z; cases z)
theorem TabG.upd {Pt p : Addr} {H : Hp} {o : HO} (g : GxR.TabG H Pt) (n : p ≠ Pt) : GxR.TabG (upd H p o) Pt := by
  obtain ⟨ps, e, q⟩ := g
  exact ⟨ps, by rw [upd_ne (Ne.symm n)]; exact e, q⟩
end SC

/-! decode: what its readings want -/
namespace SC
open PySem L2
theorem no_oth : ∀ {n : Nat} {l r : List Nat} {v : V}, pval n l ≠ some (.oth v, r) := by
  have lf : ∀ {l r : List Nat} {v : V}, leaf l ≠ some (.oth v, r) := fun {l r v} h => by
    unfold leaf at h
    split at h
    · split at h
      · cases h
      · split at h <;> cases h
      · cases h
    · cases h
  intro n l r v h
  cases n with
  | zero =>
    unfold pval at h
    split at h
    · cases h
    · exact lf h
  | succ n =>
    unfold pval at h
    split at h
    · split at h <;> cases h
    · exact lf h
theorem pval_dec {n : Nat} {l r : List Nat} {t : Tr} (h : pval n l = some (t, r)) : r.length < l.length := by
  have e := (pval_back n l r t h).1
  have pos : 0 < (txt t).length := by
    cases t with
    | int i => show 0 < (dig i.toNat ++ [46]).length; rw [List.length_append]; show 0 < _ + 1; omega
    | str z => show 0 < (dig z.length ++ 58 :: TL.tl z).length; rw [List.length_append, List.length_cons]; omega
    | tup ts => show 0 < (91 :: (txts ts ++ [93])).length; rw [List.length_cons]; omega
    | oth v => exact absurd h no_oth
  rw [e, List.length_append]
  omega
theorem items_fuel {n : Nat} : ∀ (k : Nat) (l : List Nat) (f g : Nat), l.length = k → l.length < f → l.length < g → items (pval n) f l = items (pval n) g l := by
  intro k
  induction k using Nat.strongRecOn with
  | _ k ih =>
    intro l f g hk hf hg
    cases f with
    | zero => omega
    | succ f =>
      cases g with
      | zero => omega
      | succ g =>
        unfold items
        split
        · rfl
        · cases e : pval n l with
          | none => rfl
          | some x =>
            obtain ⟨t, r⟩ := x
            have := pval_dec e
            simp only
            rw [ih r.length (by omega) r f g rfl (by omega) (by omega)]
def itm (n : Nat) (l : List Nat) : Option (List Tr × List Nat) := items (pval n) (l.length + 1) l
theorem itm_close (n : Nat) (r : List Nat) : itm n (93 :: r) = some ([], r) := rfl
theorem itm_step {n : Nat} {l : List Nat} (h : l.head? ≠ some 93) : itm n l = match pval n l with
    | none => none
    | some (t, r) => (itm n r).map fun x => (t :: x.1, x.2) := by
  unfold itm
  cases l with
  | nil =>
    unfold items
    simp only
    cases e : pval n [] with
    | none => rfl
    | some x => obtain ⟨t, r⟩ := x; exact absurd (pval_dec e) (by simp)
  | cons a l =>
    have ha : a ≠ 93 := fun z => h (by rw [z]; rfl)
    rw [show items (pval n) ((a :: l).length + 1) (a :: l) = match pval n (a :: l) with
      | none => none
      | some (t, r) => match items (pval n) (a :: l).length r with
        | none => none
        | some (ts, r2) => some (t :: ts, r2) from by
      conv => lhs; unfold items
      split
      · rename_i z; injection z with z _; exact absurd z ha
      · rfl]
    cases e : pval n (a :: l) with
    | none => rfl
    | some x =>
      obtain ⟨t, r⟩ := x
      have := pval_dec e
      simp only
      rw [items_fuel r.length r (a :: l).length (r.length + 1) rfl (by omega) (by omega)]
      cases items (pval n) (r.length + 1) r with
      | none => rfl
      | some y => rfl
theorem pval_br (n : Nat) (r : List Nat) : pval (n + 1) (91 :: r) = (itm n r).map fun x => (.tup x.1, x.2) := by
  unfold pval itm
  simp only
  cases items (pval n) (r.length + 1) r with
  | none => rfl
  | some x => rfl
/-- a slice of a text by natural bounds -/
theorem cut_nat (z : Str) {a b : Nat} (h : a ≤ b) : TL.tl (cutS z (some (a : Int)) (some (b : Int))) = ((TL.tl z).drop a).take (b - a) := by
  show (z.cps.toList.drop (HT.sIx z.length 0 (some (a : Int)))).take (HT.sIx z.length z.length (some (b : Int)) - HT.sIx z.length 0 (some (a : Int))) = _
  have sx : ∀ (k d : Nat), HT.sIx z.length d (some (k : Int)) = min k z.length := fun k d => by
    show (if (k : Int) < 0 then ((k : Int) + (z.length : Int)).toNat else min (k : Int).toNat z.length) = _
    rw [if_neg (by omega), Int.toNat_natCast]
  rw [sx, sx]
  have el : z.cps.toList.length = z.length := (TL.len_tl z).symm
  by_cases ha : a ≤ z.length
  · rw [Nat.min_eq_left ha]
    by_cases hb : b ≤ z.length
    · rw [Nat.min_eq_left hb]
    · rw [Nat.min_eq_right (by omega), List.take_of_length_le (by rw [List.length_drop]; omega), List.take_of_length_le (by rw [List.length_drop, show (TL.tl z).length = z.length from el]; omega)]
  · rw [Nat.min_eq_right (by omega), Nat.min_eq_right (by omega), Nat.sub_self, List.take_zero]
    rw [List.drop_eq_nil_of_le (by rw [show (TL.tl z).length = z.length from el]; omega), List.take_nil]
theorem cut_one (z : Str) (a : Nat) : TL.tl (cutS z (some (a : Int)) (some ((a : Int) + 1))) = ((TL.tl z).drop a).take 1 := by
  have h := cut_nat z (a := a) (b := a + 1) (Nat.le_succ a)
  rw [show a + 1 - a = 1 by omega] at h
  exact h
/-- a one-sign slice compared with a sign -/
theorem one_sign_eq {x : Str} {d : List Nat} {c : Nat} (h : TL.tl x = d.take 1) : x = ⟨#[c]⟩ ↔ d.head? = some c := by
  constructor
  · intro e
    have e2 : TL.tl x = [c] := by rw [e]
    rw [h] at e2
    cases d with
    | nil => cases e2
    | cons a d => injection e2 with e2 _; rw [e2]; rfl
  · intro e
    cases d with
    | nil => cases e
    | cons a d =>
      have : a = c := Option.some.inj e
      subst this
      exact TL.ext_tl (by rw [h]; rfl)
section
variable {H H' : Hp}
theorem tyN_kp0 {v : V} {t : String} (k : Kp [] H H') (h : tyN H v = some t) : tyN H' v = some t := by
  cases v with
  | ref p =>
    unfold tyN at h
    simp only at h
    split at h
    · rename_i xs q; cases h; exact tyN_lst (k.keep _ _ (by simp) q)
    · rename_i xs q; cases h; exact tyN_tup (k.keep _ _ (by simp) q)
    · rename_i xs q; cases h; exact tyN_dK (k.keep _ _ (by simp) q)
    · cases h
  | _ => exact h
mutual
theorem Rep.kp0 (k : Kp [] H H') : ∀ {v : V} {t : Tr}, Rep H v t → Rep H' v t
  | _, _, .int i => .int i
  | _, _, .str z => .str z
  | _, _, .tup e h => .tup (k.tup _ _ e) (h.kp0 k)
  | _, _, .oth e a b c => .oth (tyN_kp0 k e) a b c
theorem RepAll.kp0 (k : Kp [] H H') : ∀ {vs : List V} {ts : List Tr}, RepAll H vs ts → RepAll H' vs ts
  | _, _, .nil => .nil
  | _, _, .cons a b => .cons (a.kp0 k) (b.kp0 k)
end
end
theorem takeWhile_take (l : List Nat) : l.take (l.takeWhile isD).length = l.takeWhile isD ∧ l.drop (l.takeWhile isD).length = l.dropWhile isD := by
  induction l with
  | nil => exact ⟨rfl, rfl⟩
  | cons a l ih =>
    cases h : isD a with
    | true => simp [List.takeWhile, List.dropWhile, h, ih.1, ih.2]
    | false => simp [List.takeWhile, List.dropWhile, h]
theorem tw_next : ∀ (D : List Nat) (k : Nat), k ≤ (D.takeWhile isD).length → (∃ c r, D.drop k = c :: r ∧ isD c = true ∧ k < (D.takeWhile isD).length) ∨ (k = (D.takeWhile isD).length ∧ (D.drop k = [] ∨ ∃ c r, D.drop k = c :: r ∧ isD c = false))
  | [], k, h => by
    have : k = 0 := Nat.le_zero.mp h
    subst this
    exact .inr ⟨rfl, .inl rfl⟩
  | a :: D, 0, h => by
    cases ha : isD a with
    | true => exact .inl ⟨a, D, rfl, ha, by simp [List.takeWhile, ha]⟩
    | false => exact .inr ⟨by simp [List.takeWhile, ha], .inr ⟨a, D, rfl, ha⟩⟩
  | a :: D, k + 1, h => by
    cases ha : isD a with
    | true =>
      have e : (a :: D).takeWhile isD = a :: D.takeWhile isD := by simp [List.takeWhile, ha]
      rw [e] at h ⊢
      have h : k + 1 ≤ (D.takeWhile isD).length + 1 := h
      rcases tw_next D k (by omega) with ⟨c, r, q1, q2, q3⟩ | ⟨q1, q2⟩
      · exact .inl ⟨c, r, q1, q2, by show k + 1 < _ + 1; omega⟩
      · exact .inr ⟨by show k + 1 = _ + 1; omega, q2⟩
    | false =>
      have e : (a :: D).takeWhile isD = [] := by simp [List.takeWhile, ha]
      rw [e] at h
      exact absurd h (by simp)
theorem lt48 {x : Str} {d : List Nat} (h : TL.tl x = d.take 1) : (x.cps.toList < (Str.ofString "0").cps.toList) ↔ (d = [] ∨ ∃ c r, d = c :: r ∧ c < 48) := by
  have e : (Str.ofString "0").cps.toList = [48] := by decide +kernel
  rw [e, show x.cps.toList = d.take 1 from h]
  cases d with
  | nil => exact ⟨fun _ => .inl rfl, fun _ => List.Lex.nil⟩
  | cons c r =>
    show ([c] < [48]) ↔ _
    rw [one_lt]
    constructor
    · intro q; exact .inr ⟨c, r, rfl, q⟩
    · rintro (q | ⟨c', r', q, q2⟩)
      · cases q
      · injection q with q _; rw [q]; exact q2
theorem lt57 {x : Str} {c : Nat} {r : List Nat} (h : TL.tl x = (c :: r).take 1) : ((Str.ofString "9").cps.toList < x.cps.toList) ↔ 57 < c := by
  have e : (Str.ofString "9").cps.toList = [57] := by decide +kernel
  rw [e, show x.cps.toList = [c] from h]
  exact one_lt
section
variable {H : Hp} {p : Addr} {xs ys : List V}
theorem tyN_updL (h : H p = some (.lst xs)) {v : V} {t : String} (e : tyN H v = some t) : tyN (upd H p (.lst ys)) v = some t := by
  cases v with
  | ref a =>
    by_cases c : a = p
    · subst c
      rw [tyN_lst h] at e
      rw [tyN_lst upd_same]
      exact e
    · unfold tyN at e ⊢
      simp only at e ⊢
      rw [upd_ne c]
      exact e
  | _ => exact e
mutual
theorem Rep.updL (h : H p = some (.lst xs)) : ∀ {v : V} {t : Tr}, Rep H v t → Rep (upd H p (.lst ys)) v t
  | _, _, .int i => .int i
  | _, _, .str z => .str z
  | _, _, .tup e q => .tup (by rw [upd_ne (ne_of e h (by intro z; cases z))]; exact e) (q.updL h)
  | _, _, .oth e a b c => .oth (tyN_updL h e) a b c
theorem RepAll.updL (h : H p = some (.lst xs)) : ∀ {vs : List V} {ts : List Tr}, RepAll H vs ts → RepAll (upd H p (.lst ys)) vs ts
  | _, _, .nil => .nil
  | _, _, .cons a b => .cons (a.updL h) (b.updL h)
end
end
end SC

/-! values that a law draws: their bounds -/
namespace SC
open PySem L2
theorem ok_never {P : Program} {w : World} {K : PySem.W.Frag} {mg : Str → Option Value} {base : Heap} {CX : CXT} {k : Nat} {f : Addr} {fd : FuncData} {ps : List Str} : FnOk P w K mg base CX k f fd ps (fun _ _ _ _ => False) :=
  ⟨fun _ _ _ _ h => h.elim, fun _ _ _ _ _ _ _ _ _ _ _ _ _ h => h.elim⟩
mutual
/-- how many tuples -/
def nT : Tr → Nat
  | .tup ts => 1 + nTs ts
  | _ => 0
def nTs : List Tr → Nat
  | [] => 0
  | t :: ts => nT t + nTs ts
end
mutual
/-- drawn: small leaves, at most three items, at most n deep -/
def gd (n : Nat) : Tr → Bool
  | .int i => decide (0 ≤ i) && decide (i ≤ 99999999999999999999)
  | .str z => decide (z.length ≤ 105) && prn z
  | .tup ts => match n with
    | 0 => false
    | m + 1 => decide (ts.length ≤ 3) && gds m ts
  | .oth _ => false
def gds (n : Nat) : List Tr → Bool
  | [] => true
  | t :: ts => gd n t && gds n ts
end
theorem gds_app (n : Nat) : ∀ (ts us : List Tr), gds n (ts ++ us) = (gds n ts && gds n us)
  | [], us => by simp [gds]
  | t :: ts, us => by
    show (gd n t && gds n (ts ++ us)) = ((gd n t && gds n ts) && gds n us)
    rw [gds_app n ts us, Bool.and_assoc]
theorem nTs_app : ∀ (ts us : List Tr), nTs (ts ++ us) = nTs ts + nTs us
  | [], us => by simp [nTs]
  | t :: ts, us => by
    show nT t + nTs (ts ++ us) = (nT t + nTs ts) + nTs us
    rw [nTs_app ts us, Nat.add_assoc]
mutual
theorem gd_pl : ∀ (n : Nat) (t : Tr), gd n t = true → pl n t = true ∧ sml t = true
  | n, .int i, h => ⟨h, rfl⟩
  | n, .str z, h => by
    have h : (decide (z.length ≤ 105) && prn z) = true := h
    rw [Bool.and_eq_true, decide_eq_true_eq] at h
    exact ⟨h.2, by show decide (z.length ≤ 10000000) = true; rw [decide_eq_true (by omega)]⟩
  | 0, .tup ts, h => by cases h
  | n + 1, .tup ts, h => by
    have h : (decide (ts.length ≤ 3) && gds n ts) = true := h
    rw [Bool.and_eq_true, decide_eq_true_eq] at h
    obtain ⟨q1, q2⟩ := gds_pl n ts h.2
    exact ⟨q1, by show (smls ts && decide (ts.length ≤ 1000000)) = true; rw [q2, decide_eq_true (by omega)]; rfl⟩
  | _, .oth _, h => by cases h
theorem gds_pl : ∀ (n : Nat) (ts : List Tr), gds n ts = true → pls n ts = true ∧ smls ts = true
  | _, [], _ => ⟨rfl, rfl⟩
  | n, t :: ts, h => by
    have h : (gd n t && gds n ts) = true := h
    rw [Bool.and_eq_true] at h
    obtain ⟨a1, a2⟩ := gd_pl n t h.1
    obtain ⟨b1, b2⟩ := gds_pl n ts h.2
    exact ⟨by show (pl n t && pls n ts) = true; rw [a1, b1]; rfl, by show (sml t && smls ts) = true; rw [a2, b2]; rfl⟩
end
mutual
theorem gd_len : ∀ (n : Nat) (t : Tr), gd n t = true → (txt t).length ≤ 130 + 400 * nT t
  | n, .int i, h => by
    have h : (decide (0 ≤ i) && decide (i ≤ 99999999999999999999)) = true := h
    rw [Bool.and_eq_true, decide_eq_true_eq, decide_eq_true_eq] at h
    have := dig_len (n := i.toNat) (by omega)
    show (dig i.toNat ++ [46]).length ≤ _
    rw [List.length_append]
    show _ + 1 ≤ _
    omega
  | n, .str z, h => by
    have h : (decide (z.length ≤ 105) && prn z) = true := h
    rw [Bool.and_eq_true, decide_eq_true_eq] at h
    have := dig_len (n := z.length) (by omega)
    show (dig z.length ++ 58 :: TL.tl z).length ≤ _
    rw [List.length_append, List.length_cons, ← TL.len_tl]
    omega
  | 0, .tup ts, h => by cases h
  | n + 1, .tup ts, h => by
    have h : (decide (ts.length ≤ 3) && gds n ts) = true := h
    rw [Bool.and_eq_true, decide_eq_true_eq] at h
    have := gds_len n ts h.2
    show (91 :: (txts ts ++ [93])).length ≤ 130 + 400 * (1 + nTs ts)
    rw [List.length_cons, List.length_append]
    show _ + 1 + 1 ≤ _
    omega
  | _, .oth _, h => by cases h
theorem gds_len : ∀ (n : Nat) (ts : List Tr), gds n ts = true → (txts ts).length ≤ 130 * ts.length + 400 * nTs ts
  | _, [], _ => Nat.zero_le _
  | n, t :: ts, h => by
    have h : (gd n t && gds n ts) = true := h
    rw [Bool.and_eq_true] at h
    have a := gd_len n t h.1
    have b := gds_len n ts h.2
    show (txt t ++ txts ts).length ≤ 130 * (ts.length + 1) + 400 * (nT t + nTs ts)
    rw [List.length_append]
    omega
end
mutual
theorem pl_mono : ∀ (n m : Nat) (t : Tr), n ≤ m → pl n t = true → pl m t = true
  | _, _, .int _, _, h => h
  | _, _, .str _, _, h => h
  | 0, _, .tup _, _, h => by cases h
  | n + 1, 0, .tup _, q, _ => by omega
  | n + 1, m + 1, .tup ts, q, h => pls_mono n m ts (by omega) h
  | _, _, .oth _, _, h => h
theorem pls_mono : ∀ (n m : Nat) (ts : List Tr), n ≤ m → pls n ts = true → pls m ts = true
  | _, _, [], _, _ => rfl
  | n, m, t :: ts, q, h => by
    have h : (pl n t && pls n ts) = true := h
    rw [Bool.and_eq_true] at h
    show (pl m t && pls m ts) = true
    rw [pl_mono n m t q h.1, pls_mono n m ts q h.2]
    rfl
end
mutual
/-- no other kind within: such values stand whatever lists change -/
def pure_ : Tr → Bool
  | .oth _ => false
  | .tup ts => pures ts
  | _ => true
def pures : List Tr → Bool
  | [] => true
  | t :: ts => pure_ t && pures ts
end
mutual
theorem pl_pure : ∀ (n : Nat) (t : Tr), pl n t = true → pure_ t = true
  | _, .int _, _ => rfl
  | _, .str _, _ => rfl
  | 0, .tup _, h => by cases h
  | n + 1, .tup ts, h => pls_pure n ts h
  | _, .oth _, h => by cases h
theorem pls_pure : ∀ (n : Nat) (ts : List Tr), pls n ts = true → pures ts = true
  | _, [], _ => rfl
  | n, t :: ts, h => by
    have h : (pl n t && pls n ts) = true := h
    rw [Bool.and_eq_true] at h
    show (pure_ t && pures ts) = true
    rw [pl_pure n t h.1, pls_pure n ts h.2]
    rfl
end
mutual
theorem Rep.any {S : List Addr} {H H' : Hp} (k : Kp S H H') : ∀ {v : V} {t : Tr}, Rep H v t → pure_ t = true → Rep H' v t
  | _, _, .int i, _ => .int i
  | _, _, .str z, _ => .str z
  | _, _, .tup e q, h => .tup (k.tup _ _ e) (q.any k h)
  | _, _, .oth _ _ _ _, h => by cases h
theorem RepAll.any {S : List Addr} {H H' : Hp} (k : Kp S H H') : ∀ {vs : List V} {ts : List Tr}, RepAll H vs ts → pures ts = true → RepAll H' vs ts
  | _, _, .nil, _ => .nil
  | _, t :: ts, .cons a b, h => by
    have h : (pure_ t && pures ts) = true := h
    rw [Bool.and_eq_true] at h
    exact .cons (a.any k h.1) (b.any k h.2)
end
mutual
/-- the law's own comparison -/
def same : Tr → Tr → Bool
  | .tup us, .tup ts => sames us ts
  | .str a, .str b => decide (a = b)
  | .int a, .int b => decide (a = b)
  | _, _ => false
def sames : List Tr → List Tr → Bool
  | [], [] => true
  | u :: us, t :: ts => same u t && sames us ts
  | _, _ => false
end
mutual
theorem same_refl : ∀ (n : Nat) (t : Tr), pl n t = true → same t t = true
  | _, .int _, _ => by show decide _ = true; exact decide_eq_true rfl
  | _, .str _, _ => by show decide _ = true; exact decide_eq_true rfl
  | 0, .tup _, h => by cases h
  | n + 1, .tup ts, h => sames_refl n ts h
  | _, .oth _, h => by cases h
theorem sames_refl : ∀ (n : Nat) (ts : List Tr), pls n ts = true → sames ts ts = true
  | _, [], _ => rfl
  | n, t :: ts, h => by
    have h : (pl n t && pls n ts) = true := h
    rw [Bool.and_eq_true] at h
    show (same t t && sames ts ts) = true
    rw [same_refl n t h.1, sames_refl n ts h.2]
    rfl
end
mutual
theorem same_eq : ∀ (a b : Tr), same a b = true → a = b
  | .tup us, .tup ts, h => by rw [sames_eq us ts h]
  | .str a, .str b, h => by rw [of_decide_eq_true (show decide (a = b) = true from h)]
  | .int a, .int b, h => by rw [of_decide_eq_true (show decide (a = b) = true from h)]
  | .oth _, .oth _, h => by cases h
  | .oth _, .int _, h => by cases h
  | .oth _, .str _, h => by cases h
  | .oth _, .tup _, h => by cases h
  | .int _, .oth _, h => by cases h
  | .int _, .str _, h => by cases h
  | .int _, .tup _, h => by cases h
  | .str _, .oth _, h => by cases h
  | .str _, .int _, h => by cases h
  | .str _, .tup _, h => by cases h
  | .tup _, .oth _, h => by cases h
  | .tup _, .int _, h => by cases h
  | .tup _, .str _, h => by cases h
theorem sames_eq : ∀ (us ts : List Tr), sames us ts = true → us = ts
  | [], [], _ => rfl
  | u :: us, t :: ts, h => by
    have h : (same u t && sames us ts) = true := h
    rw [Bool.and_eq_true] at h
    rw [same_eq u t h.1, sames_eq us ts h.2]
  | [], _ :: _, h => by cases h
  | _ :: _, [], h => by cases h
end
theorem sames_len : ∀ {us ts : List Tr}, sames us ts = true → us.length = ts.length := fun h => by rw [sames_eq _ _ h]
/-- one promise for all depths up to a bound -/
theorem fnok_ex {P : Program} {w : World} {K : PySem.W.Frag} {mg : Str → Option Value} {base : Heap} {CX : CXT} {k : Nat} {f : Addr} {fd : FuncData} {ps : List Str} {sp : Nat → Sp} {N : Nat} (h : ∀ n, n ≤ N → FnOk P w K mg base CX k f fd ps (sp n)) :
    FnOk P w K mg base CX k f fd ps (fun vs H Q E => ∃ n, n ≤ N ∧ sp n vs H Q E) :=
  ⟨fun vs H Q E ⟨n, hn, q⟩ => (h n hn).len vs H Q E q, fun A outer s H args us vs Q E hr he hb hv ⟨n, hn, q⟩ => (h n hn).run A outer s H args us vs Q E hr he hb hv q⟩
theorem strT {z : Str} (hz : z.length ≤ 10000000) : z.length ≤ sizeLine ∧ (z.length : Int).natAbs.log2 < 1920 ∧ (Str.ofString (toString (z.length : Int))).length + (Str.ofString ":").length ≤ sizeLine ∧
    (Str.ofString (toString (z.length : Int)) ++ Str.ofString ":").length + z.length ≤ sizeLine ∧ Str.ofString (toString (z.length : Int)) ++ Str.ofString ":" ++ z = ⟨(txt (.str z)).toArray⟩ := by
  have lim : sizeLine = 16777216 := sizeLine_eq
  have dl := dig_len (n := z.length) (by omega)
  have e1 : (Str.ofString (toString (z.length : Int))).length ≤ 20 := by rw [toString_S, S_len]; exact dl
  have e2 : (Str.ofString ":").length = 1 := by decide +kernel
  have e3 : (Str.ofString (toString (z.length : Int)) ++ Str.ofString ":").length ≤ 21 := by
    rw [TL.len_tl, TL.tl_append, List.length_append, ← TL.len_tl, ← TL.len_tl]; omega
  refine ⟨by omega, log_small (by omega) (by omega), by omega, by omega, TL.ext_tl ?_⟩
  rw [TL.tl_append, TL.tl_append, TL.tl_num]
  show (dig z.length ++ [58]) ++ TL.tl z = dig z.length ++ 58 :: TL.tl z
  rw [List.append_assoc]; rfl
theorem intT {i : Int} (h0 : 0 ≤ i) (h1 : i ≤ 99999999999999999999) : i.natAbs.log2 < 1920 ∧ (Str.ofString (toString i)).length + (Str.ofString ".").length ≤ sizeLine ∧ Str.ofString (toString i) ++ Str.ofString "." = ⟨(txt (.int i)).toArray⟩ := by
  have lim : sizeLine = 16777216 := sizeLine_eq
  have ei : i = ((i.toNat : Nat) : Int) := by omega
  have dl := dig_len (n := i.toNat) (by omega)
  have e2 : (Str.ofString ".").length = 1 := by decide +kernel
  have e1 : (Str.ofString (toString i)).length ≤ 20 := by rw [ei, toString_S, S_len]; exact dl
  refine ⟨log_small h0 h1, by omega, TL.ext_tl ?_⟩
  rw [TL.tl_append]
  show TL.tl (Str.ofString (toString i)) ++ [46] = dig i.toNat ++ [46]
  rw [show TL.tl (Str.ofString (toString i)) = dig i.toNat by rw [ei]; exact TL.tl_num _]
theorem tupT (ts : List Tr) (h : (txts ts).length ≤ 16000000) : ((tys ts).map (·.length)).sum + (tys ts).length * (Str.ofString "").length ≤ 16777216 ∧ (Str.ofString "[").length + (Txt.join (Str.ofString "") (tys ts)).length ≤ sizeLine ∧
    (Str.ofString "[" ++ Txt.join (Str.ofString "") (tys ts)).length + (Str.ofString "]").length ≤ sizeLine ∧ Str.ofString "[" ++ Txt.join (Str.ofString "") (tys ts) ++ Str.ofString "]" = ⟨(txt (.tup ts)).toArray⟩ := by
  have lim : sizeLine = 16777216 := sizeLine_eq
  have h2 : (Str.ofString "]").length = 1 := by decide +kernel
  have h1 : (Str.ofString "[").length = 1 := by decide +kernel
  refine ⟨?_, ?_, ?_, TL.ext_tl ?_⟩
  · rw [tys_sum]
    show _ + (tys ts).length * 0 ≤ _
    omega
  · rw [h1, TL.len_tl, tl_tys]; omega
  · rw [TL.len_tl, TL.tl_append, List.length_append, ← TL.len_tl, h1, tl_tys, h2]; omega
  · rw [TL.tl_append, TL.tl_append, tl_tys]
    rfl
theorem sames_cat {u t : Tr} (h : same u t = true) : ∀ (us ts : List Tr), sames us ts = true → sames (us ++ [u]) (ts ++ [t]) = true
  | [], [], _ => by show (same u t && true) = true; rw [h]; rfl
  | a :: us, b :: ts, q => by
    have q : (same a b && sames us ts) = true := q
    rw [Bool.and_eq_true] at q
    show (same a b && sames (us ++ [u]) (ts ++ [t])) = true
    rw [q.1, sames_cat h us ts q.2]; rfl
  | [], _ :: _, q => by cases q
  | _ :: _, [], q => by cases q
theorem dig_prc (n : Nat) : ∀ c ∈ dig n, prc c = true := fun c hc => by
  obtain ⟨h1, h2⟩ := isD_iff.mp (dig_isD n c hc)
  unfold prc
  rw [decide_eq_true (by omega), decide_eq_true (by omega), decide_eq_false (by omega)]
  rfl
mutual
theorem txt_prc : ∀ (n : Nat) (t : Tr), pl n t = true → ∀ c ∈ txt t, prc c = true
  | n, .int i, _, c, h => by
    rcases List.mem_append.mp (show c ∈ dig i.toNat ++ [46] from h) with h | h
    · exact dig_prc _ c h
    · rw [List.mem_singleton.mp h]; decide
  | n, .str z, hp, c, h => by
    rcases List.mem_append.mp (show c ∈ dig z.length ++ 58 :: TL.tl z from h) with h | h
    · exact dig_prc _ c h
    · rcases List.mem_cons.mp h with h | h
      · rw [h]; decide
      · have hp : prn z = true := hp
        unfold prn at hp
        exact List.all_eq_true.mp hp c h
  | 0, .tup ts, hp, c, h => by cases hp
  | n + 1, .tup ts, hp, c, h => by
    rcases List.mem_cons.mp (show c ∈ 91 :: (txts ts ++ [93]) from h) with h | h
    · rw [h]; decide
    · rcases List.mem_append.mp h with h | h
      · exact txts_prc n ts hp c h
      · rw [List.mem_singleton.mp h]; decide
  | _, .oth _, hp, _, _ => by cases hp
theorem txts_prc : ∀ (n : Nat) (ts : List Tr), pls n ts = true → ∀ c ∈ txts ts, prc c = true
  | _, [], _, c, h => by cases h
  | n, t :: ts, hp, c, h => by
    have hp : (pl n t && pls n ts) = true := hp
    rw [Bool.and_eq_true] at hp
    rcases List.mem_append.mp (show c ∈ txt t ++ txts ts from h) with h | h
    · exact txt_prc n t hp.1 c h
    · exact txts_prc n ts hp.2 c h
end
theorem txt_prn {n : Nat} {t : Tr} (h : pl n t = true) : prn ⟨(txt t).toArray⟩ = true := by
  unfold prn
  exact List.all_eq_true.mpr fun c hc => txt_prc n t h c (by simpa using hc)
end SC

namespace SC
open PySem L2 PyProof.Rows
theorem hexF (n : Nat) : PyProof.Rows.intField' { align := 62, type := some 120 } false [] ((Nat.toDigits 16 n).map fun c => (if (120 : Nat) == 88 then c.toUpper else c).toNat) [] 4 = ⟨((Nat.toDigits 16 n).map Char.toNat).toArray⟩ := by
  have e : ((Nat.toDigits 16 n).map fun c => (if (120 : Nat) == 88 then c.toUpper else c).toNat) = (Nat.toDigits 16 n).map Char.toNat := by
    apply List.map_congr_left
    intro c _
    rw [if_neg (by decide)]
  rw [e]
  unfold PyProof.Rows.intField'
  have hd : ((Nat.toDigits 16 n).map Char.toNat).isEmpty = false := by
    have := tDigits_len_ge 16 n
    cases h : Nat.toDigits 16 n with
    | nil => rw [h] at this; simp at this
    | cons _ _ => rfl
  generalize (Nat.toDigits 16 n).map Char.toNat = ds at hd ⊢
  simp [hd]
open PySem.W PySem.Calls Builtin Builtin.Str Builtin.Int Builtin.Float in
theorem fld_hex {prog : Program} {w : World} {A : Around} {E : Value → Shared → Prop} {s : Shared} {t : Tok} {n : Nat} {Q : Value → Shared → Prop} (hn : (Nat.toDigits 16 n).length ≤ 1000)
    (h : ∀ t' k, Q (.str ⟨((Nat.toDigits 16 n).map Char.toNat).toArray⟩ t') { s with toks := k }) : wpAny (model prog w) A (formatField (.int (n : Int) t) (PySem.Str.ofString "x")) Q E s := by
  refine PySem.W.KXf.field_int rfl (by decide) (by decide) ?_ h
  intro u
  apply PySem.W.KPc.meets_of
  intro p1 w1 A1 s1 Q1 E1 h1
  unfold Builtin.«int.__format__»
  have hne : ((Str.ofString "x").length == 0) = false := by decide
  have hasc : (((Str.ofString "x").cps.toList.drop 1).any (· ≥ 128) || ((Str.ofString "x").cps.getD 0 0 ≥ 128 && !([60, 62, 61, 94] : List Nat).contains ((Str.ofString "x").cps.getD 1 0))) = false := by decide
  simp only [selfAndOne, noKeywords, Int.intOfSelf, asInt?, asStr?, List.isEmpty_nil, if_true, pure_bind, bind_pure, bind_assoc, hne, hasc, Bool.false_eq_true, if_false,
    show (Value.str (Str.ofString "x") u == Value.none) = false from rfl]
  refine wpAny_bind (wpAny_typeNameOf (T := "str") (typeIs_str _ _ _) (by decide) fun _ => ?_)
  refine wpAny_bind (wpAny_typeNameOfCut_int ?_)
  have hp : parseFormatSpec (Str.ofString "x").cps.toList "int" 62 = .ok { align := 62, type := some 120 } := by rfl
  simp only [hp]
  rw [if_pos (show _ = true by decide)]
  conv => arg 3; whnf
  refine PySem.W.KXf.ret_text (T := ⟨((Nat.toDigits 16 n).map Char.toNat).toArray⟩) ?_ ?_ h1
  · show PyProof.Rows.intField' { align := 62, type := some 120 } (decide ((n : Int) < 0)) [] ((Nat.toDigits 16 ((n : Int)).natAbs).map fun c => (if (120 : Nat) == 88 then c.toUpper else c).toNat) [] 4 = _
    rw [decide_eq_false (by omega), Int.natAbs_natCast]
    exact hexF n
  · show (PyProof.Rows.intField' { align := 62, type := some 120 } (decide ((n : Int) < 0)) [] ((Nat.toDigits 16 ((n : Int)).natAbs).map fun c => (if (120 : Nat) == 88 then c.toUpper else c).toNat) [] 4).length ≤ sizeLine
    rw [decide_eq_false (by omega), Int.natAbs_natCast, hexF n]
    show ((Nat.toDigits 16 n).map Char.toNat).toArray.size ≤ _
    rw [List.size_toArray, List.length_map, sizeLine_eq]
    omega
section
variable {X : Cx}
/-- {n:x} of an int from 0 on -/
def tFmtX (te : TE) : TE := fun σ H Q => te σ H fun x H1 => ∃ n : Nat, x = .int (n : Int) ∧ (Nat.toDigits 16 n).length ≤ 1000 ∧ Q (.str ⟨((Nat.toDigits 16 n).map Char.toNat).toArray⟩) H1
theorem pe_fmtX {e : Expr} {te : TE} {j : Nat} {p1 p2 p3 : Pos} (he : PE X e te) : PE X (.FormattedValue e (-1) (some (.JoinedStr [.Constant (.str "x") j p1] p2)) p3) (tFmtX te) := by
  refine ⟨fun pins s σ H Q I h => ?_⟩
  refine wpAny_FormattedValue_spec (thn (he.run pins s σ H _ I h) fun v s1 hv => ?_)
  obtain ⟨x, H1, I1, r1, n, rfl, hz, q⟩ := hv
  obtain ⟨t, rfl⟩ := r1
  refine thn ((pe_joined1 pe_str).run pins s1 σ H1 (fun y H2 => H2 = H1 ∧ y = .str "x") I1 ⟨rfl, rfl⟩) fun r s2 hr => ?_
  obtain ⟨y, H2, I2, r2, rfl, rfl⟩ := hr
  obtain ⟨t2, rfl⟩ := r2
  exact ⟨_, t2, rfl, fld_hex hz fun t' k => ⟨.str _, H2, I2.tok _, ⟨_, rfl⟩, q⟩⟩
end
/-- a module's constant, its token left open -/
theorem pe_cE {X : Cx} {x : Str} {n : Int} {p : Pos} (h : ∃ t, X.mg x = some (.int n t)) (hg : Gl X x := by rfl) (hd : (x == ("__debug__" : Str)) = false := by decide) : PE X (.Name x p) (tC (.int n)) :=
  let ⟨t, h⟩ := h
  pe_glob (v := .int n) hg h ⟨t, rfl⟩ hd
theorem pe_cSE {X : Cx} {x : Str} {n : Str} {p : Pos} (h : ∃ t, X.mg x = some (.str n t)) (hg : Gl X x := by rfl) (hd : (x == ("__debug__" : Str)) = false := by decide) : PE X (.Name x p) (tC (.str n)) :=
  let ⟨t, h⟩ := h
  pe_glob (v := .str n) hg h ⟨t, rfl⟩ hd

/-! the digest: a number, its 18 hexadecimal signs -/
def dgD : Nat := 2361183241434822606617
def dgF (n c : Nat) : Nat := (n * 65599 + c) % dgD
def rawF (n c : Nat) : Nat := n * 65599 + c
def dgN (cs : List Nat) : Nat := cs.foldl dgF (cs.length + 1)
def rawN (cs : List Nat) : Nat := cs.foldl rawF (cs.length + 1)
theorem fold_mod : ∀ (cs : List Nat) (a b : Nat), a % dgD = b % dgD → (cs.foldl dgF a) % dgD = (cs.foldl rawF b) % dgD
  | [], a, b, h => h
  | c :: cs, a, b, h => by
    rw [List.foldl_cons, List.foldl_cons]
    refine fold_mod cs _ _ ?_
    unfold dgF rawF
    rw [Nat.mod_mod, Nat.add_mod, Nat.mul_mod, h, ← Nat.mul_mod, ← Nat.add_mod]
theorem fold_lt : ∀ (cs : List Nat) (a : Nat), a < dgD → cs.foldl dgF a < dgD
  | [], a, h => h
  | c :: cs, a, h => by
    rw [List.foldl_cons]
    exact fold_lt cs _ (Nat.mod_lt _ (by decide))
theorem dgN_lt (cs : List Nat) : dgN cs < dgD := by
  cases cs with
  | nil => decide
  | cons c cs => exact fold_lt cs _ (Nat.mod_lt _ (by decide))
theorem dgN_raw (cs : List Nat) : rawN cs % dgD = dgN cs := by
  have h := fold_mod cs (cs.length + 1) (cs.length + 1) rfl
  rw [show (cs.foldl dgF (cs.length + 1)) % dgD = cs.foldl dgF (cs.length + 1) from Nat.mod_eq_of_lt (dgN_lt cs)] at h
  exact h.symm
/-- the place of a sign among the sixteen -/
def hxI (c : Nat) : Nat := if c ≤ 57 then c - 48 else c - 87
def hxs : List Nat := [48, 49, 50, 51, 52, 53, 54, 55, 56, 57, 97, 98, 99, 100, 101, 102]
def hxV (l : List Nat) : Nat := l.foldl (fun a c => a * 16 + hxI c) 0
def hxT (n : Nat) : List Nat := (Nat.toDigits 16 n).map Char.toNat
def hx18 (n : Nat) : List Nat := List.replicate (18 - (hxT n).length) 48 ++ hxT n
theorem hx_digit : ∀ d : Nat, d < 16 → hxI (Nat.digitChar d).toNat = d ∧ (Nat.digitChar d).toNat ∈ hxs := by decide
theorem hxT_snoc {m : Nat} (h : ¬ m < 16) : hxT m = hxT (m / 16) ++ [(Nat.digitChar (m % 16)).toNat] := by
  have hm : m % 16 < 16 := Nat.mod_lt m (by decide)
  have t : Nat.toDigits 16 (m / 16) ++ Nat.toDigits 16 (m % 16) = Nat.toDigits 16 (16 * (m / 16) + m % 16) := Nat.toDigits_append_toDigits (by decide) (by omega) hm
  rw [Nat.div_add_mod] at t
  unfold hxT
  rw [← t, List.map_append, Nat.toDigits_of_lt_base hm]
  rfl
theorem hxT_one {m : Nat} (h : m < 16) : hxT m = [(Nat.digitChar m).toNat] := by
  unfold hxT
  rw [Nat.toDigits_of_lt_base h]; rfl
theorem hxV_snoc (l : List Nat) (c : Nat) : hxV (l ++ [c]) = hxV l * 16 + hxI c := by unfold hxV; rw [List.foldl_append]; rfl
theorem hxT_val (m : Nat) : hxV (hxT m) = m := by
  induction m using Nat.strongRecOn with
  | _ m ih =>
    by_cases h : m < 16
    · rw [hxT_one h]
      have e := (hx_digit m h).1
      show 0 * 16 + hxI _ = m
      omega
    · rw [hxT_snoc h, hxV_snoc, ih (m / 16) (by omega), (hx_digit (m % 16) (Nat.mod_lt m (by decide))).1]
      omega
theorem hxT_in (m : Nat) : ∀ c ∈ hxT m, c ∈ hxs := by
  induction m using Nat.strongRecOn with
  | _ m ih =>
    by_cases h : m < 16
    · rw [hxT_one h]
      intro c hc
      rw [List.mem_singleton.mp hc]
      exact (hx_digit m h).2
    · rw [hxT_snoc h]
      intro c hc
      rcases List.mem_append.mp hc with hc | hc
      · exact ih (m / 16) (by omega) c hc
      · rw [List.mem_singleton.mp hc]
        exact (hx_digit (m % 16) (Nat.mod_lt m (by decide))).2
theorem hxT_len {n : Nat} (h : n < dgD) : (hxT n).length ≤ 18 := by
  unfold hxT
  rw [List.length_map]
  exact PySem.StrLaws.toDigits_len (by decide) (Nat.lt_trans h (by decide))
theorem hx18_len {n : Nat} (h : n < dgD) : (hx18 n).length = 18 := by
  unfold hx18
  rw [List.length_append, List.length_replicate]
  have := hxT_len h
  omega
theorem hx18_in (n : Nat) : ∀ c ∈ hx18 n, c ∈ hxs := by
  intro c hc
  rcases List.mem_append.mp hc with hc | hc
  · rw [List.eq_of_mem_replicate hc]; decide
  · exact hxT_in n c hc
theorem hxV_rep : ∀ (k : Nat) (l : List Nat), (List.replicate k 48 ++ l).foldl (fun a c => a * 16 + hxI c) 0 = l.foldl (fun a c => a * 16 + hxI c) 0
  | 0, l => rfl
  | k + 1, l => by rw [List.replicate_succ, List.cons_append, List.foldl_cons]; exact hxV_rep k l
theorem hx18_val (n : Nat) : hxV (hx18 n) = n := by
  unfold hx18 hxV
  rw [hxV_rep]
  exact hxT_val n
theorem hx18_inj {a b : Nat} (h : hx18 a = hx18 b) : a = b := by rw [← hx18_val a, ← hx18_val b, h]
/-- the digest of a text -/
def dgs (z : Str) : Str := ⟨(hx18 (dgN z.cps.toList)).toArray⟩
theorem dgs_len (z : Str) : (dgs z).length = 18 := by
  show (hx18 _).toArray.size = 18
  rw [List.size_toArray]
  exact hx18_len (dgN_lt _)
theorem dgs_inj {x y : Str} (h : dgs x = dgs y) : dgN x.cps.toList = dgN y.cps.toList := hx18_inj (by
  have := congrArg (fun z : Str => z.cps.toList) h
  simpa [dgs] using this)
theorem zfill_hx {n : Nat} (h : n < dgD) : PySem.Txt.zfill ⟨(hxT n).toArray⟩ 18 = ⟨(hx18 n).toArray⟩ := by
  have hl := hxT_len h
  unfold PySem.Txt.zfill
  have el : (⟨(hxT n).toArray⟩ : Str).length = (hxT n).length := by show (hxT n).toArray.size = _; rw [List.size_toArray]
  rw [el]
  split
  · have e : (hxT n).length = 18 := by omega
    unfold hx18
    rw [e]; rfl
  · have ne : ∀ c ∈ hxT n, c ≠ 43 ∧ c ≠ 45 := fun c hc => by
      have := hxT_in n c hc
      simp only [hxs, List.mem_cons, List.not_mem_nil, or_false] at this
      omega
    have e1 : zfilled ⟨(hxT n).toArray⟩ ((18 : Int).toNat - (hxT n).length) = Builtin.Str.padded ⟨(hxT n).toArray⟩ ((18 : Int).toNat - (hxT n).length) 0 48 := by
      unfold zfilled
      split
      · rename_i q; rw [List.getElem?_toArray] at q; exact absurd rfl (ne _ (List.mem_of_getElem? q)).1
      · rename_i q; rw [List.getElem?_toArray] at q; exact absurd rfl (ne _ (List.mem_of_getElem? q)).2
      · rfl
    rw [e1]
    unfold Builtin.Str.padded hx18
    simp [List.toArray_replicate]
end SC

/-! z[::-1] of a text -/
namespace SC
open PySem PySem.Spec PyProof.Rows L2
def revS (z : Str) : Str := ⟨z.cps.toList.reverse.toArray⟩
def tRevS (te : TE) : TE := fun σ H Q => te σ H fun x H1 => ∃ z, x = .str z ∧ z.length ≤ sizeLine ∧ Q (.str (revS z)) H1
theorem revS_pick (z : Str) : (⟨((Builtin.Str.strSliceIndices none none (-1) z.length).filterMap (z.cps[·]?)).toArray⟩ : Str) = revS z := by
  have e : Builtin.Str.strSliceIndices none none (-1) z.length = sliceRange ((z.length : Int) - 1) (-1) (-1) := by
    unfold Builtin.Str.strSliceIndices
    simp
  unfold revS
  rw [e, PySem.W.krv_sliceRange, PySem.W.krv_range, List.filterMap_reverse]
  congr 2
  congr 1
  exact PySem.W.krv_all z.cps
theorem pe_revS {X : Cx} {e : Expr} {te : TE} {k : Nat} {p1 p2 p3 pos : Pos} (he : PE X e te) : PE X (.Subscript e (.Slice none none (some (.UnaryOp .USub (.Constant (.int 1) k p1) p2)) p3) pos) (tRevS te) := by
  refine ⟨fun pins s σ H Q I h => ?_⟩
  refine Subscript_ (thn (he.run pins s σ H _ I h) fun v s1 ⟨x, H1, I1, r1, q1⟩ => ?_)
  obtain ⟨z, ex, hz, q⟩ := q1
  subst ex
  obtain ⟨t, rfl⟩ := r1
  have hst : PO X (some (.UnaryOp .USub (.Constant (.int 1) k p1) p2)) (tPart (tUn (rU fun i => .int (-i)) (tC (.int 1)))) := po_some (pe_un un_neg pe_int)
  refine wpAny_Slice (thn (po_none.run pins s1 σ H1 (fun o H2 => o = none ∧ H2 = H1) I1 ⟨rfl, rfl⟩) fun vl s2 ⟨l, H2, I2, pl, el, e2⟩ => ?_)
  subst el e2
  refine thn (po_none.run pins s2 σ H2 (fun o H3 => o = none ∧ H3 = H2) I2 ⟨rfl, rfl⟩) fun vu s3 ⟨u, H3, I3, pu, eu, e3⟩ => ?_
  subst eu e3
  refine thn (hst.run pins s3 σ H3 (fun o H4 => o = some (-1) ∧ H4 = H3) I3 ⟨1, rfl, -1, rfl, rfl, rfl⟩) fun vs s4 ⟨o, H4, I4, ps, eo, e4⟩ => ?_
  subst eo e4
  have I5 : Inv X pins σ H4 { s4 with heap := s4.heap.push { cls := .type "slice", data := .fields #[vl, vu, vs] } } := I4.kept (t' := s4.toks) fun b ob q => Heap.get?_push_of_some _ q
  obtain ⟨os, hos, hcs, hds⟩ := Heap.IsSliceOf.new s4.heap vl vu vs
  obtain ⟨l1, rfl, hl1⟩ := IsPart.raw pl
  obtain ⟨u1, rfl, hu1⟩ := IsPart.raw pu
  obtain ⟨w1, rfl, hw1⟩ := IsPart.raw ps
  show wpAny (model X.prog X.w) X.A (subscriptTail e (.Slice none none (some (.UnaryOp .USub (.Constant (.int 1) k p1) p2)) p3) (.str z t) (.ref s4.heap.objs.size)) (EP X pins σ Q) X.xe { s4 with heap := s4.heap.push { cls := .type "slice", data := .fields #[partValue l1, partValue u1, partValue w1] } }
  refine tail_any (ops := [.ref s4.heap.objs.size, .str z t]) (typeIs_str _ _ _) F.slot_str_getitem.lookup ?_ (by with_unfolding_all rfl)
  refine wpAny_getItem_str_slice (l := l1) (u := u1) (st := w1) ⟨os, hos, hcs, hds⟩ (by rw [hw1]; decide) ?_
  unfold sliceMade slicePicked
  rw [hl1, hu1, hw1]
  show Made.post (Made.str ⟨((Builtin.Str.strSliceIndices none none (-1) z.length).filterMap (z.cps[·]?)).toArray⟩) (EP X pins σ Q) _
  rw [revS_pick]
  refine ⟨?_, .str _, H4, I5.tok _, ⟨_, rfl⟩, q⟩
  show (z.cps.toList.reverse.toArray).size ≤ sizeLine
  rw [List.size_toArray, List.length_reverse, Array.length_toList]
  exact hz
theorem Blt.range2 {X : Cx} {t : TA} {p pos : Pos} {e e2 : Expr} (B : Blt X.mg) {tg : Expr} (ha : PA X [e, e2] t) (hg : Gl X "range" := by rfl) (hs : starEach [e, e2] X.env = [(false, eval e X.env), (false, eval e2 X.env)] := by rfl) (hs2 : starEach [e2] X.env = [(false, eval e2 X.env)] := by rfl) :
    PI X tg (.Call (.Name "range" p) [e, e2] [] pos) (iRng2 t) := pi_range2 hg B.range ha hs hs2
theorem cut_to (z : Str) (k : Nat) : TL.tl (cutS z none (some (k : Int))) = (TL.tl z).take k := by
  show (z.cps.toList.drop (HT.sIx z.length 0 none)).take (HT.sIx z.length z.length (some (k : Int)) - HT.sIx z.length 0 none) = _
  rw [HT.sIx_nat, HT.sIx_none, List.drop_zero, Nat.sub_zero]
  have : z.cps.toList.length = z.length := Array.length_toList
  show z.cps.toList.take (min k z.length) = z.cps.toList.take k
  rw [← this, ← List.take_eq_take_min]
theorem cut_from (z : Str) (k : Nat) : TL.tl (cutS z (some (k : Int)) none) = (TL.tl z).drop k := by
  show (z.cps.toList.drop (HT.sIx z.length 0 (some (k : Int)))).take (HT.sIx z.length z.length none - HT.sIx z.length 0 (some (k : Int))) = _
  rw [HT.sIx_nat, HT.sIx_none]
  have e : z.cps.toList.length = z.length := Array.length_toList
  rw [List.take_of_length_le (by rw [List.length_drop, e]; omega)]
  show z.cps.toList.drop (min k z.length) = z.cps.toList.drop k
  by_cases h : k ≤ z.length
  · rw [Nat.min_eq_left h]
  · rw [Nat.min_eq_right (by omega), List.drop_eq_nil_of_le (by omega), List.drop_eq_nil_of_le (by omega)]
end SC

/-! all(test for mark in text), the test one that reads a captured text of the def around -/
namespace SC
open PySem PySem.Spec PyProof.Rows L2
open GxR (TabB TabG Tabbed Ready GenS keeps_tok trF trF_some all_signs inv_tab sh_eta)
/-- the element: a test of the sign c and of the text z that the def around keeps in a cell under the name y -/
def EltC (prog : Program) (w : World) (mg : Str → Option Value) (scope : Scope) (x y : Str) (elt : Expr) (pf : Str → Nat → Bool) : Prop :=
  ∀ (ce : Env) (A' : Around) (E' : Value → Shared → Prop) (c : Nat) (t : Tok) (s2 : Shared) (m2 : Str → Option Value) (z : Str) (tz : Tok) (cy : Addr), ce.scope = scope → ce.globals = mainGlobals → ce.builtins = builtinsNs → Names2 s2.heap mg →
    s2.heap.Ns ce.locals m2 → m2 x = some (.str ⟨#[c]⟩ t) → ce.cells.lookup y = some cy → s2.heap.IsCell cy (some (.str z tz)) → wpAny (model prog w) A' (eval elt ce) (fun v s3 => v = .bool (pf z c) ∧ Keeps s2 s3) E' s2
/-- the generator's scope: what can be read off it -/
structure GenS0 (scope : Scope) (x : Str) : Prop where
  kind : scope.kind = .function
  co : scope.isCoroutine = false
  cell : ∀ y ∈ scope.names, y.2 ≠ .cell
  dot : scope.names.lookup (".0" : Str) = some NameKind.local
  loc : scope.names.lookup x = some .local
theorem gs0Of {scope : Scope} {x : Str} (h : (match scope.kind with | .function => true | _ => false) && !scope.isCoroutine && (scope.names.all fun y => match y.2 with | .cell => false | _ => true) && (match scope.names.lookup (".0" : Str) with | some .local => true | _ => false) = true)
    (hx : (match scope.names.lookup x with | some .local => true | _ => false) = true) : GenS0 scope x := by
  simp only [Bool.and_eq_true, List.all_eq_true] at h
  obtain ⟨⟨⟨h1, h2⟩, h3⟩, h4⟩ := h
  refine ⟨?_, by simpa using h2, fun y hy e => ?_, ?_, ?_⟩
  · split at h1
    · assumption
    · cases h1
  · have := h3 y hy; rw [e] at this; cases this
  · split at h4
    · assumption
    · cases h4
  · split at hx
    · assumption
    · cases hx
/-- what the generator captures, the def around has -/
def freeOk (scope sc : Scope) : Bool := scope.names.all fun y => match y.2 with
  | .free => (match sc.names.lookup y.1 with | some .cell => true | some .free => true | _ => false)
  | _ => true
theorem GenS0.all {X : Cx} {scope : Scope} {x : Str} (S : GenS0 scope x) (ok : X.Ok) (h : freeOk scope X.env.scope = true) : GenS X.env scope x := by
  refine ⟨S.kind, S.co, S.cell, S.dot, S.loc, fun y hy hf => ok.has y.1 ?_⟩
  unfold freeOk at h
  rw [List.all_eq_true] at h
  have := h y hy
  rw [hf] at this
  simp only at this
  split at this
  · rename_i e; exact .inl e
  · rename_i e; exact .inr e
  · cases this
section
variable {X : Cx} {pins : List (Addr × Obj)} {σ : L2.St} {H : Hp} {s : Shared}
theorem gen_mkC {y : Str} {iy : Nat} {z : Str} {c P : Addr} {elt iter : Expr} {x : Str} {px gpos : Pos} {scope : Scope} {pf : Str → Nat → Bool} {te : TE} {k : Nat} {Q' : Value → Shared → Prop} {R : Str → Hp → Prop}
    (hr : Room k X.A) (TB : TabB X.base X.mg c P) (hcode : X.env.code = .ref c) (S : GenS X.env scope x) (hi : PE X iter te) (hel : EltC X.prog X.w X.mg scope x y elt pf)
    (hN : X.N[iy]? = some y) (hky : X.env.kindOf y = some .cell) (hcl : ∀ cs : List (Str × Addr), (cloFrom cs scope.names []).lookup y = some ((cs.lookup y).getD 0)) (hσ : σ[iy]? = some (some (.str z)))
    (hs : ∀ v, genFold iter X.env v = pure v) (I : Inv X pins σ H s) (h : te σ H fun v H1 => ∃ a : Str, v = .str a ∧ TabG H1 P ∧ R a H1)
    (hQ : ∀ a H1 g s5, R a H1 → Ready X pins σ H1 P a (pf z) g s5 → Q' (.ref g) s5) :
    wpAny (model X.prog X.w) X.A (eval (.GeneratorExp elt [⟨.Name x px, iter, [], 0⟩] scope gpos) X.env) Q' X.xe s := by
  refine wpAny_GeneratorExp_walksQ hr.hd S.co (closure_ok S.free) S.cell S.dot S.loc S.kind (by have := hr.dp; omega) ?_ hs
  refine thn (hi.run pins s σ H _ I h) fun xv t1 ⟨v, H1, J, rv, a, ev, ⟨ps, hP, htr⟩, hR⟩ => ?_
  subst ev
  obtain ⟨tk1, rfl⟩ := rv
  obtain ⟨ml, hnl, hll⟩ := J.loc
  obtain ⟨uy, ruy, lky⟩ := hll iy y (.str z) hN hσ (.inr (.inl hky))
  obtain ⟨tz, rfl⟩ := ruy
  obtain ⟨cy, hcy, hic⟩ : ∃ cy, X.env.cells.lookup y = some cy ∧ t1.heap.IsCell cy (some (.str z tz)) := by
    rcases lky with ⟨hk2, _⟩ | ⟨_, cy, h1, h2⟩
    · rw [hky] at hk2; cases hk2
    · exact ⟨cy, h1, h2⟩
  refine wpAny_pyIter_str fun o St W hst => ?_
  have hPs : t1.heap.get? P = some { cls := .none, data := .fields ps } := J.hok P _ hP
  have hPlt := Heap.lt_size hPs
  have up : ∀ b u, t1.heap.get? b = some u → (t1.heap.push o).get? b = some u := fun b u e => Heap.get?_push_of_some _ e
  have cd : PySem.W.CodeHd (t1.heap.push o) c P := TB.code.keeps fun b u e => up b u (J.bk b u e)
  have lim : (t1.heap.push o).NoLimit := J.nolimit.push o
  have hclt : cStatics < t1.heap.objs.size := let ⟨_, hn, _⟩ := J.nolimit; hn.lt
  have hsz1 : (t1.heap.push o).objs.size = t1.heap.objs.size + 1 := Heap.size_push ..
  refine ⟨lim, ?_⟩
  have go : ∀ (code : Value) (h3 : Heap) (tk : Nat) (qs : Array Value), Heap.ExtBut P (t1.heap.push o) h3 → (t1.heap.push o).objs.size ≤ h3.objs.size → h3.get? P = some { cls := .none, data := .fields qs } →
      (∃ more, qs = ps ++ more) → TriplesOk qs.toList →
      wpAny (model X.prog X.w) X.A (builtinsFor X.env.globals X.env.builtins) (fun bi s4 =>
        ∃ Ia fp wr n0 Pf St0 pz F, Value.ref t1.heap.objs.size = .ref Ia ∧ (∀ A' : Around, A'.handled = none → Walks X.prog X.w A' Ia fp wr n0 Pf St0) ∧ St0 0 s4.heap ∧ (∀ b ∈ fp, b < s4.heap.objs.size) ∧ s4.heap.NoLimit ∧ cStatics ∉ wr ∧
          (∀ href : Heap, (∀ b o, s4.heap.get? b = some o → href.get? b = some o) →
            QuietGen X.prog X.w (genEnv scope (cloFrom X.env.cells scope.names []) s4.heap.objs.size code bi X.env) x [] elt (List.range s4.heap.objs.size) wr Pf pz F href) ∧
          (∀ g h5 tk5 gs, gs.bare = true → s4.heap.objs.size < g → h5.objs.size = g + 1 → (∀ b o, s4.heap.get? b = some o → h5.get? b = some o) →
            WalksS X.prog X.w X.A.in4 g (g :: s4.heap.objs.size :: List.range s4.heap.objs.size) (s4.heap.objs.size :: wr) (GenOnlyQ s4.gens.size) (passing pz n0 0).length
              (fun j y => ∃ i, (passing pz n0 0)[j]? = some i ∧ F i y) (GenAt X.prog X.w X.A.in4 g s4.gens.size s4.heap.objs.size (List.range s4.heap.objs.size) wr pz n0 F) →
            GenAt X.prog X.w X.A.in4 g s4.gens.size s4.heap.objs.size (List.range s4.heap.objs.size) wr pz n0 F 0 { s4 with gens := s4.gens.push gs, toks := tk5, heap := h5 } →
            Q' (.ref g) { s4 with gens := s4.gens.push gs, toks := tk5, heap := h5 })) X.xe { t1 with heap := h3, toks := tk } := by
    intro code h3 tk qs hx hsz hP3 hmore htq
    obtain ⟨bm, ob, e1, e2, e3, e4, e5, e6, e7, e8⟩ := TB.bm
    have ncP : cStatics ≠ P := fun e => by
      obtain ⟨_, hns, _⟩ := J.nolimit
      obtain ⟨o', es, ep, ho, hd, _⟩ := hns
      rw [e, hPs] at ho
      cases ho; cases hd
    have nbP : (builtinsNs : Addr) ≠ P := fun e => by
      obtain ⟨mb, hns, _⟩ := J.mod.blt
      obtain ⟨o', es, ep, ho, hd, _⟩ := hns
      have ho := J.bk _ _ ho
      rw [e, hPs] at ho
      cases ho; cases hd
    have k3 : ∀ b u, b ≠ P → t1.heap.get? b = some u → h3.get? b = some u := fun b u hb e => hx b u hb (up b u e)
    refine wpAny_builtinsFor (m := X.mg) (by rw [J.ok.glob]; exact ((J.mod.glob.keeps J.bk).push o).extBut hx TB.gP) e1 e2 (k3 _ _ e4 (J.bk _ _ e5)) e6 e7 e8 ?_
    refine ⟨t1.heap.objs.size, [t1.heap.objs.size], [t1.heap.objs.size], a.cps.size, SignAt a, St, (fun _ => true), (fun i v => ∃ cc, a.cps[i]? = some cc ∧ v = .bool (pf z cc)), rfl, W, ?_, ?_, lim.extBut hx ncP, ?_, ?_, ?_⟩
    · refine (W X.A hr.hd).frame _ _ _ hst fun b hb u e => hx b u (fun z => ?_) e
      rcases List.mem_cons.mp hb with y | y
      · exact Nat.ne_of_lt hPlt (z.symm.trans y)
      · cases y
    · intro b hb
      rcases List.mem_cons.mp hb with z | z
      · rw [z]
        show t1.heap.objs.size < h3.objs.size
        omega
      · cases z
    · intro z
      rcases List.mem_cons.mp z with z | z
      · exact Nat.ne_of_lt hclt z
      · cases z
    · intro href hh
      refine ⟨fun A' E' i v s2 m2 hA hv hn hm hk => ?_, fun A' E' i v s2 m2 hA hv hp hn hm hk => ?_⟩
      · simp only [List.forIn_nil]
        exact wpAny_pure ⟨rfl, GxR.keeps_refl _⟩
      · obtain ⟨cc, u, hcc, rfl⟩ := hv
        have old : ∀ L, L ≠ P → ∀ q, X.base.get? L = some q → s2.heap.get? L = some q := fun L nL q e => by
          have e1 := J.bk _ _ e
          have l1 := Heap.lt_size e1
          have e2 := k3 L q nL e1
          refine hk L (List.mem_range.mpr (Heap.lt_size e2)) (fun z => ?_) q (hh L q e2)
          rcases List.mem_cons.mp z with z | z
          · rw [z] at l1; exact Nat.lt_irrefl _ l1
          · cases z
        have nm : Names2 s2.heap X.mg := ⟨J.mod.glob.at (old mainGlobals TB.gP), let ⟨mb, q1, q2⟩ := J.mod.blt; ⟨mb, q1.at (old builtinsNs nbP), q2⟩⟩
        have ncyP : cy ≠ P := fun e => by
          obtain ⟨oc, ho, hd⟩ := hic
          rw [e, hPs] at ho
          cases ho; cases hd
        have cy2 : s2.heap.IsCell cy (some (.str z tz)) := by
          obtain ⟨oc, ho, hd⟩ := hic
          have l1 := Heap.lt_size ho
          have e2 := k3 cy oc ncyP ho
          refine ⟨oc, hk cy (List.mem_range.mpr (Heap.lt_size e2)) (fun z => ?_) oc (hh cy oc e2), hd⟩
          rcases List.mem_cons.mp z with z | z
          · rw [z] at l1; exact Nat.lt_irrefl _ l1
          · cases z
        have hcy2 : (cloFrom X.env.cells scope.names []).lookup y = some cy := by rw [hcl, hcy]; rfl
        exact wpAny_mono (hel (genEnv scope (cloFrom X.env.cells scope.names []) h3.objs.size code builtinsNs X.env) A' E' cc u s2 m2 z tz cy rfl J.ok.glob rfl nm hn hm hcy2 cy2) (fun y s3 r => ⟨⟨cc, hcc, r.1⟩, r.2⟩) fun _ _ e => e
    · intro g h5 tk5 gs hgb hag hsz5 hk5 W5 hat
      simp only [GxR.passing_true, List.length_range] at W5
      refine hQ a H1 g _ hR ⟨_, _, _, _, _, W5.in4_1, hat, ?_, fun s' hm => ?_⟩
      · intro j y sj Qj Ej hy hQj
        obtain ⟨i, hij, cc, hcc, rfl⟩ := hy
        obtain ⟨hj, ej⟩ := List.getElem?_eq_some_iff.mp hij
        rw [List.getElem_range] at ej
        subst ej
        have e9 : a.cps.toList[j]? = some cc := by rw [Array.getElem?_toList]; exact hcc
        have hQ2 : Qj (trF (pf z) a.cps.toList j) sj := hQj
        rw [trF_some e9] at hQ2
        exact wpAny_truthy_bool hQ2
      · obtain ⟨more, em⟩ := hmore
        have nwr : ∀ b u, t1.heap.get? b = some u → b ∉ h3.objs.size :: [t1.heap.objs.size] := fun b u e hb => by
          have hl : b < t1.heap.objs.size := Heap.lt_size e
          rcases List.mem_cons.mp hb with z | z
          · rw [z] at hl
            exact absurd hl (Nat.not_lt.mpr (show t1.heap.objs.size ≤ h3.objs.size by omega))
          · rcases List.mem_cons.mp z with z | z
            · rw [z] at hl
              exact Nat.lt_irrefl _ hl
            · cases z
        have J2 := inv_tab (more := more) (h' := s'.heap) (g' := s'.gens) (d' := s'.drawn) (t' := s'.toks) J hP (fun b u hb e => hm.heap b u (nwr b u e) (hk5 b u (k3 b u hb e)))
          (by rw [← em]; exact hm.heap P _ (nwr P _ hPs) (hk5 P _ hP3)) (AllBare.movedS (J.bare.push hgb) hm)
        rw [sh_eta t1 s' hm.os] at J2
        refine ⟨upd H1 P (.tbl (ps ++ more)), ⟨⟨ps ++ more, upd_same, by rw [← em]; exact htq⟩, fun b hb => upd_ne hb⟩, J2⟩
  cases hf : codeAmong gpos ps.toList with
  | none =>
    refine wpAny_genexprCodeX hcode (cd.code (up _ _ hPs) htr) (cd.tab (up _ _ hPs)) hf fun c' h' tk hx hge hlt hco' _ htab' _ => ?_
    obtain ⟨o1, vs, f1, tf, fl, tg, inF, tx, tt, op, _, _, _, _, _, _, _, _, _, hz, _⟩ := hco'
    exact go _ h' tk _ hx (Nat.le_trans hge (Nat.le_of_lt hlt)) htab'.2 ⟨_, rfl⟩ hz
  | some cv =>
    refine wpAny_genexprCode_hit hcode (cd.code (up _ _ hPs) htr) hf ?_
    exact go cv (t1.heap.push o) t1.toks ps (Heap.ExtBut.refl _ _) (Nat.le_refl _) (up _ _ hPs) ⟨#[], by simp⟩ htr

/-- all(test for x in e), the test one of the sign and of the text at the slot iy -/
def tAllC (P : Addr) (iy : Nat) (pf : Str → Nat → Bool) (te : TE) : TE := fun σ H Q => ∃ z, σ[iy]? = some (some (.str z)) ∧ te σ H fun v H1 => ∃ a : Str, v = .str a ∧ TabG H1 P ∧ ∀ H2, Tabbed P H1 H2 → Q (.bl (a.cps.toList.all (pf z))) H2
theorem pe_allC {y : Str} {iy : Nat} {c P : Addr} {elt iter : Expr} {x : Str} {px p pos gpos : Pos} {scope : Scope} {pf : Str → Nat → Bool} {te : TE} {k : Nat}
    (hr : Room k X.A) (B : Blt X.mg) (TB : TabB X.base X.mg c P) (hcode : X.env.code = .ref c) (S : GenS0 scope x) (hfr : freeOk scope X.env.scope = true) (hi : PE X iter te) (hel : EltC X.prog X.w X.mg scope x y elt pf)
    (hN : X.N[iy]? = some y) (hky : X.env.kindOf y = some .cell) (hcl : ∀ cs : List (Str × Addr), (cloFrom cs scope.names []).lookup y = some ((cs.lookup y).getD 0))
    (hs : ∀ v, genFold iter X.env v = pure v) (hg : Gl X "all" := by rfl)
    (he : starEach [.GeneratorExp elt [⟨.Name x px, iter, [], 0⟩] scope gpos] X.env = (false, eval (.GeneratorExp elt [⟨.Name x px, iter, [], 0⟩] scope gpos) X.env) :: starEach [] X.env := by rfl) :
    PE X (.Call (.Name "all" p) [.GeneratorExp elt [⟨.Name x px, iter, [], 0⟩] scope gpos] [] pos) (tAllC P iy pf te) := by
  refine ⟨fun pins s σ H Q I h => ?_⟩
  obtain ⟨z, hσ, h⟩ := h
  refine wpAny_Call_Name_kw (ld_blt I hg B.all (show bootBuiltins "all" = some (.builtin "all") by decide +kernel) ?_)
  refine PyProof.Rows.callWith_builtin1 ?_ he (by rfl)
  rw [he]
  show wpAny _ _ (spliced ((false, eval (.GeneratorExp elt [⟨.Name x px, iter, [], 0⟩] scope gpos) X.env) :: backTo pos (starEach [] X.env))) _ _ s
  refine Calls.spliced_cons (gen_mkC (R := fun a H1 => ∀ H2, Tabbed P H1 H2 → Q (.bl (a.cps.toList.all (pf z))) H2) hr TB hcode (S.all I.ok hfr) hi hel hN hky hcl hσ hs I h fun a H1 g t5 hR hG => ?_)
  obtain ⟨fp, wr, G, F, St, W, hst, htr, hI⟩ := hG
  refine Calls.spliced_nil (call_all_walkS (W.self 0 _ _ _ hst ⟨g, fp, wr, G, _, F, St, _, rfl, W, hst, htr, fun s' hmv => ?_⟩))
  obtain ⟨H2, hT, J⟩ := hI s' hmv
  refine ⟨.bl _, H2, J, rfl, ?_⟩
  rw [all_signs a (pf z)]
  exact hR H2 hT
end

/-- mark in marks -/
theorem elt_in {prog : Program} {w : World} {mg : Str → Option Value} {scope : Scope} {x y : Str} {q1 q2 q3 : Pos}
    (hk : scope.kind = .function) (hl : scope.names.lookup x = some .local) (hy : scope.names.lookup y = some .free) (hd : (x == ("__debug__" : Str)) = false := by decide) (hd2 : (y == ("__debug__" : Str)) = false := by decide) (hcd : (y == ("__classdict__" : Str)) = false := by decide) :
    EltC prog w mg scope x y (.Compare (.Name x q1) [.In] [.Name y q2] q3) (fun z c => decide (c ∈ z.cps.toList)) := by
  intro ce A' E' c t s2 m2 z tz cy hs hg hb nm hn hm hcy hic
  refine wpAny_Compare1 ?_
  refine wpAny_Name (wpAny_loadName_local (by rw [hs]; exact hk) (show ce.scope.names.lookup x = some .local by rw [hs]; exact hl) hn hm ?_) hd
  refine wpAny_Name (wpAny_loadName_free (by rw [hs]; exact hk) (show ce.scope.names.lookup y = some .free by rw [hs]; exact hy) hcy hic ?_ hcd) hd2
  exact PyProof.Rows.in_str ⟨by rw [PySem.StrLaws.found_one z c], keeps_tok _ _⟩
end SC

/-! what a part of a pattern matches (code 42: the star), and the search that takes the first place for each piece -/
namespace SC
open PySem L2
/-- some way to begin later -/
def mtS (f : List Nat → Bool) : List Nat → Bool
  | [] => f []
  | c :: s => f (c :: s) || mtS f s
def mt : List Nat → List Nat → Bool
  | [], s => s.isEmpty
  | c :: p, s => if c = 42 then mtS (mt p) s else match s with
    | [] => false
    | d :: s' => (c == d) && mt p s'
theorem mtS_iff (f : List Nat → Bool) : ∀ s : List Nat, mtS f s = true ↔ ∃ i, i ≤ s.length ∧ f (s.drop i) = true
  | [] => ⟨fun h => ⟨0, Nat.le_refl _, h⟩, fun ⟨i, hi, h⟩ => by
    have : i = 0 := by simpa using hi
    subst this; exact h⟩
  | c :: s => by
    show (f (c :: s) || mtS f s) = true ↔ _
    rw [Bool.or_eq_true, mtS_iff f s]
    constructor
    · rintro (h | ⟨i, hi, h⟩)
      · exact ⟨0, Nat.zero_le _, h⟩
      · exact ⟨i + 1, by simpa using hi, by simpa using h⟩
    · rintro ⟨i, hi, h⟩
      cases i with
      | zero => exact .inl h
      | succ i => exact .inr ⟨i, by simpa using hi, by simpa using h⟩
/-- b is a beginning of s -/
def pfx (b s : List Nat) : Bool := s.take b.length == b
theorem pfx_iff {b s : List Nat} : pfx b s = true ↔ ∃ r, s = b ++ r := by
  unfold pfx
  rw [beq_iff_eq]
  constructor
  · intro h
    exact ⟨s.drop b.length, by rw [← h]; rw [List.length_take]; rw [show min b.length s.length = b.length by
      have := congrArg List.length h; rw [List.length_take] at this; exact this]; exact (List.take_append_drop _ _).symm⟩
  · rintro ⟨r, rfl⟩
    exact List.take_left
theorem pfx_nil (s : List Nat) : pfx [] s = true := rfl
theorem pfx_cons (c d : Nat) (b s : List Nat) : pfx (c :: b) (d :: s) = ((c == d) && pfx b s) := by
  rw [Bool.eq_iff_iff, Bool.and_eq_true, pfx_iff, pfx_iff, beq_iff_eq]
  constructor
  · rintro ⟨r, h⟩
    obtain ⟨h1, h2⟩ := List.cons.inj h
    exact ⟨h1.symm, r, h2⟩
  · rintro ⟨rfl, r, rfl⟩
    exact ⟨r, rfl⟩
theorem pfx_len {b s : List Nat} (h : pfx b s = true) : b.length ≤ s.length := by
  obtain ⟨r, rfl⟩ := pfx_iff.mp h
  rw [List.length_append]; omega
theorem mt_lit : ∀ (b p s : List Nat), 42 ∉ b → mt (b ++ p) s = (pfx b s && mt p (s.drop b.length))
  | [], p, s, _ => by rw [pfx_nil, Bool.true_and]; rfl
  | c :: b, p, s, h => by
    have hc : ¬ c = 42 := fun e => h (by rw [e]; exact List.mem_cons_self)
    have hb : 42 ∉ b := fun e => h (List.mem_cons_of_mem _ e)
    show (if c = 42 then mtS (mt (b ++ p)) s else match s with | [] => false | d :: s' => (c == d) && mt (b ++ p) s') = _
    rw [if_neg hc]
    cases s with
    | nil => rfl
    | cons d s =>
      rw [pfx_cons]
      show ((c == d) && mt (b ++ p) s) = _
      rw [mt_lit b p s hb, Bool.and_assoc]
      rfl
theorem mt_plain {l s : List Nat} (h : 42 ∉ l) : mt l s = decide (s = l) := by
  have e := mt_lit l [] s h
  rw [List.append_nil] at e
  rw [e, Bool.eq_iff_iff, Bool.and_eq_true, pfx_iff, decide_eq_true_eq]
  constructor
  · rintro ⟨⟨r, rfl⟩, h2⟩
    have h2 : ((l ++ r).drop l.length).isEmpty = true := h2
    rw [List.drop_left] at h2
    have : r = [] := by simpa using h2
    rw [this, List.append_nil]
  · rintro rfl
    refine ⟨⟨[], by simp⟩, ?_⟩
    show (s.drop s.length).isEmpty = true
    simp
theorem mt_star (p s : List Nat) : mt (42 :: p) s = true ↔ ∃ i, i ≤ s.length ∧ mt p (s.drop i) = true := by
  show (if (42 : Nat) = 42 then mtS (mt p) s else _) = true ↔ _
  rw [if_pos rfl]
  exact mtS_iff _ s
theorem mt_mono {p s : List Nat} {a b : Nat} (hab : a ≤ b) (hb : b ≤ s.length) (h : mt (42 :: p) (s.drop b) = true) : mt (42 :: p) (s.drop a) = true := by
  rw [mt_star] at h ⊢
  obtain ⟨i, hi, h⟩ := h
  rw [List.length_drop] at hi
  refine ⟨(b - a) + i, by rw [List.length_drop]; omega, ?_⟩
  rw [List.drop_drop] at h ⊢
  rw [show a + ((b - a) + i) = b + i by omega]
  exact h
/-- the first place of b -/
def fnd (b : List Nat) : List Nat → Option Nat
  | [] => if pfx b [] then some 0 else none
  | c :: t => if pfx b (c :: t) then some 0 else (fnd b t).map (· + 1)
theorem fnd_some {b : List Nat} : ∀ {t : List Nat} {i : Nat}, fnd b t = some i → i ≤ t.length ∧ pfx b (t.drop i) = true ∧ ∀ j, j < i → pfx b (t.drop j) = false
  | [], i, h => by
    unfold fnd at h
    split at h
    · rename_i q; cases h; exact ⟨Nat.le_refl _, q, fun j hj => absurd hj (Nat.not_lt_zero _)⟩
    · cases h
  | c :: t, i, h => by
    unfold fnd at h
    split at h
    · rename_i q; cases h; exact ⟨Nat.zero_le _, q, fun j hj => absurd hj (Nat.not_lt_zero _)⟩
    · rename_i q
      cases e : fnd b t with
      | none => rw [e] at h; cases h
      | some k =>
        rw [e] at h
        cases h
        obtain ⟨h1, h2, h3⟩ := fnd_some e
        refine ⟨by simpa using h1, by simpa using h2, fun j hj => ?_⟩
        cases j with
        | zero => simpa using q
        | succ j =>
          have hj : j + 1 < k + 1 := hj
          simpa using h3 j (by omega)
theorem fnd_none {b : List Nat} : ∀ {t : List Nat}, fnd b t = none → ∀ j, j ≤ t.length → pfx b (t.drop j) = false
  | [], h, j, hj => by
    unfold fnd at h
    split at h
    · cases h
    · rename_i q
      have : j = 0 := by simpa using hj
      subst this; simpa using q
  | c :: t, h, j, hj => by
    unfold fnd at h
    split at h
    · cases h
    · rename_i q
      cases e : fnd b t with
      | some k => rw [e] at h; cases h
      | none =>
        cases j with
        | zero => simpa using q
        | succ j => simpa using fnd_none e j (by simpa using hj)
theorem fnd_first {b t : List Nat} {i : Nat} (h1 : i ≤ t.length) (h2 : pfx b (t.drop i) = true) (h3 : ∀ j, j < i → pfx b (t.drop j) = false) : fnd b t = some i := by
  cases e : fnd b t with
  | none => rw [fnd_none e i h1] at h2; cases h2
  | some k =>
    obtain ⟨_, q2, q3⟩ := fnd_some e
    rcases Nat.lt_trichotomy k i with h | h | h
    · rw [h3 k h] at q2; cases q2
    · rw [h]
    · rw [q3 i h] at h2; cases h2
/-- the pieces one behind the other, each at its first place -/
def gr : List (List Nat) → List Nat → Bool
  | [], _ => true
  | b :: bs, t => match fnd b t with
    | none => false
    | some i => gr bs (t.drop (i + b.length))
/-- l is an end of s -/
def sfx (l s : List Nat) : Bool := decide (l.length ≤ s.length) && (s.drop (s.length - l.length) == l)
theorem sfx_drop {l s : List Nat} {k : Nat} (hk : k ≤ s.length) (h : k + l.length ≤ s.length) : sfx l (s.drop k) = sfx l s := by
  unfold sfx
  rw [List.length_drop, decide_eq_true (show l.length ≤ s.length - k by omega), decide_eq_true (show l.length ≤ s.length by omega), List.drop_drop]
  rw [show k + (s.length - k - l.length) = s.length - l.length by omega]
theorem sfx_short {l s : List Nat} (h : s.length < l.length) : sfx l s = false := by
  unfold sfx
  rw [decide_eq_false (by omega), Bool.false_and]
theorem pfx_take {b s : List Nat} {m j : Nat} (hm : m ≤ s.length) : pfx b ((s.take m).drop j) = (decide (b.length ≤ m - j) && pfx b (s.drop j)) := by
  rw [List.drop_take]
  by_cases h : b.length ≤ m - j
  · rw [decide_eq_true h, Bool.true_and]
    unfold pfx
    rw [List.take_take, Nat.min_eq_left h]
  · rw [decide_eq_false h, Bool.false_and]
    cases e : pfx b ((s.drop j).take (m - j)) with
    | false => rfl
    | true =>
      have := pfx_len e
      rw [List.length_take] at this
      omega
theorem aft : ∀ (bs : List (List Nat)) (l s : List Nat), (∀ b ∈ bs, 42 ∉ b) → 42 ∉ l →
    mt (42 :: TL.joinL [42] (bs ++ [l])) s = (sfx l s && gr bs (s.take (s.length - l.length)))
  | [], l, s, _, hl => by
    show mt (42 :: l) s = (sfx l s && true)
    rw [Bool.and_true, Bool.eq_iff_iff, mt_star]
    unfold sfx
    rw [Bool.and_eq_true, decide_eq_true_eq, beq_iff_eq]
    constructor
    · rintro ⟨i, hi, h⟩
      rw [mt_plain hl, decide_eq_true_eq] at h
      have e := congrArg List.length h
      rw [List.length_drop] at e
      exact ⟨by omega, by rw [show s.length - l.length = i by omega]; exact h⟩
    · rintro ⟨h1, h2⟩
      exact ⟨s.length - l.length, by omega, by rw [mt_plain hl, decide_eq_true_eq]; exact h2⟩
  | b :: bs, l, s, hb, hl => by
    have hb0 : 42 ∉ b := hb b List.mem_cons_self
    have hbs : ∀ c ∈ bs, 42 ∉ c := fun c hc => hb c (List.mem_cons_of_mem _ hc)
    have ej : TL.joinL [42] ((b :: bs) ++ [l]) = b ++ (42 :: TL.joinL [42] (bs ++ [l])) := by
      cases bs with
      | nil => rfl
      | cons c r => rfl
    rw [ej]
    have ih := fun s => aft bs l s hbs hl
    have lhs : mt (42 :: (b ++ (42 :: TL.joinL [42] (bs ++ [l])))) s = true ↔ ∃ i, i ≤ s.length ∧ pfx b (s.drop i) = true ∧ mt (42 :: TL.joinL [42] (bs ++ [l])) (s.drop (i + b.length)) = true := by
      rw [mt_star]
      constructor
      · rintro ⟨i, hi, h⟩
        rw [mt_lit _ _ _ hb0, Bool.and_eq_true, List.drop_drop] at h
        exact ⟨i, hi, h.1, h.2⟩
      · rintro ⟨i, hi, h1, h2⟩
        refine ⟨i, hi, ?_⟩
        rw [mt_lit _ _ _ hb0, Bool.and_eq_true, List.drop_drop]
        exact ⟨h1, h2⟩
    rw [Bool.eq_iff_iff, lhs]
    cases e : fnd b s with
    | none =>
      have hn := fnd_none e
      refine ⟨fun ⟨i, hi, h1, _⟩ => (by rw [hn i hi] at h1; cases h1), fun h => ?_⟩
      rw [Bool.and_eq_true] at h
      have hg : (match fnd b (s.take (s.length - l.length)) with | none => false | some i => gr bs ((s.take (s.length - l.length)).drop (i + b.length))) = true := h.2
      cases e2 : fnd b (s.take (s.length - l.length)) with
      | none => rw [e2] at hg; cases hg
      | some i =>
        obtain ⟨q1, q2, _⟩ := fnd_some e2
        rw [pfx_take (by omega), Bool.and_eq_true] at q2
        rw [List.length_take] at q1
        rw [hn i (by omega)] at q2
        cases q2.2
    | some i0 =>
      obtain ⟨p1, p2, p3⟩ := fnd_some e
      have pl := pfx_len p2
      rw [List.length_drop] at pl
      have lhs2 : (∃ i, i ≤ s.length ∧ pfx b (s.drop i) = true ∧ mt (42 :: TL.joinL [42] (bs ++ [l])) (s.drop (i + b.length)) = true) ↔ mt (42 :: TL.joinL [42] (bs ++ [l])) (s.drop (i0 + b.length)) = true := by
        refine ⟨fun ⟨i, hi, h1, h2⟩ => ?_, fun h => ⟨i0, p1, p2, h⟩⟩
        have hle : i0 ≤ i := by
          rcases Nat.lt_or_ge i i0 with h | h
          · rw [p3 i h] at h1; cases h1
          · exact h
        have q := pfx_len h1
        rw [List.length_drop] at q
        exact mt_mono (by omega) (by omega) h2
      rw [lhs2, ih]
      by_cases hfit : i0 + b.length + l.length ≤ s.length
      · rw [sfx_drop (by omega) (by omega)]
        have e2 : fnd b (s.take (s.length - l.length)) = some i0 := by
          refine fnd_first (by rw [List.length_take]; omega) ?_ fun j hj => ?_
          · rw [pfx_take (by omega), decide_eq_true (by omega), Bool.true_and]; exact p2
          · rw [pfx_take (by omega), p3 j hj, Bool.and_false]
        show _ ↔ (sfx l s && (match fnd b (s.take (s.length - l.length)) with | none => false | some i => gr bs ((s.take (s.length - l.length)).drop (i + b.length)))) = true
        rw [e2]
        show _ ↔ (sfx l s && gr bs ((s.take (s.length - l.length)).drop (i0 + b.length))) = true
        rw [List.drop_take, List.length_drop, show s.length - (i0 + b.length) - l.length = s.length - l.length - (i0 + b.length) by omega]
      · rw [sfx_short (by rw [List.length_drop]; omega), Bool.false_and]
        refine ⟨fun h => (by cases h), fun h => ?_⟩
        rw [Bool.and_eq_true] at h
        have hg : (match fnd b (s.take (s.length - l.length)) with | none => false | some i => gr bs ((s.take (s.length - l.length)).drop (i + b.length))) = true := h.2
        cases e2 : fnd b (s.take (s.length - l.length)) with
        | none => rw [e2] at hg; cases hg
        | some i =>
          obtain ⟨q1, q2, _⟩ := fnd_some e2
          rw [pfx_take (by omega), Bool.and_eq_true, decide_eq_true_eq] at q2
          rw [List.length_take] at q1
          have hle : i0 ≤ i := by
            rcases Nat.lt_or_ge i i0 with h | h
            · rw [p3 i h] at q2; cases q2.2
            · exact h
          have hs : l.length ≤ s.length := by
            have := h.1
            unfold sfx at this
            rw [Bool.and_eq_true, decide_eq_true_eq] at this
            exact this.1
          omega
/-- the whole: a first piece, pieces between, a last one -/
theorem mt_parts {f l s : List Nat} {bs : List (List Nat)} (hf : 42 ∉ f) (hb : ∀ b ∈ bs, 42 ∉ b) (hl : 42 ∉ l) :
    mt (TL.joinL [42] (f :: (bs ++ [l]))) s = (decide (f.length + l.length ≤ s.length) && pfx f s && sfx l s && gr bs ((s.drop f.length).take (s.length - l.length - f.length))) := by
  have ej : TL.joinL [42] (f :: (bs ++ [l])) = f ++ (42 :: TL.joinL [42] (bs ++ [l])) := by
    cases bs with
    | nil => rfl
    | cons c r => rfl
  rw [ej, mt_lit _ _ _ hf, aft bs l _ hb hl]
  by_cases h : f.length + l.length ≤ s.length
  · rw [decide_eq_true h, Bool.true_and, sfx_drop (by omega) (by omega), List.length_drop, show s.length - f.length - l.length = s.length - l.length - f.length by omega, Bool.and_assoc]
  · rw [decide_eq_false h, Bool.false_and, Bool.false_and, Bool.false_and]
    cases e : pfx f s with
    | false => rfl
    | true =>
      have := pfx_len e
      rw [sfx_short (by rw [List.length_drop]; omega), Bool.false_and, Bool.and_false]
end SC

/-! the texts' own search, cut and ends, said over lists of codes; a, *b, c = a list -/
namespace SC
open PySem L2 PySem.StrLaws
theorem at_pfx (x y : Str) (i : Nat) : At x y x.length i ↔ (i ≤ x.length ∧ pfx (TL.tl y) ((TL.tl x).drop i) = true) := by
  have hx : x.length = (TL.tl x).length := TL.len_tl x
  have hy : y.length = (TL.tl y).length := TL.len_tl y
  unfold At
  rw [subAt_eq]
  show _ ∧ (((TL.tl x).drop i).take y.length == TL.tl y) = true ↔ _
  unfold pfx
  rw [hy]
  constructor
  · rintro ⟨h1, h2⟩
    exact ⟨by omega, h2⟩
  · rintro ⟨h1, h2⟩
    have e := congrArg List.length (beq_iff_eq.mp h2)
    rw [List.length_take, List.length_drop] at e
    exact ⟨by omega, h2⟩
theorem find_fnd (x y : Str) : Txt.find x y = match fnd (TL.tl y) (TL.tl x) with | some i => ((i : Nat) : Int) | none => -1 := by
  have hx : x.length = (TL.tl x).length := TL.len_tl x
  unfold Txt.find
  rcases occ_head x y 1 (Nat.le_refl _) with ⟨h, hn⟩ | ⟨i, r, h, ha, hn⟩
  · rw [h]
    have e : fnd (TL.tl y) (TL.tl x) = none := by
      cases e : fnd (TL.tl y) (TL.tl x) with
      | none => rfl
      | some k =>
        obtain ⟨h1, h2, _⟩ := fnd_some e
        exact absurd ((at_pfx x y k).mpr ⟨by omega, h2⟩) (hn k)
    rw [e]
  · rw [h]
    obtain ⟨h1, h2⟩ := (at_pfx x y i).mp ha
    have e : fnd (TL.tl y) (TL.tl x) = some i := fnd_first (by omega) h2 fun j hj => by
      cases q : pfx (TL.tl y) ((TL.tl x).drop j) with
      | false => rfl
      | true => exact absurd ((at_pfx x y j).mpr ⟨by omega, q⟩) (hn j hj)
    rw [e]
theorem starts_pfx (x y : Str) : Txt.startswith x y = pfx (TL.tl y) (TL.tl x) := by
  have hx : x.length = (TL.tl x).length := TL.len_tl x
  have hy : y.length = (TL.tl y).length := TL.len_tl y
  unfold Txt.startswith
  rw [subAt_eq, List.drop_zero]
  show (decide (0 + y.length ≤ x.length) && ((TL.tl x).take y.length == TL.tl y)) = _
  unfold pfx
  rw [hy]
  cases q : ((TL.tl x).take (TL.tl y).length == TL.tl y) with
  | false => rw [Bool.and_false]
  | true =>
    have e := congrArg List.length (beq_iff_eq.mp q)
    rw [List.length_take] at e
    rw [decide_eq_true (by omega)]; rfl
theorem ends_sfx (x y : Str) : Txt.endswith x y = sfx (TL.tl y) (TL.tl x) := by
  have hx : x.length = (TL.tl x).length := TL.len_tl x
  have hy : y.length = (TL.tl y).length := TL.len_tl y
  unfold Txt.endswith
  rw [subAt_eq]
  show (decide (0 + y.length ≤ x.length) && (((TL.tl x).drop (x.length - y.length)).take y.length == TL.tl y)) = _
  unfold sfx
  rw [hy, hx, Nat.zero_add]
  by_cases h : (TL.tl y).length ≤ (TL.tl x).length
  · rw [List.take_of_length_le (by rw [List.length_drop]; omega)]
  · rw [decide_eq_false h, Bool.false_and, Bool.false_and]
/-- cut at one sign -/
theorem spl_one (s : Nat) : ∀ (l acc : List Nat), s ∉ acc → ∃ p ps, TL.spl [s] 0 acc l = p :: ps ∧ TL.joinL [s] (p :: ps) = acc ++ l ∧ (∀ q ∈ p :: ps, s ∉ q) ∧ ps.length = l.count s
  | [], acc, h => ⟨acc, [], TL.spl_nil _ _ _, by simp [TL.joinL], fun q hq => by rw [List.mem_singleton.mp hq]; exact h, by simp⟩
  | c :: r, acc, h => by
    by_cases hc : c = s
    · subst hc
      have hp : TL.pre [c] (c :: r) = true := by show ((c :: r).take 1 == [c]) = true; simp
      obtain ⟨p, ps, e1, e2, e3, e4⟩ := spl_one c r [] (by simp)
      refine ⟨acc, p :: ps, by rw [TL.spl_hit hp]; show acc :: TL.spl [c] 0 [] r = _; rw [e1], ?_, fun q hq => ?_, ?_⟩
      · show acc ++ ([c] ++ TL.joinL [c] (p :: ps)) = _
        rw [e2]; simp
      · rcases List.mem_cons.mp hq with rfl | hq
        · exact h
        · exact e3 q hq
      · rw [List.length_cons, e4, List.count_cons_self]
    · have hp : TL.pre [s] (c :: r) = false := by
        show ((c :: r).take 1 == [s]) = false
        rw [beq_eq_false_iff_ne]
        intro e
        have e : [c] = [s] := e
        exact hc (List.cons.inj e).1
      obtain ⟨p, ps, e1, e2, e3, e4⟩ := spl_one s r (acc ++ [c]) (fun hm => by
        rcases List.mem_append.mp hm with hm | hm
        · exact h hm
        · exact hc (List.mem_singleton.mp hm).symm)
      refine ⟨p, ps, by rw [TL.spl_miss hp]; exact e1, by rw [e2, List.append_assoc]; rfl, e3, ?_⟩
      rw [e4, List.count_cons_of_ne (fun z => hc z)]
/-- cut at the sign c: the parts, joined, are the text again; no part has the sign -/
theorem split_one (x : Str) (c : Nat) (hc : c < 256) : ∃ p ps, (Txt.split x ⟨#[c]⟩).map TL.tl = p :: ps ∧ TL.joinL [c] (p :: ps) = TL.tl x ∧ (∀ q ∈ p :: ps, c ∉ q) ∧ ps.length = (TL.tl x).count c := by
  have e := TL.split_spl x ⟨#[c]⟩ (by show [c] ≠ []; simp) (TL.kind_ok (by simp [hc]))
  obtain ⟨p, ps, e1, e2, e3, e4⟩ := spl_one c (TL.tl x) [] (by simp)
  exact ⟨p, ps, by rw [e]; exact e1, by rw [e2, List.nil_append], e3, e4⟩
section
variable {X : Cx}
/-- f, *m, l = a list of at least two -/
def gStar (K : PySem.W.Frag) (t : TGs) : TG := fun v σ H Q => ∃ (a : Addr) (f l : V) (ms : List V), v = .ref a ∧ SqL K H a (f :: (ms ++ [l])) ∧ ms.length ≤ 10000 ∧ ∀ D, H D = none → t [f, .ref D, l] σ (upd H D (.lst ms)) Q
theorem pgs_star {e : Expr} {p : Pos} {es : List Expr} {t : TG} {u : TGs} (h1 : PG X e t) (h2 : PGs X es u) : PGs X (.Starred e p :: es) (gCons t u) := by
  refine ⟨fun pins s σ H vs us Q I r h => ?_⟩
  obtain ⟨v, vr, rfl, h⟩ := h
  cases r with
  | cons r rr =>
    refine PyProof.Rows.assignInOrder_cons (thn (h1.run pins s σ H _ _ _ I r h) fun _ s1 hq => ?_)
    obtain ⟨σ1, H1, I1, q1⟩ := hq
    exact h2.run pins s1 σ1 H1 _ _ Q I1 rr q1
theorem pg_star {e1 e2 e3 : Expr} {p2 pos : Pos} {k : Nat} {t : TGs} (hc : X.calm = true) (h : PGs X [e1, .Starred e2 p2, e3] t)
    (hn : (assignEach [e1, .Starred e2 p2, e3] X.env).length = 3 := by rfl) (hst : (assignEach [e1, .Starred e2 p2, e3] X.env).findIdx? (·.1) = some 1 := by rfl) : PG X (.Tuple [e1, .Starred e2 p2, e3] k pos) (gStar X.K t) := by
  refine ⟨fun pins s σ H v u Q I r hw => ?_⟩
  obtain ⟨a, f, l, ms, rfl, hq, hms, hw⟩ := hw
  cases r
  obtain ⟨its, rv, ht, hz⟩ := I.list hq
  have hl : s.heap.IsList a its.toArray := ht.isList
  have lim : sizeLine = 16777216 := sizeLine_eq
  cases rv with
  | cons rf rest =>
  rename_i uf ur
  obtain ⟨um, ul, hur, rm, rl⟩ : ∃ (um : List Value) (ul : Value), ur = um ++ [ul] ∧ Vals ms um ∧ RelV l ul := by
    clear hq hz ht hl hw hms
    induction ms generalizing ur with
    | nil =>
      cases rest with
      | cons r1 r2 =>
        cases r2
        exact ⟨[], _, rfl, .nil, r1⟩
    | cons m ms ih =>
      cases rest with
      | cons r1 r2 =>
        obtain ⟨um, ul, rfl, h1, h2⟩ := ih r2
        exact ⟨_ :: um, ul, rfl, .cons r1 h1, h2⟩
  subst hur
  have hml : um.length = ms.length := rm.length.symm
  have hne : a ≠ s.heap.objs.size := by obtain ⟨o, ho, _⟩ := hl; exact Nat.ne_of_lt (Heap.lt_size ho)
  rw [PyProof.Rows.assign_Tuple]
  refine wpAny_bind (wpAny_standAt ?_)
  unfold unpack
  rw [hn, hst]
  refine wpAny_bind (wpAny_holding ?_)
  unfold unpackItems
  refine wpAny_bind ?_
  unfold notIterableAtAll
  refine wpAny_bind (wpAny_specialOf hl.typeIs slot_list_iter.lookup (wpAny_pure ?_))
  simp only [Bool.false_eq_true, if_false]
  refine wpAny_bind (wpAny_holding (wpAny_pyIter_list hl ?_))
  refine wpAny_bind (wpAny_holding (PySem.W.kun_draw hne 1 0 _ _ ⟨_, Heap.get?_push_size _ rfl, rfl, rfl⟩ (hl.push _) (by simp) fun g1 hit same => ?_))
  have hl1 : g1.IsList a (uf :: (um ++ [ul])).toArray := (hl.push _).extBut same.extBut hne
  obtain ⟨oi, hoi, _⟩ := id hit
  obtain ⟨ol, hol, _⟩ := id hl1
  show wpAny _ _ (if ([uf] : List Value).length < 1 then _ else _) _ _ _
  rw [if_neg (by simp)]
  refine wpAny_bind (wpAny_holding (PySem.W.kun_collect (s := { s with heap := g1 }) (T := "list_iterator") (.inr (.inr (.inl rfl))) (Walks.list (A := X.A.in1) (I.ok.hd hc) s.heap.objs.size a hne (uf :: (um ++ [ul])).toArray) (fun j u st => st.1.typeIs) (k := 1) (by simp) ⟨hit, hl1⟩ (Heap.lt_size hoi) (Heap.lt_size hol) (fun g2 tk kp => ?_) (by simp; omega)))
  show wpAny _ _ (if (um ++ [ul]).length < 3 - 1 - 1 then _ else _) _ _ _
  rw [if_neg (by simp)]
  have kept : ∀ b o, s.heap.get? b = some o → g2.get? b = some o := fun b o e => kp b o (Nat.ne_of_lt (Heap.lt_size e)) (same.extBut b o (Nat.ne_of_lt (Heap.lt_size e)) (Heap.get?_push_of_some _ e))
  show wpAny _ _ (newList ((um ++ [ul]).take ((um ++ [ul]).length - (3 - 1 - 1))) >>= fun d => pure ([uf] ++ [d] ++ (um ++ [ul]).drop ((um ++ [ul]).length - (3 - 1 - 1)))) _ _ _
  rw [show (um ++ [ul]).length - (3 - 1 - 1) = um.length by simp, List.take_left, List.drop_left]
  have I1 : Inv X pins σ H { s with heap := g2, toks := tk } := I.kept (t' := tk) kept
  refine wpAny_bind (wpAny_newList (wpAny_pure ?_) (by omega))
  have hfree : H g2.objs.size = none := I1.hok.fresh (Nat.le_refl _)
  have J : Inv X pins σ (upd H g2.objs.size (.lst ms)) { s with heap := g2.push { cls := .type "list", data := .seq um.toArray }, toks := tk } :=
    I1.laid (t' := tk) (o := .lst ms) (fun b o q => Heap.get?_push_of_some _ q) (Nat.le_refl _) ⟨by omega, um, 0, rm, Heap.get?_push_size _ rfl⟩
  exact h.run pins _ σ _ [f, .ref g2.objs.size, l] _ Q J (.cons rf (.cons rfl (.cons rl .nil))) (hw _ hfree)
end
end SC

/-! a generator expression whose element is any expression of the layer (it may call the text's defs), walked by a built-in -/
namespace SC
open PySem PySem.Spec PyProof.Rows L2 GenW
open GxR (TabB TabG Tabbed inv_tab sh_eta)

theorem over_gen {A : Around} {elt : Expr} {gs : List Comprehension} {scope : Scope} {pos : Pos} {it acc : Value} {env : Env} : A.over (.compLoop (.GeneratorExp elt gs scope pos) 0 it acc env) [] = A.deeper env := by
  obtain ⟨hd, d, fr, gd, u⟩ := A
  simp [Around.over, Around.deeper, marksOver, frameCount, unitsOf, envsOf, guardsOf, pushEnvs, pushGuards, Code.envs, Code.env?, Code.isFrame, Code.guards, Code.isGuard, Code.weight, Code.frames, Code.isCreation, Code.isCaller, Code.cUnits]
theorem over_genS {A : Around} {elt : Expr} {gs : List Comprehension} {scope : Scope} {pos : Pos} {it acc : Value} {env : Env} : A.over (.compStart (.GeneratorExp elt gs scope pos) 0 it acc env) [] = A.deeper env := by
  obtain ⟨hd, d, fr, gd, u⟩ := A
  simp [Around.over, Around.deeper, marksOver, frameCount, unitsOf, envsOf, guardsOf, pushEnvs, pushGuards, Code.envs, Code.env?, Code.isFrame, Code.guards, Code.isGuard, Code.weight, Code.frames, Code.isCreation, Code.isCaller, Code.cUnits]
/-- the frame of the generator, run from a built-in that X's body calls -/
def gxC (X : Cx) (N : List Str) (scope : Scope) (C : Addr) (code : Value) (fp : List Addr) (s4 : Shared) (H4 : Hp) : Cx where
  prog := X.prog
  w := X.w
  K := X.K
  mg := X.mg
  base := X.base
  A := X.A.in1.in1.deeper (genEnv scope (cloFrom X.env.cells scope.names []) C code builtinsNs X.env)
  N := N
  s_0 := s4
  H_0 := H4
  env := genEnv scope (cloFrom X.env.cells scope.names []) C code builtinsNs X.env
  outer := X.stack
  stack := genEnv scope (cloFrom X.env.cells scope.names []) C code builtinsNs X.env :: X.stack
  ex := fp
  fn := fun _ => false
  calm := true
  pn := []
  xe := fun _ _ => False
/-- what can be read off the scope -/
structure GnS (scope : Scope) : Prop where
  kind : scope.kind = .function
  co : scope.isCoroutine = false
  cell : ∀ y ∈ scope.names, y.2 ≠ .cell
  dot : scope.names.lookup (".0" : Str) = some NameKind.local
theorem gnOf {scope : Scope} (h : (match scope.kind with | .function => true | _ => false) && !scope.isCoroutine && (scope.names.all fun y => match y.2 with | .cell => false | _ => true) && (match scope.names.lookup (".0" : Str) with | some .local => true | _ => false) = true) : GnS scope := by
  simp only [Bool.and_eq_true, List.all_eq_true] at h
  obtain ⟨⟨⟨h1, h2⟩, h3⟩, h4⟩ := h
  refine ⟨?_, by simpa using h2, fun y hy e => ?_, ?_⟩
  · split at h1
    · assumption
    · cases h1
  · have := h3 y hy; rw [e] at this; cases this
  · split at h4
    · assumption
    · cases h4
/-- the slots behind the target's nt: captured names, with the slots of X that they have -/
def capOk (N : List Str) (nt : Nat) (fr : List Nat) (XN : List Str) (scope sc : Scope) : Bool :=
  decide (N.length = nt + fr.length) && (List.range fr.length).all fun j => match N[nt + j]?, fr[j]? with
    | some y, some i => XN[i]? == some y && (match scope.names.lookup y with | some .free => true | _ => false) && (match sc.names.lookup y with | some .cell => true | some .free => true | _ => false)
    | _, _ => false
def capSt (nt : Nat) (fr : List Nat) (σ : L2.St) : L2.St := List.replicate nt none ++ fr.map fun i => (σ[i]?).getD none
theorem clo_look {cells : List (Str × Addr)} {names : List (Str × NameKind)} {y : Str} (h : (y, NameKind.free) ∈ names) : (cloFrom cells names []).lookup y = some ((cells.lookup y).getD 0) := by
  obtain ⟨c, hc⟩ := mem_lookup (cloFrom_has (cells := cells) (acc := []) h)
  rcases cloFrom_mem (PySem.mem_of_lookup hc) with z | ⟨_, z⟩
  · cases z
  · rw [hc, z]
theorem clo_from {cells : List (Str × Addr)} {names : List (Str × NameKind)} {y : Str} {c : Addr} (h : (cloFrom cells names []).lookup y = some c) : (y, NameKind.free) ∈ names ∧ c = (cells.lookup y).getD 0 := by
  rcases cloFrom_mem (PySem.mem_of_lookup h) with z | z
  · cases z
  · exact z
section
variable {X : Cx} {pins : List (Addr × Obj)} {σ : L2.St} {H : Hp} {s : Shared}
/-- the generator's frame has been laid behind the state s4 -/
theorem gen_start {N : List Str} {nt : Nat} {fr : List Nat} {scope : Scope} {code it : Value} {fp : List Addr} {a : Addr} {go : Obj} {h' : Heap} {s5 : Shared} (hcalm : X.calm = true) (S : GnS scope) (hfr : freeOk scope X.env.scope = true) (hcap : capOk N nt fr X.N scope X.env.scope = true)
    (I : Inv X pins σ H s) (hf : ∀ b ∈ fp, FpOk X pins H b) (hlt : ∀ b ∈ fp, b < s.heap.objs.size) (hn : h'.Ns s.heap.objs.size (fun y => if y = ".0" then some it else none)) (hk : ∀ b o, s.heap.get? b = some o → s5.heap.get? b = some o)
    (hC : ∀ o, h'.get? s.heap.objs.size = some o → s5.heap.get? s.heap.objs.size = some o) (ho : s5.os = s.os) (hg : AllBare s5.gens) (hpa : s5.heap.get? a = some go) (ha : s.heap.objs.size < a) (hgo : ∀ v, go.data ≠ .cell v) :
    Inv (gxC X N scope s.heap.objs.size code fp s H) [(a, go)] (capSt nt fr σ) H s5 := by
  have ok := I.ok
  unfold capOk at hcap
  rw [Bool.and_eq_true, decide_eq_true_eq, List.all_eq_true] at hcap
  obtain ⟨hNl, hcap⟩ := hcap
  have cel : ∀ x c, (cloFrom X.env.cells scope.names []).lookup x = some c → X.env.cells.lookup x = some c := fun x c h => by
    obtain ⟨h1, h2⟩ := clo_from h
    unfold freeOk at hfr
    rw [List.all_eq_true] at hfr
    have q := hfr _ h1
    simp only at q
    have : X.env.kindOf x = some .cell ∨ X.env.kindOf x = some .free := by
      split at q
      · rename_i e; exact .inl e
      · rename_i e; exact .inr e
      · cases q
    obtain ⟨c0, h0⟩ := ok.has x this
    rw [h2, h0]; rfl
  have young : ∀ b o, X.base.get? b = some o → b ∉ fp := fun b o e hb => by
    rcases (hf b hb).2.2.2.1 with z | z
    · exact ok.noex b o e z
    · have := Heap.lt_size (ok.bs b o e).1
      exact absurd (Nat.lt_of_lt_of_le this z) (Nat.lt_irrefl _)
  have lt0 : ∀ b o, s.heap.get? b = some o → b < s.heap.objs.size := fun b o e => Heap.lt_size e
  refine ⟨⟨ok.mod, S.kind, ok.glob, rfl, Nat.le_refl _, fun x y c h1 h2 => ok.inj x y c (cel x c h1) (cel y c h2), fun x hx => ?_, fun x c h => (nomatch h), fun _ => ok.hd hcalm, Around.frames_deeper ok.frames, .inr ⟨rfl, rfl⟩, fun b hb => ?_, fun b o e => I.bs b o e, Nat.le_trans ok.bsz I.sz, young, fun b hb z => ?_, I.stack, I.stkFree⟩,
    ho, hg, Un.kept hk, ⟨_, hn.at' hC, fun i y v e1 e2 e3 => ?_⟩, fun x c h => ?_, I.hok.fresh (Nat.le_refl _), fun x c h => I.freeC x c (cel x c h), fun p hp => ?_, I.hok.kept hk, ?_⟩
  · have hx : scope.names.lookup x = some .cell ∨ scope.names.lookup x = some .free := hx
    rcases hx with hx | hx
    · exact absurd rfl (S.cell _ (PySem.mem_of_lookup hx))
    · exact ⟨_, clo_look (PySem.mem_of_lookup hx)⟩
  · refine ⟨Nat.ne_of_lt (hlt b hb), fun x c h => (hf b hb).2.2.2.2.1 x c (cel x c h)⟩
  · rcases List.mem_cons.mp (I.stkSub b z) with y | y
    · exact (hf b hb).2.1 y
    · exact (hf b hb).2.2.1 y
  · have hi : i < N.length := (List.getElem?_eq_some_iff.mp e1).1
    unfold capSt at e2
    by_cases hi2 : i < nt
    · rw [List.getElem?_append_left (by simpa using hi2), List.getElem?_replicate] at e2
      split at e2 <;> cases e2
    · obtain ⟨j, rfl⟩ : ∃ j, i = nt + j := ⟨i - nt, by omega⟩
      have hj : j < fr.length := by omega
      rw [List.getElem?_append_right (by simp), List.length_replicate, show nt + j - nt = j by omega, List.getElem?_map] at e2
      have q := hcap j (List.mem_range.mpr hj)
      rw [show N[nt + j]? = some y from e1, List.getElem?_eq_getElem hj] at q
      rw [List.getElem?_eq_getElem hj] at e2
      simp only [Bool.and_eq_true, beq_iff_eq] at q
      obtain ⟨⟨q1, q2⟩, q3⟩ := q
      have e2 : (σ[fr[j]]?).getD none = some v := Option.some.inj e2
      have e4 : σ[fr[j]]? = some (some v) := by
        cases z : σ[fr[j]]? with
        | none => rw [z] at e2; cases e2
        | some w => rw [z] at e2; exact congrArg some e2
      obtain ⟨m, _, hl⟩ := I.loc
      have kd : X.env.kindOf y = some .cell ∨ X.env.kindOf y = some .free := by
        split at q3
        · rename_i z; exact .inl z
        · rename_i z; exact .inr z
        · cases q3
      have kf : scope.names.lookup y = some .free := by
        split at q2
        · assumption
        · cases q2
      obtain ⟨u, ru, lk⟩ := hl _ y v q1 e4 (by rcases kd with z | z; exact .inr (.inl z); exact .inr (.inr z))
      refine ⟨u, ru, .inr ⟨.inr kf, ?_⟩⟩
      obtain ⟨c, hc, hcc⟩ : ∃ c, X.env.cells.lookup y = some c ∧ s.heap.IsCell c (some u) := by
        rcases lk with ⟨z, _⟩ | ⟨_, c, h1, h2⟩
        · rcases kd with w | w <;> rw [z] at w <;> cases w
        · exact ⟨c, h1, h2⟩
      refine ⟨c, ?_, ?_⟩
      · show (cloFrom X.env.cells scope.names []).lookup y = some c
        rw [clo_look (PySem.mem_of_lookup kf), hc]; rfl
      · obtain ⟨oc, hoc, hd⟩ := hcc
        exact ⟨oc, hk _ _ hoc, hd⟩
  · obtain ⟨v, oc, hoc, hd⟩ := I.cell x c (cel x c h)
    exact ⟨v, oc, hk _ _ hoc, hd⟩
  · have e : p = (a, go) := List.mem_singleton.mp hp
    subst e
    refine ⟨hpa, I.hok.fresh (Nat.le_of_lt ha), Nat.ne_of_gt ha, fun z => ?_, hgo⟩
    rcases List.mem_cons.mp (I.stkSub a z) with y | y
    · have := I.lt
      rw [← y] at this
      exact absurd (Nat.lt_trans this ha) (Nat.lt_irrefl _)
    · exact I.nofs (Nat.le_of_lt ha) y
  · unfold capSt
    rw [List.length_append, List.length_replicate, List.length_map]
    exact hNl.symm
end
/-- between two turns: what the consumer keeps for itself at the addresses of Sx may have turned, all else stands -/
structure Sl (Sx : List Addr) (s s' : Shared) : Prop where
  os : s'.os = s.os
  bare : AllBare s'.gens
  keep : ∀ b o, b ∉ Sx → s.heap.get? b = some o → s'.heap.get? b = some o
/-- the consumer's own objects, as they stand -/
def Cp (Sx : List Addr) (cp : List (Addr × Obj)) : Prop := cp.map (·.1) = Sx
theorem Inv.slept {X : Cx} {p0 cp cp' : List (Addr × Obj)} {σ : L2.St} {H : Hp} {s s' : Shared} {Sx : List Addr} (I : Inv X (p0 ++ cp) σ H s) (hc : Cp Sx cp) (hy : ∀ b ∈ Sx, X.s_0.heap.objs.size ≤ b ∧ (∀ x c, X.env.cells.lookup x = some c → c ≠ b)) (h0 : ∀ p ∈ X.pn ++ p0, p.1 ∉ Sx) (z : Sl Sx s s')
    (hc' : Cp Sx cp') (hv : ∀ p ∈ cp', s'.heap.get? p.1 = some p.2 ∧ ∀ v, p.2.data ≠ .cell v) : Inv X (p0 ++ cp') σ H s' := by
  have at_ : ∀ b ∈ Sx, ∃ p ∈ cp, p.1 = b := fun b hb => by
    rw [← hc] at hb
    obtain ⟨p, hp, e⟩ := List.mem_map.mp hb
    exact ⟨p, hp, e⟩
  have pf : ∀ b ∈ Sx, s.heap.get? b ≠ none ∧ H b = none ∧ b ≠ X.env.locals ∧ b ∉ X.fs := fun b hb => by
    obtain ⟨p, hp, rfl⟩ := at_ b hb
    obtain ⟨q1, q2, q3, q4, _⟩ := I.pin p (List.mem_append_right _ (List.mem_append_right _ hp))
    exact ⟨by rw [q1]; simp, q2, q3, q4⟩
  have I0 : Inv X p0 σ H s := I.pins_of fun p hp => I.pin p (List.mem_append_right _ (List.mem_append_left _ hp))
  obtain ⟨h', g', d', t', o'⟩ := s'
  obtain ⟨z1, z2, z3⟩ := z
  have z1 : o' = s.os := z1
  subst z1
  have nt : ∀ b u, H b = some u → b ∉ Sx := fun b u e hb => by rw [(pf b hb).2.1] at e; cases e
  have ex : ∀ b ∈ Sx, ∃ o, h'.get? b = some o := fun b hb => by
    rw [← hc'] at hb
    obtain ⟨p, hp, e⟩ := List.mem_map.mp hb
    exact ⟨p.2, by rw [← e]; exact (hv p hp).1⟩
  have J : Inv X p0 σ H { s with heap := h', gens := g', drawn := d', toks := t' } := by
    refine I0.step (g' := g') (t' := t') (d' := d') (ch := Sx) (fun b hb => ⟨.inr (hy b hb).1, (pf b hb).2.2.1, (hy b hb).2, fun p hp e => h0 p hp (by rw [e]; exact hb)⟩)
      (fun b ob _ _ hc q _ => z3 b ob hc q) (fun b ob _ _ hc q _ => ⟨ob.slots, z3 b ob hc q⟩) (fun _ _ _ _ n => n) (fun b ob hc q => ⟨ob, z3 b ob hc q⟩)
      (fun _ _ q => q) (fun _ _ _ q => q) (fun b ps q => ⟨#[], by rw [q]; simp⟩) (fun m hm => ?_) (fun b u q => ?_) z2
    · obtain ⟨ob, es, ep, ho, r⟩ := hm
      exact ⟨ob, es, ep, z3 _ ob (fun hb => (pf _ hb).2.2.1 rfl) ho, r⟩
    · refine (I0.hok b u q).stay (fun c v hc y => z3 c v ?_ y) (fun _ y => y) fun _ _ y => y
      rcases hc with y | y
      · rw [y]; exact nt b u q
      · exact nt c _ y
  refine J.pins_of fun p hp => ?_
  rcases List.mem_append.mp hp with hp | hp
  · exact J.pin p (List.mem_append_right _ hp)
  · have hb : p.1 ∈ Sx := by rw [← hc']; exact List.mem_map.mpr ⟨p, hp, rfl⟩
    obtain ⟨_, q2, q3, q4⟩ := pf _ hb
    exact ⟨(hv p hp).1, q2, q3, q4, (hv p hp).2⟩
/-- the turns: W before a turn (its number, a measure, the consumer's objects), B what the consumer gets, Dn the end -/
def GTurns (J : It) (g : TG) (tt : TT) (te : TE) (W : Nat → Nat → List (Addr × Obj) → L2.St → Hp → Prop) (B : Nat → Nat → List (Addr × Obj) → V → L2.St → Hp → Prop) (Dn : List (Addr × Obj) → L2.St → Hp → Prop) : Prop :=
  ∀ i m cp σ H, W i m cp σ H → (J.stop i H ∧ Dn cp σ H) ∨ (J.go i H ∧ ∃ (Bt : V → L2.St → Hp → Prop) (Nt : L2.St → Hp → Prop), (∀ y σ' H', Bt y σ' H' → B i m cp y σ' H') ∧ (∀ σ' H', Nt σ' H' → ∃ m', m' < m ∧ W (i + 1) m' cp σ' H') ∧
    ∀ x H', J.yld i H x H' → g x σ H' fun σ2 H2 => tt σ2 H2 fun b H3 => if b = true then te σ2 H3 (fun y H4 => Bt y σ2 H4) else Nt σ2 H3)
/-- an item is handed out -/
def YG (X : Cx) (go : Addr × Obj) (Sx : List Addr) (W : Nat → Nat → List (Addr × Obj) → L2.St → Hp → Prop) (B : Nat → Nat → List (Addr × Obj) → V → L2.St → Hp → Prop) : Protocol := fun n s₀ v s kap =>
  ∃ i m cp y σ H, Cp Sx cp ∧ (∀ p ∈ cp, s₀.heap.get? p.1 = some p.2) ∧ RelV y v ∧ Inv X (go :: cp) σ H s ∧ B i m cp y σ H ∧ m ≤ n ∧ ∀ s' m' cp', Sl Sx s s' → Cp Sx cp' → (∀ p ∈ cp', s'.heap.get? p.1 = some p.2 ∧ ∀ v, p.2.data ≠ .cell v) → m' < m → W (i + 1) m' cp' σ H → kap (.send .none) s'
def RG (X : Cx) (go : Addr × Obj) (Sx : List Addr) (Dn : List (Addr × Obj) → L2.St → Hp → Prop) : Nat → Shared → Shared → Prop := fun _ s₀ s => ∃ cp σ H, Cp Sx cp ∧ (∀ p ∈ cp, s₀.heap.get? p.1 = some p.2) ∧ Inv X (go :: cp) σ H s ∧ Dn cp σ H
section
variable {Y : Cx} {A : Around} {go : Addr × Obj} {Sx fp : List Addr} {it : Addr} {tn : Nat → Heap → Prop} {J : It} {tg elt iter : Expr} {ifs : List Expr} {scope : Scope} {gpos : Pos} {g : TG} {tt : TT} {te : TE} {W : Nat → Nat → List (Addr × Obj) → L2.St → Hp → Prop} {B : Nat → Nat → List (Addr × Obj) → V → L2.St → Hp → Prop} {Dn : List (Addr × Obj) → L2.St → Hp → Prop}
theorem seg_turns (hA : Y.A = A.deeper Y.env) (hxe : ∀ e s, Y.xe e s → False) (hcalm : Y.calm = true) (T : Turn Y.prog Y.w Y.K tg J fp it tn) (hg : PG Y tg g) (ht : PTs Y ifs tt) (he : PE Y elt te) (hco : Y.env.scope.isCoroutine = false) (turn : GTurns J g tt te W B Dn)
    (stat : ∀ (cp : List (Addr × Obj)) (H : Hp), Cp Sx cp → (∀ b ∈ fp, H b = none) → ∀ b ∈ fp, FpOk Y (go :: cp) H b) (hy : ∀ b ∈ Sx, Y.s_0.heap.objs.size ≤ b ∧ (∀ x c, Y.env.cells.lookup x = some c → c ≠ b)) (h0 : ∀ p ∈ Y.pn ++ [go], p.1 ∉ Sx) (hfs : ∀ b ∈ fp, b ∉ Sx) :
    ∀ (m n i : Nat) (s₀ s : Shared) (σ : L2.St) (H : Hp) (cp : List (Addr × Obj)), m < n → Cp Sx cp → (∀ p ∈ cp, s₀.heap.get? p.1 = some p.2) → Inv Y (go :: cp) σ H s → tn i s.heap → (∀ b ∈ fp, H b = none) → W i m cp σ H →
      Seg (model Y.prog Y.w) A (fun n s₀ r s₁ => r = .ok .next ∧ RG Y go Sx Dn n s₀ s₁) (YG Y go Sx W B) n s₀
        (.compLoop (.GeneratorExp elt [⟨tg, iter, ifs, 0⟩] scope gpos) 0 (.ref it) .none Y.env) ((model Y.prog Y.w).den (.compLoop (.GeneratorExp elt [⟨tg, iter, ifs, 0⟩] scope gpos) 0 (.ref it) .none Y.env)) [] s := by
  intro m
  induction m using Nat.strongRecOn with
  | ind m ih =>
    intro n i s₀ s σ H cp hmn hcp hs0 I st fr w
    show Seg _ A _ _ n s₀ _ ((compTurn (.GeneratorExp elt [⟨tg, iter, ifs, 0⟩] scope gpos) 0 (.ref it) .none Y.env).onRaise _) [] s
    rw [compTurn_gen, Sem.onRaise_eq_wrap]
    refine seg_bind_wrap (wpAny_standAt ?_)
    rcases turn i m cp σ H w with ⟨stop, dn⟩ | ⟨goes, Bt, Nt, hBt, hNt, step⟩
    · refine seg_bind_wrap ?_
      rw [over_gen, ← hA]
      refine thn (T.done Y rfl rfl rfl hcalm i (go :: cp) s σ H _ I (stat cp H hcp fr) st stop) fun r s4 ⟨hr, I4⟩ => ?_
      subst hr
      exact seg_end (.ok .next) ⟨rfl, cp, σ, H, hcp, hs0, I4, dn⟩
    · refine seg_bind_wrap ?_
      rw [over_gen, ← hA]
      refine thn (T.item Y rfl rfl rfl hcalm i (go :: cp) s σ H _ I (stat cp H hcp fr) st goes) fun r s4 ⟨u, hr, h4⟩ => ?_
      subst hr
      refine seg_bind_wrap ?_
      rw [over_gen, ← hA]
      refine thn h4 fun _ s5 ⟨x, H5, I5, r5, y5, st5, fr5⟩ => ?_
      have I5' := I5.pinned (stat cp H5 hcp fr5) (T.obj _ _ st5)
      refine seg_bind_wrap ?_
      rw [over_gen, ← hA]
      refine wpAny_mono (hg.run _ s5 σ H5 x u _ I5' r5 (step x H5 y5)) (fun _ s6 ⟨σ6, H6, I6, q6⟩ => ?_) fun _ _ z => (hxe _ _ z).elim
      refine seg_bind_wrap ?_
      rw [over_gen, ← hA]
      refine wpAny_mono (ht.run _ s6 σ6 H6 _ I6 q6) (fun ok s7 ⟨H7, I7, q7⟩ => ?_) fun _ _ z => (hxe _ _ z).elim
      have turned : ∀ {σ8 : L2.St} {H8 : Hp} {s8 : Shared}, Inv Y ((go :: cp) ++ pinsAt fp s5.heap) σ8 H8 s8 → tn (i + 1) s8.heap ∧ (∀ b ∈ fp, H8 b = none) ∧ Inv Y (go :: cp) σ8 H8 s8 := fun {σ8 H8 s8} I8 =>
        ⟨T.keep _ _ _ st5 fun b hb o e => (I8.pin (b, o) (List.mem_append_right _ (List.mem_append_right _ (mem_pinsAt hb e)))).1, fun b hb => by
          obtain ⟨o, e, d⟩ := T.obj _ _ st5 b hb
          exact (I8.pin (b, o) (List.mem_append_right _ (List.mem_append_right _ (mem_pinsAt hb e)))).2.1, I8.unpinned⟩
      cases ok with
      | false =>
        rw [if_neg Bool.false_ne_true] at q7
        obtain ⟨m', hm', w'⟩ := hNt _ _ q7
        simp only [Bool.false_eq_true, if_false]
        obtain ⟨t1, t2, t3⟩ := turned I7
        exact seg_again rfl (ih m' hm' n (i + 1) s₀ _ _ _ cp (by omega) hcp hs0 t3 t1 t2 w')
      | true =>
        rw [if_pos rfl] at q7
        simp only [if_true]
        have hyo : ∀ v, yieldOut Y.env v = yieldValue v := fun v => by simp only [yieldOut, hco, Bool.false_eq_true, if_false]
        simp only [hyo]
        rw [Sem.bind_eq_wrap', Sem.bind_eq_wrap', Sem.wrap_wrap, Sem.wrap_wrap]
        refine seg_wrap ?_
        rw [over_gen, ← hA]
        refine wpAny_mono (he.run _ s7 σ6 H7 _ I7 q7) (fun v s8 ⟨y, H8, I8, r8, q8⟩ => ?_) fun _ _ z => (hxe _ _ z).elim
        obtain ⟨n, rfl⟩ : ∃ k, n = k + 1 := ⟨n - 1, by omega⟩
        obtain ⟨t1, t2, t3⟩ := turned I8
        refine seg_at (seg_yield rfl rfl rfl ⟨i, m, cp, y, σ6, H8, hcp, hs0, r8, t3, hBt _ _ _ q8, by omega, fun s' m' cp' z hcp' hv hm' w' => ?_⟩)
        have I9 := Inv.slept (p0 := [go]) t3 hcp hy h0 z hcp' hv
        refine seg_again rfl (ih m' hm' n (i + 1) s' s' _ _ cp' (by omega) hcp' (fun p hp => (hv p hp).1) I9 (T.keep _ _ _ t1 fun b hb o e => z.keep b o (hfs b hb) e) t2 w')
theorem seg_turns0 (hA : Y.A = A.deeper Y.env) (hxe : ∀ e s, Y.xe e s → False) (hcalm : Y.calm = true) (T : Turn Y.prog Y.w Y.K tg J fp it tn) (hg : PG Y tg g) (ht : PTs Y ifs tt) (he : PE Y elt te) (hco : Y.env.scope.isCoroutine = false) (turn : GTurns J g tt te W B Dn)
    (stat : ∀ (cp : List (Addr × Obj)) (H : Hp), Cp Sx cp → (∀ b ∈ fp, H b = none) → ∀ b ∈ fp, FpOk Y (go :: cp) H b) (hy : ∀ b ∈ Sx, Y.s_0.heap.objs.size ≤ b ∧ (∀ x c, Y.env.cells.lookup x = some c → c ≠ b)) (h0 : ∀ p ∈ Y.pn ++ [go], p.1 ∉ Sx) (hfs : ∀ b ∈ fp, b ∉ Sx)
    {m n : Nat} {s₀ s : Shared} {σ : L2.St} {H : Hp} {cp : List (Addr × Obj)} (hmn : m < n) (hcp : Cp Sx cp) (hs0 : ∀ p ∈ cp, s₀.heap.get? p.1 = some p.2) (I : Inv Y (go :: cp) σ H s) (st : tn 0 s.heap) (fr : ∀ b ∈ fp, H b = none) (w : W 0 m cp σ H) :
      Seg (model Y.prog Y.w) A (fun n s₀ r s₁ => r = .ok .next ∧ RG Y go Sx Dn n s₀ s₁) (YG Y go Sx W B) n s₀
        (.compStart (.GeneratorExp elt [⟨tg, iter, ifs, 0⟩] scope gpos) 0 (.ref it) .none Y.env) ((model Y.prog Y.w).den (.compStart (.GeneratorExp elt [⟨tg, iter, ifs, 0⟩] scope gpos) 0 (.ref it) .none Y.env)) [] s := by
  have loop := seg_turns (iter := iter) (scope := scope) (gpos := gpos) hA hxe hcalm T hg ht he hco turn stat hy h0 hfs m n 0 s₀ s σ H cp hmn hcp hs0 I st fr w
  show Seg _ A _ _ _ s₀ _ ((compStart (.GeneratorExp elt [⟨tg, iter, ifs, 0⟩] scope gpos) 0 (.ref it) .none Y.env).onRaise _) [] s
  unfold compStart
  rw [Sem.onRaise_eq_wrap]
  show Seg _ A _ _ _ s₀ _ ((ask >>= _).wrap _ _ _ _) [] s
  refine seg_bind_wrap (wpAny_askSetting ?_)
  split
  · exact seg_again rfl loop
  · first
      | exact seg_bind_wrap (wpAny_rule (seg_bind_wrap (wpAny_standAt (seg_bind_wrap (T.self _ 0 s _ _ st (seg_again rfl loop))))))
      | (refine seg_bind_wrap (wpAny_rule ?_); show Seg _ A _ _ _ s₀ _ ((standAt iter.pos >>= _).wrap _ _ _ _) [] s; exact seg_bind_wrap (wpAny_standAt (seg_bind_wrap (T.self _ 0 s _ _ st (seg_again rfl loop)))))

theorem inv_kept {X : Cx} {pins : List (Addr × Obj)} {σ : L2.St} {H : Hp} {s s' : Shared} (I : Inv X pins σ H s) (ho : s'.os = s.os) (hg : AllBare s'.gens) (k : ∀ b o, s.heap.get? b = some o → s'.heap.get? b = some o) : Inv X pins σ H s' :=
  I.call' (ch := []) ho (Un.kept k) (I.hok.kept k) hg fun b z => absurd z (by simp)
/-- the generator at go, its number gi, sleeps -/
structure Asl (Y : Cx) (A : Around) (go : Addr × Obj) (gi : Nat) (Sx : List Addr) (W : Nat → Nat → List (Addr × Obj) → L2.St → Hp → Prop) (B : Nat → Nat → List (Addr × Obj) → V → L2.St → Hp → Prop) (Dn : List (Addr × Obj) → L2.St → Hp → Prop) (n : Nat) (s : Shared) : Prop where
  gen : s.heap.IsGen go.1 gi
  nl : s.heap.NoLimit
  gs : ∃ gs, s.gens[gi]? = some gs ∧ gs.Goes (model Y.prog Y.w) A (fun n s₀ r s₁ => r = .ok .next ∧ RG Y go Sx Dn n s₀ s₁) (YG Y go Sx W B) n (.send .none) (s.setGen gi .running)
/-- one step of it -/
theorem next_gen {gi n : Nat} {C : Around} {E : Value → Shared → Prop} {Q : Option Value → Shared → Prop} {s : Shared} (hh : C.handled = none) (hroom : C.depth < recursionLimit) (hgo : ∀ h : Heap, h.get? go.1 = some go.2 → h.IsGen go.1 gi) (a : Asl Y C.in1 go gi Sx W B Dn n s)
    (hY : ∀ (i m : Nat) cp y v σ H s', Cp Sx cp → (∀ p ∈ cp, s.heap.get? p.1 = some p.2) → RelV y v → Inv Y (go :: cp) σ H s' → B i m cp y σ H → (∀ s'' cp', Sl Sx s' s'' → s''.gens = s'.gens → Cp Sx cp' → (∀ p ∈ cp', s''.heap.get? p.1 = some p.2 ∧ ∀ v, p.2.data ≠ .cell v) → s''.heap.get? go.1 = some go.2 → s''.heap.NoLimit → ∀ m', m' < m → W (i + 1) m' cp' σ H → ∃ k, k < n ∧ Asl Y C.in1 go gi Sx W B Dn k s'') → Q (some v) s')
    (hD : ∀ cp σ H s', Cp Sx cp → (∀ p ∈ cp, s.heap.get? p.1 = some p.2) → Inv Y (go :: cp) σ H s' → Dn cp σ H → Q none s') : wpAny (model Y.prog Y.w) C (pyNext (.ref go.1)) Q E s := by
  obtain ⟨ag, al, gs, hgs, hgoes⟩ := a
  have hgl : gi < s.gens.size := (Array.getElem?_eq_some_iff.mp hgs).1
  refine wpAny_gsz (n := gi + 1) hgl (wpAny_pyNext_genexpQ (P := RG Y go Sx Dn) hh al hroom ag hgs hgoes (fun v s₁ gs' hbare hv => ?_) fun s₁ hp h' hk => ?_)
  · intro hsz
    obtain ⟨i, m, cp, y, σ, H, hcp, hs0, rv, I, hB, hmn, kap⟩ := hv
    have hsz1 : gi < s₁.gens.size := by
      have q : (s₁.setGen gi gs').gens.size = s₁.gens.size := setGen_size _ _ _
      have hsz' : gi + 1 ≤ (s₁.setGen gi gs').gens.size := hsz
      omega
    have I2 : Inv Y (go :: cp) σ H (s₁.setGen gi gs') := inv_kept I rfl (allBare_setGen I.bare hbare) fun _ _ e => e
    refine hY i m cp y v σ H _ hcp hs0 rv I2 hB fun s'' cp' z hgens hcp' hv hgo' hnl m' hm' w' => ?_
    have kk := kap (s''.setGen gi .running) m' cp' ⟨z.os, allBare_setGen z.bare rfl, fun b o hb e => z.keep b o hb e⟩ hcp' hv hm' w'
    cases n with
    | zero => exact False.elim kk
    | succ n => exact ⟨n, Nat.lt_succ_self n, hgo _ hgo', hnl, gs', by rw [hgens]; exact setGen_at hsz1, kk⟩
  · intro hsz
    obtain ⟨cp, σ, H, hcp, hs0, I, dn⟩ := hp
    exact hD cp σ H _ hcp hs0 (inv_kept I rfl (allBare_setGen I.bare rfl) hk) dn
/-- all(..) walks it -/
theorem all_loop_gen {gi : Nat} {A : Around} {R : Result → Shared → Prop} {Fl : L2.St → Hp → Prop} (hh : A.handled = none) (hroom : A.depth < recursionLimit) (hgo : ∀ h : Heap, h.get? go.1 = some go.2 → h.IsGen go.1 gi)
    (hB : ∀ i m cp y σ H, B i m cp y σ H → ∃ b, y = .bl b ∧ if b = true then ∃ m', m' < m ∧ W (i + 1) m' [] σ H else Fl σ H)
    (hF : ∀ pins σ H s, Inv Y pins σ H s → Fl σ H → R (.ok (.ret (.bool false))) s) (hT : ∀ pins σ H s cp, Inv Y pins σ H s → Dn cp σ H → R (.ok (.ret (.bool true))) s) :
    ∀ (n : Nat) (s : Shared), Asl Y A.in1.in1 go gi [] W B Dn n s → codeAny (model Y.prog Y.w) A (.builtin "all.loop" ⟨[.ref go.1], []⟩) R s := by
  intro n
  induction n using Nat.strongRecOn with
  | ind n ih =>
    intro s a
    refine codeAny_builtin F.entry_all_loop ?_
    rw [Around.under_plainId F.plain_all_loop _]
    show wpAny _ A.in1 (pyNext (.ref go.1) >>= _) _ _ s
    refine wpAny_bind (next_gen (C := A.in1) hh hroom hgo a (fun i m cp y v σ H s' hcp _ rv I hb again => ?_) fun cp σ H s' hcp _ I dn => ?_)
    · obtain ⟨b, rfl, hb'⟩ := hB i m cp y σ H hb
      obtain rfl : v = .bool b := rv
      refine wpAny_bind (wpAny_holding (wpAny_truthy_bool ?_))
      refine wpAny_bind (wpAny_letGo ?_)
      cases b with
      | true =>
        rw [if_pos rfl] at hb'
        obtain ⟨m', hm', w'⟩ := hb'
        simp only [if_true]
        have e0 : cp = [] := by
          have := congrArg List.length hcp
          rw [List.length_map] at this
          exact List.eq_nil_of_length_eq_zero this
        obtain ⟨k, hk, ak⟩ := again s' [] ⟨rfl, I.bare, fun _ _ _ e => e⟩ rfl rfl (fun p hp => nomatch hp) (I.pin go (List.mem_append_right _ List.mem_cons_self)).1 I.nolimit m' hm' w'
        exact wpAny_pure ⟨plainId_quiet F.plain_all_loop _, ih k hk s' ak⟩
      | false =>
        rw [if_neg Bool.false_ne_true] at hb'
        simp only [Bool.false_eq_true, if_false]
        exact wpAny_bind (wpAny_rule (wpAny_pure (hF _ σ H s' I hb')))
    · exact wpAny_bind (wpAny_rule (wpAny_pure (hT _ σ H s' cp I dn)))
end
section
variable {X : Cx} {pins : List (Addr × Obj)} {σ : L2.St} {H : Hp} {s : Shared} {N : List Str} {nt : Nat} {fr : List Nat} {scope : Scope}
/-- a generator that has not begun: the frame's context, where it was made -/
structure Fresh (X : Cx) (pins : List (Addr × Obj)) (σ : L2.St) (N : List Str) (nt : Nat) (fr : List Nat) (scope : Scope) (tg elt iter : Expr) (ifs : List Expr) (gpos : Pos) (J : It) (H2 : Hp) (a : Addr) (s5 : Shared) : Prop where
  ex : ∃ (s4 : Shared) (code : Value) (fp : List Addr) (it : Addr) (tn : Nat → Heap → Prop) (go : Obj) (gi : Nat),
    Inv X pins σ H2 s4 ∧ (∀ b ∈ fp, FpOk X pins H2 b) ∧ (∀ b ∈ fp, b < s4.heap.objs.size) ∧ s4.heap.objs.size < a ∧ a < s5.heap.objs.size ∧ Turn X.prog X.w X.K tg J fp it tn ∧ tn 0 s5.heap ∧ (∀ h : Heap, h.get? a = some go → h.IsGen a gi) ∧ s5.heap.get? a = some go ∧
    s5.gens[gi]? = some (.fresh (.compStart (.GeneratorExp elt [⟨tg, iter, ifs, 0⟩] scope gpos) 0 (.ref it) .none (genEnv scope (cloFrom X.env.cells scope.names []) s4.heap.objs.size code builtinsNs X.env))) ∧
    Inv (gxC X N scope s4.heap.objs.size code fp s4 H2) [(a, go)] (capSt nt fr σ) H2 s5
theorem gen_mkI {c P : Addr} {elt iter tg : Expr} {ifs : List Expr} {gpos : Pos} {wi : TI} {k : Nat} {Q' : Value → Shared → Prop} {R : It → Hp → Prop} (hcalm : X.calm = true)
    (hr : Room k X.A) (TB : TabB X.base X.mg c P) (hcode : X.env.code = .ref c) (S : GnS scope) (hfr : freeOk scope X.env.scope = true) (hcap : capOk N nt fr X.N scope X.env.scope = true) (hi : PI X tg iter wi)
    (hs : ∀ v, genFold iter X.env v = pure v) (I : Inv X pins σ H s) (h : wi σ H fun J H1 => TabG H1 P ∧ ∀ H2, Tabbed P H1 H2 → R J H2)
    (hQ : ∀ J H2 a s5, R J H2 → Fresh X pins σ N nt fr scope tg elt iter ifs gpos J H2 a s5 → Q' (.ref a) s5) :
    wpAny (model X.prog X.w) X.A (eval (.GeneratorExp elt [⟨tg, iter, ifs, 0⟩] scope gpos) X.env) Q' X.xe s := by
  have hcl : closureFor scope X.env = pure (cloFrom X.env.cells scope.names []) := closure_ok fun y hy hf => by
    refine I.ok.has y.1 ?_
    unfold freeOk at hfr
    rw [List.all_eq_true] at hfr
    have := hfr _ hy
    rw [hf] at this
    simp only at this
    split at this
    · rename_i e; exact .inl e
    · rename_i e; exact .inr e
    · cases this
  refine wpAny_GeneratorExp_make S.co hcl S.cell S.dot S.kind (by have := hr.dp; omega) ?_ hs
  refine thn (hi.run pins s σ H _ I h) fun xv s1 h1 => thn h1 fun itv s2 h2 => ?_
  obtain ⟨it, fp, tn, J, H1, e, I2, T, st2, f2, ⟨ps, hP, htr⟩, hR⟩ := h2
  subst e
  have hPs : s2.heap.get? P = some { cls := .none, data := .fields ps } := I2.hok P _ hP
  have hPlt := Heap.lt_size hPs
  have cd : PySem.W.CodeHd s2.heap c P := TB.code.keeps fun b u e => I2.bk b u e
  have fpP : ∀ b ∈ fp, b ≠ P := fun b hb e => by
    have := (f2 b hb).1
    rw [e, hP] at this
    cases this
  refine ⟨I2.nolimit, ?_⟩
  have fin : ∀ (code : Value) (h3 : Heap) (tk : Nat) (qs : Array Value), Heap.ExtBut P s2.heap h3 → s2.heap.objs.size ≤ h3.objs.size → h3.get? P = some { cls := .none, data := .fields qs } → (∃ more, qs = ps ++ more) → TriplesOk qs.toList →
      wpAny (model X.prog X.w) X.A (builtinsFor X.env.globals X.env.builtins) (fun bi s₄ =>
        ∀ h', h'.Ns s₄.heap.objs.size (fun y => if y = ".0" then some (.ref it) else none) → Heap.SameBut s₄.heap.objs.size (s₄.heap.push { cls := .type "frame", data := .dict #[] }) h' →
          Q' (.ref h'.objs.size) { s₄ with
            gens := s₄.gens.push (.fresh (.compStart (.GeneratorExp elt [⟨tg, iter, ifs, 0⟩] scope gpos) 0 (.ref it) .none (genEnv scope (cloFrom X.env.cells scope.names []) s₄.heap.objs.size code bi X.env))),
            toks := s₄.toks + 1 + 1 + 1,
            heap := h'.push { cls := .type "generator", data := .fields #[.int s₄.gens.size 0, .str "<genexpr>" (s₄.toks + 1), .str (X.env.qual ++ "<genexpr>") (s₄.toks + 1 + 1)] } }) X.xe { s2 with heap := h3, toks := tk } := by
    intro code h3 tk qs hx hsz hP3 hmore htq
    obtain ⟨bm, ob, e1, e2, e3, e4, e5, e6, e7, e8⟩ := TB.bm
    have nbP : (builtinsNs : Addr) ≠ P := fun e => by
      obtain ⟨mb, hns, _⟩ := I2.mod.blt
      obtain ⟨o', es, ep, ho, hd, _⟩ := hns
      have ho := I2.bk _ _ ho
      rw [e, hPs] at ho
      cases ho; cases hd
    refine wpAny_builtinsFor (m := X.mg) (by rw [I2.ok.glob]; exact (I2.mod.glob.keeps I2.bk).extBut hx TB.gP) e1 e2 (hx _ _ e4 (I2.bk _ _ e5)) e6 e7 e8 ?_
    obtain ⟨more, em⟩ := hmore
    intro h' hn' hs'
    have I4 := inv_tab (more := more) (h' := h3) (g' := s2.gens) (d' := s2.drawn) (t' := tk) I2 hP (fun b u hb e => hx b u hb e) (by rw [← em]; exact hP3) I2.bare
    have hsz' : h'.objs.size = h3.objs.size + 1 := by rw [hs'.1, Heap.size_push]
    have keep' : ∀ b o, h3.get? b = some o → h'.get? b = some o := fun b o e => hs'.extBut b o (Nat.ne_of_lt (Heap.lt_size e)) (Heap.get?_push_of_some _ e)
    have lt2 : ∀ b ∈ fp, b < s2.heap.objs.size := fun b hb => by
      obtain ⟨o, e, _⟩ := T.obj 0 _ st2 b hb
      exact Heap.lt_size e
    have f4 : ∀ b ∈ fp, FpOk X pins (upd H1 P (.tbl (ps ++ more))) b := fun b hb => ⟨by rw [upd_ne (fpP b hb)]; exact (f2 b hb).1, (f2 b hb).2⟩
    have lt4 : ∀ b ∈ fp, b < h3.objs.size := fun b hb => Nat.lt_of_lt_of_le (lt2 b hb) hsz
    refine hQ J (upd H1 P (.tbl (ps ++ more))) _ _ (hR _ ⟨⟨ps ++ more, upd_same, by rw [← em]; exact htq⟩, fun b hb => upd_ne hb⟩) ⟨_, code, fp, it, tn, _, s2.gens.size, I4, f4, lt4, ?_, ?_, T, ?_, fun h e => ⟨_, _, _, e, rfl, rfl, rfl⟩, Heap.get?_push_size _ rfl, Array.getElem?_push_size .., gen_start hcalm S hfr hcap I4 f4 lt4 hn' (fun b o e => Heap.get?_push_of_some _ (keep' b o e)) (fun o e => Heap.get?_push_of_some _ e) rfl (I2.bare.push rfl) (Heap.get?_push_size _ rfl) ?_ ?_⟩
    · show h3.objs.size < h'.objs.size
      omega
    · show h'.objs.size < (h'.push _).objs.size
      rw [Heap.size_push]; exact Nat.lt_succ_self _
    · exact T.keep 0 _ _ st2 fun b hb o e => Heap.get?_push_of_some _ (keep' b o (hx b o (fpP b hb) e))
    · show h3.objs.size < h'.objs.size
      omega
    · intro v z; cases z
  cases hf : codeAmong gpos ps.toList with
  | none =>
    refine wpAny_genexprCodeX hcode (cd.code hPs htr) (cd.tab hPs) hf fun c' h' tk hx hge hlt hco' _ htab' _ => ?_
    obtain ⟨o1, vs, f1, tf, fl, tg, inF, tx, tt, op, _, _, _, _, _, _, _, _, _, hz, _⟩ := hco'
    exact fin _ h' tk _ hx (Nat.le_trans hge (Nat.le_of_lt hlt)) htab'.2 ⟨_, rfl⟩ hz
  | some cv =>
    refine wpAny_genexprCode_hit hcode (cd.code hPs htr) hf ?_
    exact fin cv s2.heap s2.toks ps (Heap.ExtBut.refl _ _) (Nat.le_refl _) hPs ⟨#[], by simp⟩ htr
/-- the turns of a for, as a reading -/
def tForB (J : It) (g : TG) (tb : TS) : TS := fun D σ H => ∃ W : Nat → Nat → L2.St → Hp → Prop, (∃ m, W 0 m σ H) ∧ ∀ i m σ H, W i m σ H →
  (J.stop i H ∧ D.nx σ H) ∨ (J.go i H ∧ ∃ N : L2.St → Hp → Prop, (∀ σ' H', N σ' H' → ∃ m', m' < m ∧ W (i + 1) m' σ' H') ∧ ∀ x H', J.yld i H x H' → g x σ H' fun σ2 H2 => tb { D with nx := N, ct := N, bk := D.nx } σ2 H2)
def tbAll (tt : TT) (te : TE) : TS := fun D σ H => tt σ H fun b H3 => if b = true then te σ H3 (fun y H4 => ∃ b, y = .bl b ∧ if b = true then D.nx σ H4 else D.rt (.bl false) H4) else D.nx σ H3
/-- all(elt for tg in iter if ..); st: the captured names -/
def tAllG (P : Addr) (wi : TI) (g : TG) (tt : TT) (te : TE) (st : L2.St → L2.St) : TE := fun σ H Q => wi σ H fun J H1 => TabG H1 P ∧ ∀ H2, Tabbed P H1 H2 → tForB J g (tbAll tt te) { nx := fun _ H => Q (.bl true) H, rt := Q } (st σ) H2
theorem back_to {a : Addr} {s4 s' : Shared} {code : Value} {fp : List Addr} {H2 H' : Hp} {pp : List (Addr × Obj)} {σ' : L2.St} (I4 : Inv X pins σ H2 s4) (hf : ∀ b ∈ fp, FpOk X pins H2 b) (J : Inv (gxC X N scope a code fp s4 H2) pp σ' H' s') : Inv X pins σ H' s' :=
  I4.call' (ch := fp) J.os J.base J.hok J.bare fun b hb => ⟨(hf b hb).2.2.2.1, (hf b hb).2.1, (hf b hb).2.2.2.2.1, (hf b hb).2.2.2.2.2⟩
theorem stat_of {a : Addr} {s4 : Shared} {code : Value} {fp : List Addr} {H2 : Hp} {pp : List (Addr × Obj)} (S : GnS scope) (I4 : Inv X pins σ H2 s4) (hf : ∀ b ∈ fp, FpOk X pins H2 b) (hlt : ∀ b ∈ fp, b < s4.heap.objs.size) (hfr : freeOk scope X.env.scope = true) (ha : s4.heap.objs.size ≤ a) (hpp : ∀ p ∈ pp, s4.heap.objs.size ≤ p.1) {H' : Hp} (h0 : ∀ b ∈ fp, H' b = none) :
    ∀ b ∈ fp, FpOk (gxC X N scope a code fp s4 H2) pp H' b := fun b hb => by
  have lt := hlt b hb
  refine ⟨h0 b hb, Nat.ne_of_lt (Nat.lt_of_lt_of_le lt ha), fun z => ?_, .inl hb, fun x c h => ?_, fun p hp e => ?_⟩
  · rcases List.mem_cons.mp (I4.stkSub b z) with y | y
    · exact (hf b hb).2.1 y
    · exact (hf b hb).2.2.1 y
  · obtain ⟨h1, h2⟩ := clo_from h
    unfold freeOk at hfr
    rw [List.all_eq_true] at hfr
    have q := hfr _ h1
    simp only at q
    have : X.env.kindOf x = some .cell ∨ X.env.kindOf x = some .free := by
      split at q
      · rename_i e; exact .inl e
      · rename_i e; exact .inr e
      · cases q
    obtain ⟨c0, e0⟩ := I4.ok.has x this
    rw [h2, e0]
    exact (hf b hb).2.2.2.2.1 x c0 e0
  · have hp : p ∈ pp := by simpa [gxC] using hp
    have := hpp p hp
    rw [e] at this
    exact absurd (Nat.lt_of_lt_of_le lt this) (Nat.lt_irrefl _)
theorem pe_allG {c P : Addr} {elt iter tg : Expr} {ifs : List Expr} {p pos gpos : Pos} {wi : TI} {g : TG} {tt : TT} {te : TE} {k : Nat} (hcalm : X.calm = true) (hr : Room (k + 2) X.A) (B : Blt X.mg) (TB : TabB X.base X.mg c P) (hcode : X.env.code = .ref c)
    (S : GnS scope) (hfr : freeOk scope X.env.scope = true) (hcap : capOk N nt fr X.N scope X.env.scope = true) (hi : PI X tg iter wi)
    (hg : ∀ C code fp s4 H4, Room k (gxC X N scope C code fp s4 H4).A → PG (gxC X N scope C code fp s4 H4) tg g) (ht : ∀ C code fp s4 H4, Room k (gxC X N scope C code fp s4 H4).A → PTs (gxC X N scope C code fp s4 H4) ifs tt)
    (he : ∀ C code fp s4 H4, Room k (gxC X N scope C code fp s4 H4).A → PE (gxC X N scope C code fp s4 H4) elt te)
    (hs : ∀ v, genFold iter X.env v = pure v) (hgl : Gl X "all" := by rfl)
    (hse : starEach [.GeneratorExp elt [⟨tg, iter, ifs, 0⟩] scope gpos] X.env = (false, eval (.GeneratorExp elt [⟨tg, iter, ifs, 0⟩] scope gpos) X.env) :: starEach [] X.env := by rfl) :
    PE X (.Call (.Name "all" p) [.GeneratorExp elt [⟨tg, iter, ifs, 0⟩] scope gpos] [] pos) (tAllG P wi g tt te (capSt nt fr)) := by
  refine ⟨fun pins s σ H Q I h => ?_⟩
  have hh : X.A.handled = none := I.ok.hd hcalm
  refine wpAny_Call_Name_kw (ld_blt I hgl B.all (show bootBuiltins "all" = some (.builtin "all") by decide +kernel) ?_)
  refine PyProof.Rows.callWith_builtin1 ?_ hse (by rfl)
  rw [hse]
  show wpAny _ _ (spliced ((false, eval (.GeneratorExp elt [⟨tg, iter, ifs, 0⟩] scope gpos) X.env) :: backTo pos (starEach [] X.env))) _ _ s
  refine Calls.spliced_cons (gen_mkI (N := N) (nt := nt) (fr := fr) (R := fun J H2 => tForB J g (tbAll tt te) { nx := fun _ H => Q (.bl true) H, rt := Q } (capSt nt fr σ) H2) hcalm hr TB hcode S hfr hcap hi hs I h fun J H2 a s5 hR hF => ?_)
  refine Calls.spliced_nil ?_
  obtain ⟨s4, code, fp, it, tn, go, gi, I4, hf, hlt, ha, ha2, T, st5, hgo, hga, hgs, I5⟩ := hF
  obtain ⟨W, ⟨m0, w0⟩, turn⟩ := hR
  have hrA : Room k (gxC X N scope s4.heap.objs.size code fp s4 H2).A := by
    have r1 := hr.dp
    have r2 := hr.un
    have q1 : (gxC X N scope s4.heap.objs.size code fp s4 H2).A.depth = X.A.depth + 1 := rfl
    have q2 : (gxC X N scope s4.heap.objs.size code fp s4 H2).A.units = X.A.units + 1 + 1 + 3 := rfl
    exact ⟨hh, by omega, by omega⟩
  refine call_function_tree F.kind_all F.plain_all F.entry_all (F.args_all1 _) ?_
  unfold Builtin.«all»
  refine wpAny_bind (m := oneArg "all" _) (wpAny_pure ?_)
  refine wpAny_bind (wpAny_pyIter_gen (hgo _ hga) ?_)
  refine wpAny_pure ⟨plainId_quiet F.plain_all_loop _, ?_⟩
  have depth : X.A.depth < recursionLimit := by have := hr.dp; omega
  refine all_loop_gen (Y := gxC X N scope s4.heap.objs.size code fp s4 H2) (go := (a, go)) (gi := gi) (W := fun i m cp σ H => W i m σ H) (B := fun i m cp y σ H => ∃ b, y = .bl b ∧ if b = true then ∃ m', m' < m ∧ W (i + 1) m' σ H else Q (.bl false) H) (Dn := fun _ _ H => Q (.bl true) H) (Fl := fun _ H => Q (.bl false) H)
    hh depth hgo (fun i m cp y σ H hb => hb) (fun pp σ' H' s' J' q => ⟨.bl false, H', back_to I4 hf J', rfl, q⟩) (fun pp σ' H' s' cp J' q => ⟨.bl true, H', back_to I4 hf J', rfl, q⟩) (m0 + 1) s5 ⟨hgo _ hga, I5.nolimit, _, hgs, rfl, ?_⟩
  refine seg_turns0 (Y := gxC X N scope s4.heap.objs.size code fp s4 H2) (fp := fp) (tn := tn) (J := J) (tg := tg) (g := g) (tt := tt) (te := te) rfl (fun _ _ z => z) rfl T (hg _ _ _ _ _ hrA) (ht _ _ _ _ _ hrA) (he _ _ _ _ _ hrA) S.co (fun i m cp σ H w => ?_)
    (fun cp H' hcp h0 => stat_of S I4 hf hlt hfr (Nat.le_refl _) (fun p hp => ?_) h0) (fun b hb => absurd hb List.not_mem_nil) (fun p hp hb => absurd hb List.not_mem_nil) (fun b hb hb2 => absurd hb2 List.not_mem_nil) (Nat.lt_succ_self m0) (cp := []) rfl (fun p hp => nomatch hp) (inv_kept I5 rfl (allBare_setGen I5.bare rfl) fun _ _ e => e) st5 (fun b hb => (hf b hb).1) w0
  · rcases turn i m σ H w with ⟨q1, q2⟩ | ⟨q1, Nt, hN, q2⟩
    · exact .inl ⟨q1, q2⟩
    · refine .inr ⟨q1, fun y σ' H' => ∃ b, y = .bl b ∧ if b = true then Nt σ' H' else Q (.bl false) H', Nt, fun y σ' H' ⟨b, e, z⟩ => ⟨b, e, ?_⟩, hN, q2⟩
      cases b with
      | true => rw [if_pos rfl] at z ⊢; exact hN _ _ z
      | false => rw [if_neg Bool.false_ne_true] at z ⊢; exact z
  · have e0 : cp = [] := by
      have := congrArg List.length hcp
      rw [List.length_map] at this
      exact List.eq_nil_of_length_eq_zero this
    subst e0
    rw [List.mem_singleton.mp hp]
    exact Nat.le_of_lt ha
end
end SC

/-! several tables of code at once; the state of a law that has them -/
namespace SC
open PySem L2
def Tabs (Ts : List Addr) (H : Hp) : Prop := ∀ P ∈ Ts, GxR.TabG H P
section
variable {Ts S : List Addr} {P st p : Addr} {H0 H H' : Hp} {K : PySem.W.Frag}
theorem Tabs.kp1 (h : Tabs Ts H) (k : Kp [P] H H') (g : GxR.TabG H' P) : Tabs Ts H' := fun Q m => if e : Q = P then e ▸ g else tabG_kp (h Q m) k (by simpa using e)
theorem Tabs.kp (h : Tabs Ts H) (k : Kp S H H') (n : ∀ P ∈ Ts, P ∉ S) : Tabs Ts H' := fun Q m => tabG_kp (h Q m) k (n Q m)
theorem Tabs.kp0 (h : Tabs Ts H) (k : Kp [] H H') : Tabs Ts H' := h.kp k fun _ _ => List.not_mem_nil
theorem Tabs.ne (h : Tabs Ts H) {b : Addr} {o : HO} (e : H b = some o) (no : ∀ ps, o ≠ .tbl ps := by intro ps z; cases z) : b ∉ Ts := fun m => by
  obtain ⟨ps, q, _⟩ := h b m
  rw [e] at q
  exact no ps (Option.some.inj q)
theorem Tabs.ne0 (h : Tabs Ts H) {b : Addr} (e : H b = none) : b ∉ Ts := fun m => by
  obtain ⟨ps, q, _⟩ := h b m
  rw [e] at q
  cases q
theorem Tabs.new (h : Tabs Ts H) (e : H p = none) (o : HO) : Tabs Ts (upd H p o) := h.kp0 (Kp.new e o)
theorem Tabs.tab (h : Tabs Ts H) (t : GxR.Tabbed P H H') (m : P ∈ Ts) : Tabs Ts H' := h.kp1 (Kp.tab (h P m) t (List.mem_singleton.mpr rfl)) t.1
theorem Kp.in1 (k : Kp [P] H H') (m : P ∈ Ts) : Kp Ts H H' := k.mono fun b hb => by rw [List.mem_singleton.mp hb]; exact m
theorem Kp.in0 (k : Kp [] H H') : Kp S H H' := k.mono fun b hb => absurd hb List.not_mem_nil
theorem Kp.get {b : Addr} {o : HO} (k : Kp Ts H H') (g : Tabs Ts H) (h : H b = some o) (no : ∀ ps, o ≠ .tbl ps := by intro ps z; cases z) : H' b = some o := k.keep b o (g.ne h no) h
theorem Kp.tys {v : V} {t : String} (k : Kp Ts H H') (g : Tabs Ts H) (h : tyN H v = some t) : tyN H' v = some t := by
  cases v with
  | ref p =>
    unfold tyN at h
    simp only at h
    split at h
    · rename_i xs q; cases h; exact tyN_lst (k.get g q)
    · rename_i xs q; cases h; exact tyN_tup (k.get g q)
    · rename_i xs q; cases h; exact tyN_dK (k.get g q)
    · cases h
  | _ => exact h
theorem Kp.seqs {a : Addr} {xs : List V} (k : Kp Ts H H') (g : Tabs Ts H) (h : SqL K H a xs) : SqL K H' a xs := by
  rcases h with (h | ⟨o, h⟩) | h
  · exact .inl (.inl (k.get g h))
  · exact .inl (.inr ⟨o, k.get g h⟩)
  · exact .inr h
/-- a law's state: tables may have grown, the stream stands, all else that was there is as it was -/
structure LT (Ts : List Addr) (st : Addr) (H0 H : Hp) : Prop where
  k : Kp Ts H0 H
  g : Tabs Ts H
  s : Strm H st
  g0 : Tabs Ts H0
  fr : H0 st = none
theorem LT.ne (L : LT Ts st H0 H) : st ∉ Ts := let ⟨_, _, e⟩ := L.s; L.g.ne e
theorem LT.first (g0 : Tabs Ts H0) (h : H0 st = none) {a b : Int} : LT Ts st H0 (upd H0 st (.lst [.int a, .int b])) := ⟨Kp.new h _, g0.new h _, Strm.mk, g0, h⟩
/-- what is written: a table, or what was not there at the beginning -/
theorem LT.go (L : LT Ts st H0 H) (k : Kp S H H') (hS : ∀ b ∈ S, b ∈ Ts ∨ H0 b = none) (g : Tabs Ts H') (s : Strm H' st) : LT Ts st H0 H' := by
  refine ⟨⟨fun b o n q => ?_, fun b xs q => k.tup b xs (L.k.tup b xs q)⟩, g, s, L.g0, L.fr⟩
  refine k.keep b o (fun m => ?_) (L.k.keep b o n q)
  rcases hS b m with z | z
  · exact n z
  · rw [q] at z; cases z
theorem LT.take (L : LT Ts st H0 H) (k : Kp [st] H H') (s : Strm H' st) : LT Ts st H0 H' :=
  L.go k (fun b hb => .inr (by rw [List.mem_singleton.mp hb]; exact L.fr)) (L.g.kp k fun P m z => L.ne (by rw [← List.mem_singleton.mp z]; exact m)) s
theorem LT.tabs (L : LT Ts st H0 H) (k : Kp Ts H H') (g : Tabs Ts H') : LT Ts st H0 H' := L.go k (fun b hb => .inl hb) g (L.s.kp k L.ne)
theorem LT.kp0 (L : LT Ts st H0 H) (k : Kp [] H H') : LT Ts st H0 H' := L.go k (fun b hb => absurd hb List.not_mem_nil) (L.g.kp0 k) (L.s.kp k List.not_mem_nil)
theorem LT.new (L : LT Ts st H0 H) (h : H p = none) (o : HO) : LT Ts st H0 (upd H p o) := L.kp0 (Kp.new h o)
theorem LT.free (L : LT Ts st H0 H) (h : H p = none) : H0 p = none := by
  cases e : H0 p with
  | none => rfl
  | some o =>
    exfalso
    by_cases m : p ∈ Ts
    · exact L.g.ne0 h m
    · have := L.k.keep p o m e
      rw [h] at this; cases this
theorem LT.nst (L : LT Ts st H0 H) (h : H p = none) : p ≠ st := fun z => by
  obtain ⟨x, y, e⟩ := L.s
  rw [z, e] at h; cases h
theorem LT.seq {a : Addr} {xs : List V} (L : LT Ts st H0 H) (h : SqL K H0 a xs) : SqL K H a xs := L.k.seqs L.g0 h
theorem LT.lst (L : LT Ts st H0 H) {xs ys : List V} (h0 : H0 p = none) (h : H p = some (.lst xs)) (n : p ≠ st) : LT Ts st H0 (upd H p (.lst ys)) := by
  have k : Kp [p] H (upd H p (.lst ys)) := Kp.lst h (List.mem_singleton.mpr rfl)
  exact L.go k (fun b hb => .inr (by rw [List.mem_singleton.mp hb]; exact h0)) (L.g.kp k fun P m z => by rw [List.mem_singleton.mp z] at m; exact L.g.ne h (by intro ps z; cases z) m) (L.s.kp k (by simpa using n.symm))
end
/-- a method of the class at C that keeps its promise -/
structure CalM (P : Program) (w : World) (K : PySem.W.Frag) (mg : Str → Option Value) (base : Heap) (CX : CXT) (k : Nat) (C : Addr) (x : Str) (sp : Sp) : Prop where
  ex : ∃ f fd ps, FnOk P w K mg base CX k f fd ps sp ∧ Meth K C x f ∧ Binds K fd ps []
  cl : Cls K C
/-- a class that is made without arguments -/
structure CalK (P : Program) (w : World) (K : PySem.W.Frag) (mg : Str → Option Value) (base : Heap) (CX : CXT) (k : Nat) (C : Addr) (x : Str) (sp : Sp) : Prop where
  ex : ∃ f fd ps, FnOk P w K mg base CX k f fd ps sp ∧ Mk K C f ∧ Binds K fd ps []
  mg : mg x = some (.ref C)
section
variable {P : Program} {w : World} {K : PySem.W.Frag} {mg : Str → Option Value} {base : Heap} {CX : CXT} {C : Addr} {x : Str} {sp : Sp}
theorem CalM.mono {j k : Nat} (c : CalM P w K mg base CX j C x sp) (h : j ≤ k) : CalM P w K mg base CX k C x sp :=
  let ⟨f, fd, ps, F, m, b⟩ := c.ex
  ⟨⟨f, fd, ps, F.mono h, m, b⟩, c.cl⟩
theorem CalM.imp {k : Nat} {sp' : Sp} (c : CalM P w K mg base CX k C x sp) (h : ∀ vs H Q E, sp' vs H Q E → sp vs H Q E) : CalM P w K mg base CX k C x sp' :=
  let ⟨f, fd, ps, F, m, b⟩ := c.ex
  ⟨⟨f, fd, ps, F.imp h, m, b⟩, c.cl⟩
end
section
variable {X : Cx} {x : Str} {p pos apos : Pos} {o e : Expr} {es : List Expr} {ta : TE} {t : TA} {sp : Sp} {j k : Nat} {CX : CXT} {E : XK} {C : Addr} {pl : Sem Bool}
theorem CalM.pex (c : CalM X.prog X.w X.K X.mg X.base CX j C x sp) (hr : Room k X.A) (hx : Passes CX X E) (ho : PE X o ta) (ha : PA X (e :: es) t) (hjk : j ≤ k := by first | decide | omega)
    (hst : starEach (e :: es) X.env = (false, eval e X.env) :: starEach es X.env := by rfl) (hpl : (backTo pos (starEach es X.env)).any (·.1) = false := by rfl)
    (ht : eval (.Call (.Attribute o x apos) (e :: es) [] pos) X.env = (do
      let ov ← eval o X.env
      standAt apos.atName
      let (f, first) ← holding [ov] (getMethod ov x pl)
      callWith pos f first (backTo pos (starEach (e :: es) X.env)) (backToKw pos (keywordEach [] X.env))) := by rfl) :
    PE X (.Call (.Attribute o x apos) (e :: es) [] pos) (tMeth C x sp [] E ta t) :=
  let ⟨_, _, _, F, m, b⟩ := c.ex
  pe_meth ho c.cl m F (hr.mono hjk) b .nil hx ha hst hpl ht
theorem CalM.pe (c : CalM X.prog X.w X.K X.mg X.base CX0 j C x sp) (hr : Room k X.A) (ho : PE X o ta) (ha : PA X (e :: es) t) (hjk : j ≤ k := by first | decide | omega)
    (hst : starEach (e :: es) X.env = (false, eval e X.env) :: starEach es X.env := by rfl) (hpl : (backTo pos (starEach es X.env)).any (·.1) = false := by rfl)
    (ht : eval (.Call (.Attribute o x apos) (e :: es) [] pos) X.env = (do
      let ov ← eval o X.env
      standAt apos.atName
      let (f, first) ← holding [ov] (getMethod ov x pl)
      callWith pos f first (backTo pos (starEach (e :: es) X.env)) (backToKw pos (keywordEach [] X.env))) := by rfl) :
    PE X (.Call (.Attribute o x apos) (e :: es) [] pos) (tMeth C x sp [] E0 ta t) := c.pex hr pass0 ho ha hjk hst hpl ht
/-- of a method that may raise, where it does not -/
theorem CalM.peL (c : CalM X.prog X.w X.K X.mg X.base (L2.CX X.prog X.w) j C x sp) (hr : Room k X.A) (ho : PE X o ta) (ha : PA X (e :: es) t) (hjk : j ≤ k := by first | decide | omega)
    (hst : starEach (e :: es) X.env = (false, eval e X.env) :: starEach es X.env := by rfl) (hpl : (backTo pos (starEach es X.env)).any (·.1) = false := by rfl)
    (ht : eval (.Call (.Attribute o x apos) (e :: es) [] pos) X.env = (do
      let ov ← eval o X.env
      standAt apos.atName
      let (f, first) ← holding [ov] (getMethod ov x pl)
      callWith pos f first (backTo pos (starEach (e :: es) X.env)) (backToKw pos (keywordEach [] X.env))) := by rfl) :
    PE X (.Call (.Attribute o x apos) (e :: es) [] pos) (tMeth C x sp [] E0 ta t) := c.pex hr passL ho ha hjk hst hpl ht
theorem CalM.pe0 (c : CalM X.prog X.w X.K X.mg X.base CX0 j C x sp) (hr : Room k X.A) (ho : PE X o ta) (hjk : j ≤ k := by first | decide | omega)
    (ht : eval (.Call (.Attribute o x apos) [] [] pos) X.env = (do
      let ov ← eval o X.env
      standAt apos.atName
      let (f, first) ← holding [ov] (getMethod ov x pl)
      callWith pos f first (backTo pos (starEach [] X.env)) (backToKw pos (keywordEach [] X.env))) := by rfl) :
    PE X (.Call (.Attribute o x apos) [] [] pos) (tMeth C x sp [] E0 ta tNil) :=
  let ⟨_, _, _, F, m, b⟩ := c.ex
  pe_meth0 ho c.cl m F (hr.mono hjk) b .nil pass0 ht
theorem CalK.pe0 (c : CalK X.prog X.w X.K X.mg X.base CX0 j C x sp) (hr : Room k X.A) (hjk : j + 1 ≤ k := by first | decide | omega) (hg : Gl X x := by rfl) (hdb : (x == ("__debug__" : Str)) = false := by decide) :
    PE X (.Call (.Name x p) [] [] pos) (tMake C sp [] E0 tNil) :=
  let ⟨_, _, _, F, m, b⟩ := c.ex
  pe_make0 m F (hr.mono hjk) hg c.mg b .nil pass0 hdb
end
section
variable {X : Cx}
theorem Blt.len_d {p pos : Pos} {e : Expr} {es : List Expr} {t : TA} (B : Blt X.mg) (ha : PA X (e :: es) t) (hg : Gl X "len" := by rfl) (he : starEach (e :: es) X.env = (false, eval e X.env) :: starEach es X.env := by rfl) (hpl : (backTo pos (starEach es X.env)).any (·.1) = false := by rfl) :
    PE X (.Call (.Name "len" p) (e :: es) [] pos) (tCB rLenT t) := pe_callB call_len_dT hg B.len PySem.boot_len ha (he := he) (hpl := hpl)
end
end SC

/-! try with several clauses that name the caught error, all by one name -/
namespace SC
open PySem PySem.Spec PyProof.Rows L2
/-- one clause's class and its suite's reading -/
abbrev Clause := Value × (Addr → Value → Option Addr → TS)
/-- how the name at the slot i goes behind a suite -/
def dropE (i : Nat) (D : Ends) : Ends := { nx := fun τ G => D.nx (τ.set i none) G, rt := D.rt, bk := fun τ G => D.bk (τ.set i none) G, ct := fun τ G => D.ct (τ.set i none) G }
/-- the wishes of the clauses, from the first -/
def wClauses (K : PySem.W.Frag) (i : Nat) (out : WX) (D : Ends) : List Clause → WX
  | [] => out
  | k :: r => fun cv dd τ G => ∃ yes, PySem.W.exmOne K cv k.1 = some yes ∧ if yes = true then (∀ e, G e = none → k.2 e cv dd (dropE i D) (τ.set i (some (.ref e))) G) else wClauses K i out D r cv dd τ G
/-- the clauses as they are written, each of them with the name n -/
inductive Written (X : Cx) (n : Str) : List ExceptHandler → List Clause → Prop
  | none : Written X n [] []
  | one {cn : Str} {k : Clause} {st : Stmt} {more : List Stmt} {p1 p2 : Pos} {hs : List ExceptHandler} {ks : List Clause} (named : Names X cn k.1)
      (runs : ∀ (e : Addr) (ob : Obj) (cv : Value) (dd : Option Addr) (held : List (Addr × Obj)), Zc cv dd ob → (∃ fs, ob.data = .fields fs) → PSs (X.suite e ((e, ob) :: held)) (st :: more) (k.2 e cv dd)) (rest : Written X n hs ks) :
      Written X n (.ExceptHandler (some (.Name cn p1)) (some n) (st :: more) p2 :: hs) (k :: ks)
section
variable {X : Cx} {n : Str} {i : Nat} {body : List Stmt} {first : ExceptHandler} {others : List ExceptHandler} {ks : List Clause} {pos : Pos} {tb : WX → TS} {out : WX}
theorem ps_try_asMany (stk : X.stack = X.env :: X.outer) (frm : X.env.frame = some X.env.locals) (nodup : X.N.Nodup) (slot : X.N[i]? = some n) (isLoc : X.env.kindOf n = some .local) (leaves : Takes X out)
    (runBody : ∀ (V : WX) (held : List (Addr × Obj)) (ex : Value → Shared → Prop), Takes (X.tr held ex) V → PassesOwn (model X.prog X.w) X.A X.env ex → PSs (X.tr held ex) body (tb V))
    (clauses : Written X n (first :: others) ks) : PS X (.Try body (first :: others) [] [] pos) (fun D τ G => tb (wClauses X.K i out D ks) D τ G) := by
  refine ⟨fun held s τ G D I pre => ?_⟩
  have good := I.ok
  have around : X.A.frames = some (X.env :: X.outer) := by rw [good.frames, stk]
  refine wpAny_Try_except ?_
  let after : Value → Shared → Prop := fun ev t1 => wpAny (model X.prog X.w) X.A (noteFrame ev X.env)
    (fun _ t2 => wpAny (model X.prog X.w) X.A (setFlight ev none) (fun _ t3 => wpAny (model X.prog X.w) X.A (handleBy ev X.env (first :: others)) (SP X held D) X.xe t3) X.xe t2) X.xe t1
  refine wpAny_mono ((runBody (wClauses X.K i out D ks) (X.pn ++ held) after (fun ev t thrown => ?_) PassesOwn.looking).run [] s τ G D (I.toTry _) pre) (fun flow t done => ?_) (fun _ _ z => z)
  · obtain ⟨e, base, sT, heldT, τ1, G1, cv, dd, rfl, IT, newer, upT, skyT, freeE, osT, gensT, wish⟩ := thrown
    have I1 : Inv X held τ1 G1 sT := IT.ofTry good
    show wpAny (model X.prog X.w) X.A (noteFrame (.ref e) X.env) _ _ _
    refine Sky.land Zc.steady around frm (by rw [← stk]; exact skyT) fun hA fly upA => ?_
    have IA : Inv X held τ1 G1 { t with heap := hA } := I1.landed newer fly.1 (upT.trans upA) osT gensT
    obtain ⟨ob, fs, obAt, obZ, obF⟩ := fly.there
    have offFrames : e ∉ frs (X.env :: X.outer) := fun inFrames => by
      obtain ⟨_, ob2, at2, notFields⟩ := fly.2.2.1.mem inFrames
      rw [obAt] at at2
      exact notFields _ (Option.some.inj at2 ▸ obF)
    have offLocals : e ≠ X.env.locals := fun z => offFrames (List.mem_filterMap.mpr ⟨X.env, List.mem_cons_self, by rw [frm, z]⟩)
    have offOuter : e ∉ X.fs := fun m =>
      let ⟨en, enIn, q⟩ := List.mem_filterMap.mp m
      offFrames (List.mem_filterMap.mpr ⟨en, List.mem_cons_of_mem _ enIn, q⟩)
    have inSuite := IA.suite obAt obF freeE offLocals offOuter
    clear pre
    suffices each : ∀ {hs : List ExceptHandler} {cs : List Clause}, Written X n hs cs → wClauses X.K i out D cs cv dd τ1 G1 →
        wpAny (model X.prog X.w) X.A (handleBy (.ref e) X.env hs) (SP X held D) X.xe { t with heap := hA } from each clauses wish
    intro hs cs written
    induction written with
    | none =>
      intro goesOn
      refine wpAny_handleBy_nil ?_
      obtain ⟨_, _, _, ob3, fs3, tb3, _, _, at3, _, f3, g3, _⟩ := id fly
      unfold PySem.passOn
      refine wpAny_bind (wpAny_field at3 f3 g3 ?_)
      rw [if_neg (by simp)]
      have again : wpAny (model X.prog X.w) X.A (setFlight (.ref e) X.env.frame) (fun _ t4 => wpAny (model X.prog X.w) X.A (throw (.ref e) : Sem Flow) (SP X held D) X.xe t4) X.xe { t with heap := hA } := by
        rw [frm]
        exact HandSPX.setFlight_upZ fly fun hB heldB upB => wpAny_throw (leaves _ _ ⟨e, base, sT, held, τ1, G1, cv, dd, rfl, I1, newer, (upT.trans upA).trans upB, .inr (.inr (by rw [stk]; exact heldB)), freeE, osT, gensT, goesOn⟩)
      first
        | exact wpAny_bind (wpAny_pure (wpAny_bind again))
        | exact wpAny_bind again
    | @one cn k st more p1 p2 hs2 ks2 named runs rest ih =>
      rintro ⟨yes, match1, w2⟩
      have looks := PySem.W.exm_one (M := model X.prog X.w) IA.kIn (fun A Q E u kk q => wpAny_typeOf_ref (kk _ _ obAt) (by rw [obZ.1]; exact q) : PySem.W.Looks (model X.prog X.w) hA (typeOf (.ref e)) cv) match1
      refine wpAny_handleBy_cons (codeAny_handlers_test ?_) (by intro q; cases q)
      have reads : ∀ {Q E : Value → Shared → Prop}, Q k.1 { t with heap := hA } → wpAny (model X.prog X.w) (X.A.mark (some (.ref e))) (eval (.Name cn p1) X.env) Q E { t with heap := hA } := fun {Q E} q => by
        rcases named with ⟨gl, nodbg, isMod | ⟨isMod, isB, nn⟩⟩
        · exact ld_glob (X := X.suite e ((e, ob) :: (X.pn ++ held))) inSuite gl isMod q nodbg
        · exact ld_blt (X := X.suite e ((e, ob) :: (X.pn ++ held))) inSuite gl isMod isB q nn nodbg
      refine reads (looks.here ?_)
      cases yes with
      | false =>
        rw [if_neg (by decide)] at w2
        show wpAny _ X.A (handleBy (.ref e) X.env hs2) _ _ _
        exact ih w2
      | true =>
        rw [if_pos rfl] at w2
        refine codeAny_handlers_suite_as (HandSPX.lands_againZ fly fun hB flyB upB => ?_)
        have IB : Inv X held τ1 G1 { t with heap := hB } := I1.landed newer flyB.1 ((upT.trans upA).trans upB) osT gensT
        obtain ⟨obB, fsB, atB, zB, fB⟩ := flyB.there
        refine store_ok (X := X.suite e ((e, obB) :: (X.pn ++ held))) (v := .ref e) (IB.suite atB fB freeE offLocals offOuter) nodup slot (.inl isLoc) rfl (fun t5 I5 => ?_) (.inr isLoc)
        refine wpAny_mono ((runs e obB cv dd (X.pn ++ held) zB ⟨_, fB⟩).run [] t5 _ G1 _ I5 (w2 e freeE)) (fun flow t6 ended => ?_) (fun _ _ z => False.elim z)
        have gone : ∀ {τ6 : L2.St} {G6 : Hp} {Q : Shared → Prop}, Inv (X.suite e ((e, obB) :: (X.pn ++ held))) [] τ6 G6 t6 → (∀ t7, Inv X held (τ6.set i none) G6 t7 → Q t7) →
            wpAny (model X.prog X.w) X.A (do bindName X.env n .none; unbindBehindTheSuite X.env n p2) (fun _ t7 => Q t7) X.xe t6 := fun {τ6 G6 Q} I6 q => gone_ok (I6.unsuite good) nodup slot isLoc q
        cases flow with
        | ret u => exact let ⟨_, _, _, I6, r6, q6⟩ := ended; gone I6 fun _ I7 => ⟨_, _, _, I7, r6, q6⟩
        | next => exact let ⟨_, _, I6, q6⟩ := ended; gone I6 fun _ I7 => ⟨_, _, I7, q6⟩
        | brk => exact let ⟨_, _, I6, q6⟩ := ended; gone I6 fun _ I7 => ⟨_, _, I7, q6⟩
        | cont => exact let ⟨_, _, I6, q6⟩ := ended; gone I6 fun _ I7 => ⟨_, _, I7, q6⟩
  · cases flow with
    | ret u => exact let ⟨_, _, _, J, r, q⟩ := done; ⟨_, _, _, J.ofTry good, r, q⟩
    | next => exact let ⟨_, _, J, q⟩ := done; wpAny_execs_nil ⟨_, _, J.ofTry good, q⟩
    | brk => exact let ⟨_, _, J, q⟩ := done; ⟨_, _, J.ofTry good, q⟩
    | cont => exact let ⟨_, _, J, q⟩ := done; ⟨_, _, J.ofTry good, q⟩
end
/-- o.m(..) of a method that may raise, the wish by the slots -/
def tMethV (C : Addr) (m : Str) (sp : Sp) (E : L2.St → XK) (ta : TE) (t : TA) : TE := fun σ H Q => ta σ H fun x H1 => ∃ a dx fs, x = .ref a ∧ H1 a = some (.ins C dx fs) ∧ fs.lookup m = none ∧ t σ H1 fun vs H2 => sp (x :: vs) H2 Q (E σ)
section
variable {X : Cx} {x : Str} {pos apos : Pos} {o e : Expr} {es : List Expr} {ta : TE} {t : TA} {sp : Sp} {j k : Nat} {C : Addr} {pl : Sem Bool} {V : WX}
theorem CalM.peV (c : CalM X.prog X.w X.K X.mg X.base (L2.CX X.prog X.w) j C x sp) (hr : Room k X.A) (tk : Takes X V) (ho : PE X o ta) (ha : PA X (e :: es) t) (hjk : j ≤ k := by first | decide | omega)
    (hst : starEach (e :: es) X.env = (false, eval e X.env) :: starEach es X.env := by rfl) (hpl : (backTo pos (starEach es X.env)).any (·.1) = false := by rfl)
    (ht : eval (.Call (.Attribute o x apos) (e :: es) [] pos) X.env = (do
      let ov ← eval o X.env
      standAt apos.atName
      let (f, first) ← holding [ov] (getMethod ov x pl)
      callWith pos f first (backTo pos (starEach (e :: es) X.env)) (backToKw pos (keywordEach [] X.env))) := by rfl) :
    PE X (.Call (.Attribute o x apos) (e :: es) [] pos) (tMethV C x sp (WE V) ta t) := by
  obtain ⟨f, fd, ps, F, M, b⟩ := c.ex
  refine ⟨fun held s σ H Q I pre => PySem.W.methodCall_KW (pl := pl) (thn (ho.run held s σ H _ I pre) fun u s1 gives => ?_) ht⟩
  obtain ⟨v, H1, I1, rel, p, dx, fs, rfl, isIns, noField, args⟩ := gives
  cases (show u = Value.ref p from rel)
  refine getmeth_ok I1 isIns c.cl M noField (PySem.W.callWith_K (first := [.ref p]) (h₀ := X.base) I.ok.mod.kin M.kp (thn (ha.run pos held s1 σ H1 _ I1 args) fun us s2 told => ?_) hst hpl)
  obtain ⟨vs, H2, I2, rels, q⟩ := told
  exact ⟨I2.kIn, run_fnS (us := .ref p :: us) (vs := .ref p :: vs) F (hr.mono hjk) b (passAt tk σ) I2 (.cons rfl rels) q⟩
/-- a suite that is read under what the caught error is -/
theorem pss_given {Y : Cx} {b : List Stmt} {u : TS} {p : Prop} (h : p → PSs Y b u) : PSs Y b (fun D σ H => p ∧ u D σ H) := ⟨fun held s σ H D I both => (h both.1).run held s σ H D I both.2⟩
/-- int(b) -/
theorem call_intB : CallR X (.type "int") (fun xs H Q => ∃ k : Bool, xs = [.bl k] ∧ Q (.int (if k then 1 else 0)) H) := fun pins s σ H xs us Q I r h => call_int1 pins s σ H xs us Q I r (.inr h)
theorem Blt.int_b {p : Pos} (B : Blt X.mg) (ha : PA X (e :: es) t) (hg : Gl X "int" := by rfl) (he : starEach (e :: es) X.env = (false, eval e X.env) :: starEach es X.env := by rfl) (hpl : (backTo pos (starEach es X.env)).any (·.1) = false := by rfl) :
    PE X (.Call (.Name "int" p) (e :: es) [] pos) (tCB (fun xs H Q => ∃ k : Bool, xs = [.bl k] ∧ Q (.int (if k then 1 else 0)) H) t) :=
  pe_callTy call_intB hg B.int (by decide +kernel) ha (he := he) (hpl := hpl)
end
end SC

set_option maxHeartbeats 3200000
/-! sorted(set(xs)) and sorted(xs) of texts, of any number -/
namespace SC
open PySem PySem.Spec PyProof.Rows L2
open PySem.Froz (SD sObj TxOk addTx tailTx add_ok is_str)
section
variable {P : Program} {w : World} {A : Around} {E : Value → Shared → Prop} {s : Shared}
/-- the set at a holds the texts l, each once; its table rises and can be walked -/
structure TxR (P : Program) (w : World) (h : Heap) (a : Addr) (l : List Str) : Prop where
  ex : ∃ D, h.get? a = some (sObj "set" D) ∧ TxOk P w D l ∧ Ris D.2.2.place.toList ∧ (w.params.followText "set-order" = true ∨ D.2.2.led = true)
  nd : l.Nodup
theorem TxR.at {h h' : Heap} {a : Addr} {l : List Str} (R : TxR P w h a l) (k : ∀ o, h.get? a = some o → h'.get? a = some o) : TxR P w h' a l :=
  let ⟨D, e, r⟩ := R.ex
  ⟨⟨D, k _ e, r⟩, R.nd⟩
/-- the set that set() makes, before the first item -/
abbrev newSetObj (w : World) : Obj := { cls := .type "set", dict := none, data := .set #[] 0 (.fresh 0 0 (!w.params.followText "set-order")) }
theorem TxR.fresh {h : Heap} {a : Addr} (e : h.get? a = some (newSetObj w)) : TxR P w h a [] := by
  refine ⟨⟨(#[], 0, .fresh 0 0 (!w.params.followText "set-order")), e, TxOk.nil rfl, List.Pairwise.nil, ?_⟩, List.nodup_nil⟩
  show _ ∨ (!w.params.followText "set-order") = true
  cases w.params.followText "set-order" <;> simp
theorem addTx_walk {hs : Int} {v : Value} {D : SD} (r : Ris D.2.2.place.toList) (g : w.params.followText "set-order" = true ∨ D.2.2.led = true) :
    Ris (addTx hs v D).2.2.place.toList ∧ (w.params.followText "set-order" = true ∨ (addTx hs v D).2.2.led = true) := by
  obtain ⟨es, ep, t⟩ := D
  have r1 := layNew_ris t es hs v r
  have l1 := layNew_led t es hs v
  unfold addTx tailTx
  dsimp only
  generalize layNew t es hs v = L at r1 l1 ⊢
  obtain ⟨e1, t1, wd, gv⟩ := L
  dsimp only at r1 l1 ⊢
  have r2 : Ris (if t1.plain = true then { t1 with plain := false } else t1).place.toList := by split <;> exact r1
  have l2 : (if t1.plain = true then { t1 with plain := false } else t1).led = t.led := by split <;> exact l1
  generalize (if t1.plain = true then { t1 with plain := false } else t1) = t2 at r2 l2 ⊢
  split
  · refine ⟨relayAll_ris t2 e1 _, g.imp id fun q => ?_⟩
    rw [relayAll_led, l2]; exact q
  · exact ⟨r2, g.imp id fun q => by rw [l2]; exact q⟩
/-- one text is put in -/
theorem TxR.add {a : Addr} {l : List Str} {k : Str} {u : Tok} {Q : Bool → Shared → Prop} (R : TxR P w s.heap a l) (few : l.length + 1 < scanBound)
    (q : ∀ h' b, Heap.SameBut a s.heap h' → TxR P w h' a (if k ∈ l then l else k :: l) → Q b { s with heap := h' }) : wpAny (model P w) A (setAddHashed a (.str k u) (hashStr w k)) Q E s := by
  obtain ⟨D, at_, ok, ris, walk⟩ := R.ex
  by_cases m : k ∈ l
  · obtain ⟨es, ep, t⟩ := D
    have few0 : es.size < scanBound := by have : es.size = l.length := ok.sz; omega
    unfold setAddHashed setAddHashedIn
    refine wpAny_holding (wpAny_bind (wpAny_setState_of at_ (show (sObj "set" (es, ep, t)).data = .set es ep t from rfl) ok.fit ?_))
    dsimp only
    rw [byScan_of (x := Value.str k u) rfl few0 ok.el, if_pos rfl]
    unfold setAddByScan
    refine wpAny_bind (wpAny_bind (wpAny_rule (wpAny_bind (wpAny_setScan_of (knd := strKind P w) (k := k) (is_str k u) at_ (show (sObj "set" (es, ep, t)).data = .set es ep t from rfl) ok.fit ok.el ?_))))
    obtain ⟨e, he, hp⟩ := (ok.mem k).mp m
    cases fnd : List.findIdx? (fun e => (strKind P w).is k e.2) es.toList with
    | none =>
      have := List.findIdx?_eq_none_iff.mp fnd e he
      rw [hp] at this; cases this
    | some j =>
      have z := q s.heap false (Heap.SameBut.refl a s.heap) (by rw [if_pos m]; exact R)
      exact wpAny_pure (wpAny_pure z)
  · refine PySem.Froz.add_x at_ ok m few (q _ _ ?_ ?_)
    · exact ⟨by rw [Heap.size_update], fun b hb => Heap.get?_update_other _ _ (Ne.symm hb)⟩
    · rw [if_neg m]
      exact ⟨⟨addTx (hashStr w k) (.str k u) D, PySem.Froz.get_upd _ at_ rfl, add_ok u ok, addTx_walk ris walk⟩, List.nodup_cons.mpr ⟨m, R.nd⟩⟩
/-- what the first i of xs make of the set at S -/
def Upto (P : Program) (w : World) (S : Addr) (xs : List Str) (i : Nat) (h : Heap) : Prop := ∃ l, TxR P w h S l ∧ (∀ z, z ∈ l ↔ z ∈ xs.take i) ∧ l.length ≤ i
theorem Upto.at {h h' : Heap} {S : Addr} {xs : List Str} {i : Nat} (u : Upto P w S xs i h) (k : ∀ o, h.get? S = some o → h'.get? S = some o) : Upto P w S xs i h' := let ⟨l, r, m⟩ := u; ⟨l, r.at k, m⟩
theorem Upto.more {h' : Heap} {S : Addr} {xs l : List Str} {i : Nat} {z : Str} (at_ : xs[i]? = some z) (mem : ∀ y, y ∈ l ↔ y ∈ xs.take i) (len : l.length ≤ i) (R : TxR P w h' S (if z ∈ l then l else z :: l)) : Upto P w S xs (i + 1) h' := by
  refine ⟨_, R, fun y => ?_, ?_⟩
  · rw [List.take_add_one, at_, List.mem_append, Option.toList_some, List.mem_singleton, ← mem y]
    split
    · rename_i m
      exact ⟨.inl, fun q => q.elim id fun e => by rw [e]; exact m⟩
    · rw [List.mem_cons]
      exact or_comm
  · split
    · omega
    · exact Nat.succ_le_succ len
theorem loop_txts {it S : Addr} {fp wr : List Addr} {G : Array GenState → Array GenState → Prop} {n : Nat} {Pv : Nat → Value → Prop} {St : Nat → Shared → Prop} {R : Result → Shared → Prop} {xs : List Str}
    (W : WalksS P w A.in1 it fp wr G n Pv St) (off : S ∉ fp) (len : n = xs.length) (few : xs.length + 1 < scanBound) (vals : ∀ i v, Pv i v → ∃ z u, xs[i]? = some z ∧ v = Value.str z u) :
    ∀ (k i : Nat) (s : Shared), n - i = k → i ≤ n → St i s → Upto P w S xs i s.heap → (∀ s', Moved (S :: wr) G s s' → Upto P w S xs n s'.heap → R (.ok (.ret .none)) s') →
      codeAny (model P w) A (.builtin "set.update.loop" ⟨[.ref S, .ref it], []⟩) R s := by
  have offW : S ∉ wr := fun m => off (W.sub _ m)
  intro k
  induction k with
  | zero =>
    intro i s left le st up out
    obtain rfl : i = n := by omega
    refine codeAny_builtin F.entry_set_update_loop (by
      rw [Around.under_plainId F.plain_set_update_loop _]
      exact wpAny_bind (m := pyNext (.ref it)) (W.done s _ _ st fun s' moved => wpAny_pure (out s' (moved.mono fun b hb => List.mem_cons_of_mem _ hb) (up.at fun o e => moved.heap S o offW e))))
  | succ k ih =>
    intro i s left le st up out
    have lt : i < n := by omega
    refine codeAny_builtin F.entry_set_update_loop (by
      rw [Around.under_plainId F.plain_set_update_loop _]
      refine wpAny_bind (m := pyNext (.ref it)) (W.item i s _ _ lt st fun v s' is_ st' moved => ?_)
      obtain ⟨z, u, at_, rfl⟩ := vals i v is_
      obtain ⟨l, tr, mem, ll⟩ := up.at (h' := s'.heap) fun o e => moved.heap S o offW e
      refine wpAny_bind (m := holding [Value.str z u] (setAdd S (.str z u))) (wpAny_holding ?_)
      unfold setAdd
      refine wpAny_holding (wpAny_bind ((strKind P w).pyHash (k := z) (is_str z u) ?_))
      refine TxR.add (s := { s' with toks := s'.toks + 1 }) tr (by omega) fun h' b same R2 => ?_
      have frame : ∀ c ∈ fp, ∀ o, s'.heap.get? c = some o → h'.get? c = some o := fun c hc o e => by rw [same.2 c (fun z : c = S => off (by rw [← z]; exact hc))]; exact e
      refine wpAny_pure ⟨plainId_quiet F.plain_set_update_loop _, ih (i + 1) _ (by omega) lt (W.frame _ s' _ _ st' (Nat.le_succ _) frame) (Upto.more at_ mem ll R2) fun s2 moved2 up2 => out s2 (Moved.trans W.gtrans (((moved.mono fun b hb => List.mem_cons_of_mem _ hb)).then_heap (Nat.le_succ _) fun b o off2 e => ?_) moved2) up2⟩
      rw [same.2 b fun z : b = S => off2 (by rw [z]; exact List.mem_cons_self)]
      exact e)
local macro_rules | `(tactic| walk_at "go") => `(tactic| repeat (any_goals (first | assumption | wp_step)))
/-- set(xs), xs a list of texts -/
theorem set_of_txts {l : Addr} {items : Array Value} {xs : List Str} {Q : Value → Shared → Prop} (hh : A.handled = none) (isL : s.heap.IsList l items) (txt : StrsAre items.toList xs) (few : xs.length + 1 < scanBound)
    (q : ∀ (h' : Heap) (tk : Nat), Upto P w s.heap.objs.size xs xs.length h' → (∀ b o, s.heap.get? b = some o → h'.get? b = some o) → Q (.ref s.heap.objs.size) { s with heap := h', toks := tk }) :
    wpAny (model P w) A (call (.type "set") [.ref l]) Q E s := by
  have size : items.size = xs.length := by have z := StrsAre.length txt; rwa [Array.length_toList] at z
  let S := s.heap.objs.size
  let h1 := s.heap.push (newSetObj w)
  have at1 : h1.get? S = some (newSetObj w) := Heap.get?_push_size _ rfl
  have size1 : h1.objs.size = S + 1 := Heap.size_push ..
  obtain ⟨c, tl, mro⟩ := F.called_set.mro
  have made := F.called_set.made
  have sub := F.called_set.sub
  refine wpAny_call (codeAny_of_tree (wpAny_pure ⟨Code.quiet_builtin _ (by decide +kernel), codeAny_builtin F.entry_type_call ?_⟩))
  rw [Around.under_plain (weight_type_call_type "set" [.ref l] []) rfl]
  have nt := F.called_set.notType
  have cc := F.called_set.canCreate
  have tc := F.typeCall_set_1 (.ref l)
  walk_at "go"
  refine codeAny_mono (code_set_led1 (.ref l) (E := E) (Q₁ := fun obj t => obj = .ref S ∧ t = { s with heap := h1 }) ⟨rfl, rfl⟩) fun r t hr => ?_
  cases r with
  | error e => exact hr
  | ok fl =>
    cases fl with
    | next => exact hr.elim
    | brk => exact hr.elim
    | cont => exact hr.elim
    | ret obj =>
      obtain ⟨rfl, rfl⟩ := hr
      have ty : Shared.TypeIs { s with heap := h1 } (.ref S) "set" := ⟨_, at1, rfl⟩
      have li := F.called_set.init.lookup
      have bi := F.called_set.init.bind (.ref S)
      walk_at "go"
      refine codeAny_mono (codeAny_call_builtin (R := wants (fun r t2 => r = .none ∧ ∃ h' tk, t2 = { s with heap := h', toks := tk } ∧ Upto P w S xs xs.length h' ∧ ∀ b o, s.heap.get? b = some o → h'.get? b = some o) E) F.called_set.init.plain F.entry_set_init (check_set_init_1 ty ?_)) fun r2 t2 hr2 => ?_
      · obtain ⟨⟨cls, dct, dat, sls⟩, got, isCls, nn, isDat⟩ := isL
        simp only at isCls isDat
        subst isCls isDat
        have got1 : h1.get? l = some { cls := .type "list", dict := dct, data := .seq items nn, slots := sls } := Heap.get?_push_of_some _ got
        have q1 := F.sub_list_set
        have q2 := F.sub_list_frozenset
        have q3 : (Value.type "list" == Value.type "dict") = false := by decide
        have isL1 : h1.IsList l items := ⟨_, got1, rfl, nn, rfl⟩
        have ltS : l < S := Heap.lt_size got
        unfold Builtin.«set.__init__» noKeywords Builtin.Frozenset.updateFrom
        generalize keepIter : pyIter = PI
        wp_walk
        subst keepIter
        refine wpAny_pyIter_list isL1 (wpAny_bind (wpAny_runValue ?_))
        have calm : A.in1.in1.in1.handled = none := by simp [hh]
        have neIt : l ≠ h1.objs.size := by rw [size1]; exact Nat.ne_of_lt (Nat.lt_succ_of_lt ltS)
        have off : S ∉ [h1.objs.size, l] := by
          rw [size1]
          intro m
          rcases List.mem_cons.mp m with z | z
          · exact Nat.ne_of_lt (Nat.lt_succ_self _) z
          · exact Nat.ne_of_gt ltS (List.mem_singleton.mp z)
        have vals : ∀ (i : Nat) (v : Value), items[i]? = some v → ∃ z u, xs[i]? = some z ∧ v = Value.str z u := fun i v hv => by
          have hi : i < xs.length := by rw [← size]; exact (Array.getElem?_eq_some_iff.mp hv).1
          obtain ⟨u, e⟩ := SS.strs_at txt i v (by rw [Array.getElem?_toList]; exact hv)
          refine ⟨xs[i], u, List.getElem?_eq_getElem hi, e.trans ?_⟩
          rw [List.getD_eq_getElem?_getD, List.getElem?_eq_getElem hi]
          all_goals rfl
        refine loop_txts (xs := xs) (P := P) (w := w) ((Walks.list calm _ l neIt items).toS) off size few vals (items.size - 0) 0 _ (by omega) (Nat.zero_le _) ⟨⟨_, Heap.get?_push_size _ rfl, rfl, rfl⟩, isL1.push _⟩ ?first ?last
        case first => exact ⟨[], TxR.fresh (Heap.get?_push_of_some _ at1), fun z => by simp, Nat.le_refl _⟩
        case last =>
          rintro ⟨h', g', d', tk', os'⟩ moved up
          obtain rfl : g' = s.gens := moved.gens
          obtain rfl : d' = s.drawn := moved.drawn
          obtain rfl : os' = s.os := moved.os
          rw [size] at up
          refine wpAny_pure (wpAny_pure ⟨rfl, h', tk', rfl, up, fun b o e => ?_⟩)
          have ltb : b < S := Heap.lt_size e
          refine moved.heap b o (fun m => ?_) (Heap.get?_push_of_some _ (Heap.get?_push_of_some _ e))
          rcases List.mem_cons.mp m with z | z
          · exact Nat.ne_of_lt ltb z
          · have z := List.mem_singleton.mp z
            rw [size1] at z
            exact absurd z (Nat.ne_of_lt (Nat.lt_succ_of_lt ltb))
      · cases r2 with
        | error e => exact hr2
        | ok fl2 =>
          cases fl2 with
          | next => exact hr2.elim
          | brk => exact hr2.elim
          | cont => exact hr2.elim
          | ret r =>
            obtain ⟨rfl, h', tk, rfl, up, kept⟩ := hr2
            walk_at "go"
            exact q _ _ up kept
end
end SC

namespace SC
open PySem PySem.Spec PyProof.Rows L2
open PySem.Froz (SD sObj TxOk)
/-! the order of texts -/
def lt (x y : Str) : Bool := ltCps (TL.tl x) (TL.tl y)
theorem ltc_irr : ∀ a : List Nat, ltCps a a = false
  | [] => rfl
  | x :: r => by
    show (decide (x < x) || (x == x && ltCps r r)) = false
    rw [ltc_irr r, decide_eq_false (Nat.lt_irrefl x), Bool.and_false]; rfl
theorem ltc_trans : ∀ a b c : List Nat, ltCps a b = true → ltCps b c = true → ltCps a c = true
  | [], [], _, h, _ => by cases h
  | [], _ :: _, [], _, h => by cases h
  | [], _ :: _, _ :: _, _, _ => rfl
  | _ :: _, [], _, h, _ => by cases h
  | _ :: _, _ :: _, [], _, h => by cases h
  | x :: a, y :: b, z :: c, h1, h2 => by
    have k1 : (decide (x < y) || (x == y && ltCps a b)) = true := h1
    have k2 : (decide (y < z) || (y == z && ltCps b c)) = true := h2
    show (decide (x < z) || (x == z && ltCps a c)) = true
    clear h1 h2
    simp only [Bool.or_eq_true, Bool.and_eq_true, decide_eq_true_eq, beq_iff_eq] at k1 k2 ⊢
    rcases k1 with k1 | ⟨e1, k1⟩
    · rcases k2 with k2 | ⟨e2, _⟩
      · exact .inl (Nat.lt_trans k1 k2)
      · exact .inl (by omega)
    · rcases k2 with k2 | ⟨e2, k2⟩
      · exact .inl (by omega)
      · exact .inr ⟨e1.trans e2, ltc_trans a b c k1 k2⟩
theorem ltc_tri : ∀ a b : List Nat, a = b ∨ ltCps a b = true ∨ ltCps b a = true
  | [], [] => .inl rfl
  | [], _ :: _ => .inr (.inl rfl)
  | _ :: _, [] => .inr (.inr rfl)
  | x :: a, y :: b => by
    show _ ∨ (decide (x < y) || (x == y && ltCps a b)) = true ∨ (decide (y < x) || (y == x && ltCps b a)) = true
    simp only [Bool.or_eq_true, Bool.and_eq_true, decide_eq_true_eq, beq_iff_eq]
    rcases Nat.lt_trichotomy x y with h | rfl | h
    · exact .inr (.inl (.inl h))
    · rcases ltc_tri a b with rfl | h | h
      · exact .inl rfl
      · exact .inr (.inl (.inr ⟨rfl, h⟩))
      · exact .inr (.inr (.inr ⟨rfl, h⟩))
    · exact .inr (.inr (.inl h))
theorem lt_irr (x : Str) : lt x x = false := ltc_irr _
theorem lt_trans {x y z : Str} (h1 : lt x y = true) (h2 : lt y z = true) : lt x z = true := ltc_trans _ _ _ h1 h2
theorem lt_tri (x y : Str) : x = y ∨ lt x y = true ∨ lt y x = true := (ltc_tri (TL.tl x) (TL.tl y)).imp TL.ext_tl id
theorem lt_asym {x y : Str} (h : lt x y = true) : lt y x = false := by
  cases e : lt y x with
  | false => rfl
  | true =>
    have := lt_trans h e
    rw [lt_irr] at this; cases this
/-- strictly ascending -/
def asc : List Str → Bool
  | [] => true
  | x :: r => (match r with | [] => true | y :: _ => lt x y) && asc r
theorem asc_cons {x : Str} {r : List Str} : asc (x :: r) = true ↔ (∀ y ∈ r, lt x y = true) ∧ asc r = true := by
  induction r generalizing x with
  | nil => exact ⟨fun _ => ⟨fun y h => absurd h List.not_mem_nil, rfl⟩, fun _ => rfl⟩
  | cons y r ih =>
    show (lt x y && asc (y :: r)) = true ↔ _
    rw [Bool.and_eq_true]
    constructor
    · rintro ⟨h1, h2⟩
      refine ⟨fun z hz => ?_, h2⟩
      rcases List.mem_cons.mp hz with rfl | hz
      · exact h1
      · exact lt_trans h1 ((ih.mp h2).1 z hz)
    · rintro ⟨h1, h2⟩
      exact ⟨h1 y List.mem_cons_self, h2⟩
theorem asc_nodup : ∀ {l : List Str}, asc l = true → l.Nodup
  | [], _ => List.nodup_nil
  | x :: r, h => by
    obtain ⟨h1, h2⟩ := asc_cons.mp h
    refine List.nodup_cons.mpr ⟨fun m => ?_, asc_nodup h2⟩
    have := h1 x m
    rw [lt_irr] at this; cases this
/-- an ascending list is known by its members -/
theorem asc_eq : ∀ {l m : List Str}, asc l = true → asc m = true → (∀ z, z ∈ l ↔ z ∈ m) → l = m
  | [], [], _, _, _ => rfl
  | [], y :: _, _, _, h => absurd ((h y).mpr List.mem_cons_self) List.not_mem_nil
  | x :: _, [], _, _, h => absurd ((h x).mp List.mem_cons_self) List.not_mem_nil
  | x :: l, y :: m, h1, h2, h => by
    obtain ⟨a1, a2⟩ := asc_cons.mp h1
    obtain ⟨b1, b2⟩ := asc_cons.mp h2
    have e : x = y := by
      rcases List.mem_cons.mp ((h x).mp List.mem_cons_self) with e | e
      · exact e
      rcases List.mem_cons.mp ((h y).mpr List.mem_cons_self) with e2 | e2
      · exact e2.symm
      have := lt_asym (b1 x e)
      rw [a1 y e2] at this; cases this
    subst e
    congr 1
    refine asc_eq a2 b2 fun z => ?_
    constructor
    · intro hz
      rcases List.mem_cons.mp ((h z).mp (List.mem_cons_of_mem _ hz)) with e | e
      · subst e
        have := a1 z hz
        rw [lt_irr] at this; cases this
      · exact e
    · intro hz
      rcases List.mem_cons.mp ((h z).mpr (List.mem_cons_of_mem _ hz)) with e | e
      · subst e
        have := b1 z hz
        rw [lt_irr] at this; cases this
      · exact e
theorem rise_cons : ∀ (p : Str) (l : List Str), risingS p l = true → (p :: l).Nodup → asc (p :: l) = true
  | _, [], _, _ => rfl
  | p, x :: r, h, n => by
    have h : (!ltCps x.cps.toList p.cps.toList && risingS x r) = true := h
    rw [Bool.and_eq_true] at h
    show (lt p x && asc (x :: r)) = true
    rw [rise_cons x r h.2 (List.nodup_cons.mp n).2, Bool.and_true]
    rcases lt_tri p x with e | e | e
    · exact absurd (by rw [e]; exact List.mem_cons_self) (List.nodup_cons.mp n).1
    · exact e
    · have e : ltCps x.cps.toList p.cps.toList = true := e
      rw [e] at h; cases h.1
theorem asc_of {l : List Str} (h : sortedS l = true) (n : l.Nodup) : asc l = true := by
  cases l with
  | nil => rfl
  | cons x r => exact rise_cons x r h n
theorem perm_sub {α : Type} [DecidableEq α] : ∀ (l m : List α), l.Nodup → (∀ x ∈ l, x ∈ m) → m.length ≤ l.length → l.Perm m
  | [], m, _, _, h => by
    have : m = [] := List.eq_nil_of_length_eq_zero (Nat.le_zero.mp h)
    rw [this]
  | x :: l, m, n, s, h => by
    obtain ⟨n1, n2⟩ := List.nodup_cons.mp n
    have hx := s x List.mem_cons_self
    have p := List.perm_cons_erase hx
    refine ((perm_sub l (m.erase x) n2 (fun y hy => ?_) ?_).cons x).trans p.symm
    · exact (List.mem_erase_of_ne (fun e => n1 (by rw [← e]; exact hy))).mpr (s y (List.mem_cons_of_mem _ hy))
    · have := p.length_eq
      rw [List.length_cons] at this
      rw [List.length_cons] at h
      omega
section
variable {P : Program} {w : World} {A : Around} {E : Value → Shared → Prop} {s : Shared}
def txtOf : Value → Str
  | .str z _ => z
  | _ => Str.empty
theorem strsAre_map : ∀ (vs : List Value), (∀ v ∈ vs, ∃ z u, v = Value.str z u) → StrsAre vs (vs.map txtOf)
  | [], _ => .nil
  | v :: r, h => by
    obtain ⟨z, u, rfl⟩ := h v List.mem_cons_self
    exact .cons z u (strsAre_map r fun y hy => h y (List.mem_cons_of_mem _ hy))
/-- sorted(S), S a set of texts -/
theorem sorted_txts {a : Addr} {l : List Str} {Q : Value → Shared → Prop} (R : TxR P w s.heap a l) (few : l.length < scanBound) (hh : A.handled = none)
    (q : ∀ (s' : Shared) (p : Addr) (out : Array Value) (c : Nat) (ys : List Str), (∀ b o, s.heap.get? b = some o → s'.heap.get? b = some o) → s'.gens = s.gens → s'.os = s.os → s.heap.objs.size ≤ p → s'.heap.get? p = some (seqObj "list" out c) → StrsAre out.toList ys → ys.Perm l → sortedS ys = true → Q (.ref p) s') :
    wpAny (model P w) A (call (.builtin "sorted") [.ref a]) Q E s := by
  obtain ⟨⟨es, ep, t⟩, at_, ok, ris, walk⟩ := R.ex
  have size : es.size = l.length := ok.sz
  refine Calls.call_function_entry kind_sorted plain_sorted entry_sorted (args_sorted1 _) ?_
  unfold Builtin.«sorted»
  refine wpAny_bind (m := checkCount "sorted" 1 1 _) (wpAny_pure (wpAny_bind (collect_set (A := A.in1) hh ⟨_, at_, rfl, rfl⟩ ok.fit (by rw [size]; exact few) ris walk fun s1 vs kept bigger gens os perm => ?_)))
  have lenV : vs.length = l.length := by rw [perm.length_eq, List.length_map, Array.length_toList]; exact size
  have allT : ∀ v ∈ vs, ∃ z u, v = Value.str z u ∧ z ∈ l := fun v hv => by
    obtain ⟨e, he, rfl⟩ := List.mem_map.mp (perm.mem_iff.mp hv)
    obtain ⟨⟨k, isK, _⟩, _⟩ := ok.el e he
    have m : k ∈ l := (ok.mem k).mpr ⟨e, he, isK⟩
    have isK : Value.isStrOf k e.2 = true := isK
    cases q : e.2 <;> rw [q] at isK <;> first | (cases isK; done) | skip
    rename_i z u
    have : z = k := by simpa [Value.isStrOf] using isK
    exact ⟨z, u, rfl, by rw [this]; exact m⟩
  have txt := strsAre_map vs fun v hv => let ⟨z, u, e, _⟩ := allT v hv; ⟨z, u, e⟩
  have permL : (vs.map txtOf).Perm l := by
    refine (perm_sub l (vs.map txtOf) R.nd (fun z hz => ?_) (by rw [List.length_map, lenV]; exact Nat.le_refl _)).symm
    obtain ⟨e, he, isK⟩ := (ok.mem z).mp hz
    have mv : e.2 ∈ vs := perm.mem_iff.mpr (List.mem_map.mpr ⟨e, he, rfl⟩)
    obtain ⟨y, u, ey, _⟩ := allT _ mv
    have isK : Value.isStrOf z e.2 = true := isK
    rw [ey] at isK mv
    have : y = z := by simpa [Value.isStrOf] using isK
    exact List.mem_map.mpr ⟨_, mv, this⟩
  have fits : vs.length ≤ sizeLine := by rw [lenV]; exact Nat.le_trans (Nat.le_of_lt few) (by rw [sizeLine_eq]; decide)
  refine wpAny_bind (wpAny_newList ?_ fits)
  have atL : (s1.heap.push (seqObj "list" vs.toArray 0)).get? s1.heap.objs.size = some (seqObj "list" vs.toArray 0) := Heap.get?_push_size _ rfl
  refine wpAny_bind (wpAny_holding (wpAny_call_entry slot_list_sort ⟨_, atL, rfl⟩ entry_list_sort (list_sort_treeKAny strKind_oneLt atL txt.keysOf (fun v1 v2 rest e => keyKind_strs (by rw [← e]; exact txt)) fits fun st hp hs => ?_) (args_list_sort _)))
  obtain ⟨ys, isY, permY, srt⟩ := sorted_out_str txt hp hs
  obtain ⟨c, atS⟩ := sortedHeap_at (vs := vs) (out := (arrOf st).map (·.2)) atL
  refine ⟨_, rfl, wpAny_pure ⟨_, rfl, q _ s1.heap.objs.size _ c ys (fun b u e => ?_) gens os bigger atS isY (permY.trans permL) srt⟩⟩
  have old := Heap.lt_size (kept b u e)
  show (sortedHeap (s1.heap.push (seqObj "list" vs.toArray 0)) s1.heap.objs.size vs ((arrOf st).map (·.2))).get? b = some u
  rw [sortedHeap_old (Nat.ne_of_lt old) (by rw [Heap.size_push]; exact Nat.lt_succ_of_lt old)]
  exact Heap.get?_push_of_some _ (kept b u e)
end
section
variable {X : Cx}
theorem strsOf : ∀ {ys : List Str} {us : List Value}, Vals (ys.map V.str) us → StrsAre us ys
  | [], _, .nil => .nil
  | y :: ys, _, .cons r t => by
    obtain ⟨k, rfl⟩ := r
    exact .cons y k (strsOf t)
/-- sorted(xs) of texts, of any number -/
def rSortedA (K : PySem.W.Frag) : List V → Hp → VK → Prop := fun vs H Q => ∃ (a : Addr) (xs : List Str), vs = [V.ref a] ∧ SqL K H a (xs.map V.str) ∧ ∀ (ys : List Str) (p : Addr), ys.Perm xs → sortedS ys = true → H p = none → Q (.ref p) (upd H p (.lst (ys.map V.str)))
theorem cr_sortedA : CallR X (.builtin "sorted") (rSortedA X.K) := by
  intro pins s σ H vs us Q I r h
  obtain ⟨a, xs, rfl, isL, q⟩ := h
  obtain ⟨its, rv, hl, fits⟩ := I.list isL
  rw [Vals.ref1 r]
  refine sorted_strsAny hl.isList (strsOf rv) (by rw [← rv.length]; exact fits) fun out ys isY perm srt => ?_
  obtain ⟨c, atS⟩ := sortedAll_at s.heap its out
  have len : (ys.map V.str).length ≤ sizeLine := by
    rw [List.length_map] at fits ⊢
    rw [perm.length_eq]; exact fits
  have J := I.laid (a := s.heap.objs.size + 1) (o := .lst (ys.map V.str)) (t' := s.toks) (fun _ _ => sortedAll_old) (Nat.le_succ _) ⟨len, out.toList, c, vals_of_strs isY, atS⟩
  exact ⟨.ref _, _, J, rfl, q ys _ perm srt (I.hok.fresh (Nat.le_succ _))⟩
/-- sorted(set(xs)), xs a list of texts -/
def tSortSet (K : PySem.W.Frag) (ta : TE) : TE := fun σ H Q => ta σ H fun x H1 => ∃ (l : Addr) (xs : List Str), x = .ref l ∧ SqL K H1 l (xs.map V.str) ∧ xs.length ≤ 1000 ∧
  ∀ (ys : List Str) (p : Addr), asc ys = true → (∀ z, z ∈ ys ↔ z ∈ xs) → H1 p = none → Q (.ref p) (upd H1 p (.lst (ys.map V.str)))
theorem pe_sortSet {e : Expr} {ta : TE} {p1 p2 p3 p4 : Pos} (calm : X.calm = true) (g1 : Gl X "sorted") (m1 : X.mg "sorted" = none) (g2 : Gl X "set") (m2 : X.mg "set" = none) (he : PE X e ta)
    (one : starEach [e] X.env = (false, eval e X.env) :: starEach [] X.env := by rfl) : PE X (.Call (.Name "sorted" p1) [.Call (.Name "set" p2) [e] [] p3] [] p4) (tSortSet X.K ta) := by
  refine ⟨fun held s σ H Q I pre => Call_ (ld_blt I g1 m1 (show bootBuiltins "sorted" = some (.builtin "sorted") by decide +kernel) (callWith_builtin1 (args_cons (Call_ (ld_blt I g2 m2 (show bootBuiltins "set" = some (.type "set") by decide +kernel) (callWith_type1 (args_cons (thn (he.run held s σ H _ I pre) fun u s1 gives => args_nil ?_) one) one rfl))) rfl) rfl rfl))⟩
  obtain ⟨v, H1, I1, rel, l, xs, rfl, isL, few, q⟩ := gives
  cases (show u = Value.ref l from rel)
  obtain ⟨its, rv, hl, _⟩ := I1.list isL
  have bound : xs.length + 1 < scanBound := Nat.lt_of_le_of_lt (Nat.succ_le_succ few) (by decide)
  have hh : X.A.handled = none := I1.ok.hd calm
  refine set_of_txts hh hl.isList (by simpa using strsOf rv) bound fun h' tk up kept => args_nil ?_
  obtain ⟨ms, tr, mem, le⟩ := up
  rw [List.take_of_length_le (Nat.le_refl _)] at mem
  have lms : ms.length < scanBound := Nat.lt_of_le_of_lt le (Nat.lt_of_succ_lt bound)
  refine sorted_txts (s := { s1 with heap := h', toks := tk }) tr lms hh fun s' p out c ys kept2 gens os bigger atS isY perm srt => ?_
  have old : ∀ b o, s1.heap.get? b = some o → s'.heap.get? b = some o := fun b o q => kept2 b o (kept b o q)
  obtain ⟨_, atD, _⟩ := id tr.ex
  have ge : s1.heap.objs.size ≤ p := Nat.le_trans (Nat.le_of_lt (Heap.lt_size atD)) bigger
  have free : H1 p = none := I1.hok.fresh ge
  have len : (ys.map V.str).length ≤ sizeLine := by
    rw [List.length_map, perm.length_eq]
    exact Nat.le_trans (Nat.le_of_lt lms) (by rw [sizeLine_eq]; decide)
  have J : Inv X held σ (upd H1 p (.lst (ys.map V.str))) { s1 with heap := s'.heap, gens := s'.gens, drawn := s'.drawn, toks := s'.toks } :=
    I1.call (ch := []) (Un.laid old ge free) (I1.hok.laid old ge ⟨len, out.toList, c, vals_of_strs isY, atS⟩) (by rw [gens]; exact I1.bare) (fun _ z => nomatch z)
  have same : s' = { s1 with heap := s'.heap, gens := s'.gens, drawn := s'.drawn, toks := s'.toks } := by
    obtain ⟨a1, a2, a3, a4, a5⟩ := s'
    obtain rfl : a5 = s1.os := os
    rfl
  rw [same]
  exact ⟨.ref p, _, J, rfl, q ys p (asc_of srt (perm.nodup_iff.mpr tr.nd)) (fun z => (perm.mem_iff).trans (mem z)) free⟩
end
end SC

set_option maxHeartbeats 2000000 -- from here on
/-! sum(..) over a generator expression whose element is any expression of the layer -/
namespace SC
open PySem PySem.Spec PyProof.Rows L2 GenW
open GxR (TabB TabG Tabbed inv_tab sh_eta)
/-- the list in which sum keeps what it has -/
def sob (a : Int) (t : Tok) (c : Nat) : Obj := { cls := .type "list", dict := none, data := .seq #[.int a t] c, slots := #[] }
section
variable {Y : Cx} {go : Addr × Obj} {W : Nat → Nat → List (Addr × Obj) → L2.St → Hp → Prop} {B : Nat → Nat → List (Addr × Obj) → V → L2.St → Hp → Prop} {Dn : List (Addr × Obj) → L2.St → Hp → Prop}
theorem cp_one {S : Addr} {cp : List (Addr × Obj)} {h : Heap} {o : Obj} (e : h.get? S = some o) (hcp : Cp [S] cp) (hs0 : ∀ p ∈ cp, h.get? p.1 = some p.2) : cp = [(S, o)] := by
  unfold Cp at hcp
  cases cp with
  | nil => cases hcp
  | cons p r =>
    rw [List.map_cons, List.cons.injEq, List.map_eq_nil_iff] at hcp
    obtain ⟨rfl, rfl⟩ := hcp
    have := hs0 p List.mem_cons_self
    rw [e] at this
    rw [Option.some.inj this]
/-- sum(..) walks it -/
theorem sum_loop_gen {gi : Nat} {A : Around} {R : Result → Shared → Prop} {S : Addr} {V : Nat → Nat → Int → L2.St → Hp → Prop} {Dv : Int → L2.St → Hp → Prop} (hh : A.handled = none) (hroom : A.depth < recursionLimit) (hgo : ∀ h : Heap, h.get? go.1 = some go.2 → h.IsGen go.1 gi) (nS : cStatics ≠ S) (ngo : S ≠ go.1)
    (hW : ∀ i m a t c σ H, V i m a σ H → W i m [(S, sob a t c)] σ H)
    (hB : ∀ i m y σ H a t c, B i m [(S, sob a t c)] y σ H → ∃ k, y = .int k ∧ InLong k ∧ InLong (a + k) ∧ ∃ m', m' < m ∧ V (i + 1) m' (a + k) σ H)
    (hD : ∀ a t c σ H, Dn [(S, sob a t c)] σ H → Dv a σ H) (hR : ∀ pp a σ H s t, Inv Y pp σ H s → Dv a σ H → R (.ok (.ret (.int a t))) s) :
    ∀ (n : Nat) (s : Shared) (a : Int) (t : Tok) (c : Nat), Asl Y A.in1.in1 go gi [S] W B Dn n s → s.heap.get? S = some (sob a t c) → codeAny (model Y.prog Y.w) A (.builtin "sum.loop" ⟨[.ref go.1, .ref S, rawInt 0, rawInt 0], []⟩) R s := by
  intro n
  induction n using Nat.strongRecOn with
  | ind n ih =>
    intro s a t c al hS
    refine codeAny_builtin F.entry_sum_loop ?_
    rw [Around.under_plainId F.plain_sum_loop _]
    show wpAny _ A.in1 (seqItems? (.ref S) >>= _) _ _ s
    refine wpAny_bind (wpAny_seqItems hS rfl ?_)
    show wpAny _ A.in1 (tryCatch (pyNext (.ref go.1)) _ >>= _) _ _ s
    refine wpAny_bind (wpAny_tryCatch (next_gen (C := A.in1) hh hroom hgo al (fun i m cp y v σ H s' hcp hs0 rv I hb again => ?_) fun cp σ H s' hcp hs0 I dn => ?_))
    · obtain rfl := cp_one hS hcp hs0
      obtain ⟨k, rfl, ⟨f1, f2⟩, ⟨f3, f4⟩, m', hm', w'⟩ := hB i m y σ H a t c hb
      obtain ⟨t2, rfl⟩ : ∃ t2, v = .int k t2 := rv
      have hS' : s'.heap.get? S = some (sob a t c) := (I.pin (S, sob a t c) (List.mem_append_right _ (List.mem_cons_of_mem _ List.mem_cons_self))).1
      have hc : ((decide (-(2 ^ 63) ≤ k) && decide (k < 2 ^ 63)) && (decide (-(2 ^ 63) ≤ a + k) && decide (a + k < 2 ^ 63))) = true := by
        simp only [Bool.and_eq_true, decide_eq_true_eq]
        exact ⟨⟨f1, f2⟩, f3, f4⟩
      show wpAny _ A.in1 (if (_ : Bool) = true then (mkInt (a + k) >>= _) else _) _ _ _
      split
      · refine wpAny_bind (wpAny_mkInt ?_)
        show wpAny _ A.in1 (updateSeq S (fun _ => #[.int (a + k) s'.toks]) >>= _) _ _ _
        refine wpAny_bind ?_
        refine wpAny_updateSeq hS' rfl ?_
        have e2 : (s'.heap.update S (Obj.mapSeq fun _ => #[Value.int (a + k) s'.toks])).get? S = some (sob (a + k) s'.toks _) := Heap.get?_update_self _ hS' rfl
        have oth : ∀ b o, b ≠ S → s'.heap.get? b = some o → (s'.heap.update S (Obj.mapSeq fun _ => #[Value.int (a + k) s'.toks])).get? b = some o := fun b o hb e => (Heap.get?_update_other _ _ (Ne.symm hb)).trans e
        obtain ⟨j, hj, aj⟩ := again { s' with heap := s'.heap.update S (Obj.mapSeq fun _ => #[Value.int (a + k) s'.toks]), toks := s'.toks + 1 } [(S, sob (a + k) s'.toks _)] ⟨rfl, I.bare, fun b o hb e => oth b o (by simpa using hb) e⟩ rfl rfl
          (fun p hp => by rw [List.mem_singleton.mp hp]; exact ⟨e2, fun v z => by cases z⟩)
          (oth _ _ (Ne.symm ngo) (I.pin go (List.mem_append_right _ List.mem_cons_self)).1) (I.nolimit.at fun o e => oth _ _ nS e) m' hm' (hW _ _ _ _ _ _ _ w')
        exact wpAny_pure ⟨plainId_quiet F.plain_sum_loop _, ih j hj _ _ _ _ aj e2⟩
      · rename_i hneg
        exact absurd hc hneg
    · obtain rfl := cp_one hS hcp hs0
      exact wpAny_pure (hR _ a σ H s' t I (hD _ _ _ _ _ dn))
end
end SC
namespace SC
open PySem PySem.Spec PyProof.Rows L2 GenW
open GxR (TabB TabG Tabbed inv_tab sh_eta)
section
variable {X : Cx} {N : List Str} {nt : Nat} {fr : List Nat} {scope : Scope}
theorem sob_inj {S : Addr} {a b : Int} {t u : Tok} {c d : Nat} (h : [(S, sob a t c)] = [(S, sob b u d)]) : a = b := by
  have h := (Prod.mk.inj (List.cons.inj h).1).2
  have h := congrArg Obj.data h
  have h : Data.seq #[Value.int a t] c = Data.seq #[Value.int b u] d := h
  injection h with h _
  have h := congrArg Array.toList h
  injection h with h _
  injection h
/-- the turns of a sum, as a reading -/
def tForS (J : It) (g : TG) (tt : TT) (te : TE) (σ : L2.St) (H : Hp) (Q : VK) : Prop := ∃ V : Nat → Nat → Int → L2.St → Hp → Prop, (∃ m, V 0 m 0 σ H) ∧ ∀ i m a σ H, V i m a σ H →
  (J.stop i H ∧ Q (.int a) H) ∨ (J.go i H ∧ ∃ Nx : Int → L2.St → Hp → Prop, (∀ b σ' H', Nx b σ' H' → ∃ m', m' < m ∧ V (i + 1) m' b σ' H') ∧ ∀ x H', J.yld i H x H' → g x σ H' fun σ2 H2 => tt σ2 H2 fun b H3 =>
    if b = true then te σ2 H3 (fun y H4 => ∃ k, y = .int k ∧ InLong k ∧ InLong (a + k) ∧ Nx (a + k) σ2 H4) else Nx a σ2 H3)
/-- sum(elt for tg in iter if ..); st: the captured names -/
def tSumG (P : Addr) (wi : TI) (g : TG) (tt : TT) (te : TE) (st : L2.St → L2.St) : TE := fun σ H Q => wi σ H fun J H1 => TabG H1 P ∧ ∀ H2, Tabbed P H1 H2 → tForS J g tt te (st σ) H2 Q
theorem pe_sumG {c P : Addr} {elt iter tg : Expr} {ifs : List Expr} {p pos gpos : Pos} {wi : TI} {g : TG} {tt : TT} {te : TE} {k : Nat} (hcalm : X.calm = true) (hr : Room (k + 2) X.A) (hz : X.mg "sum" = none) (TB : TabB X.base X.mg c P) (hcode : X.env.code = .ref c)
    (S : GnS scope) (hfr : freeOk scope X.env.scope = true) (hcap : capOk N nt fr X.N scope X.env.scope = true) (hi : PI X tg iter wi)
    (hg : ∀ C code fp s4 H4, Room k (gxC X N scope C code fp s4 H4).A → PG (gxC X N scope C code fp s4 H4) tg g) (ht : ∀ C code fp s4 H4, Room k (gxC X N scope C code fp s4 H4).A → PTs (gxC X N scope C code fp s4 H4) ifs tt)
    (he : ∀ C code fp s4 H4, Room k (gxC X N scope C code fp s4 H4).A → PE (gxC X N scope C code fp s4 H4) elt te)
    (hs : ∀ v, genFold iter X.env v = pure v) (hgl : Gl X "sum" := by rfl)
    (hse : starEach [.GeneratorExp elt [⟨tg, iter, ifs, 0⟩] scope gpos] X.env = (false, eval (.GeneratorExp elt [⟨tg, iter, ifs, 0⟩] scope gpos) X.env) :: starEach [] X.env := by rfl) :
    PE X (.Call (.Name "sum" p) [.GeneratorExp elt [⟨tg, iter, ifs, 0⟩] scope gpos] [] pos) (tSumG P wi g tt te (capSt nt fr)) := by
  refine ⟨fun pins s σ H Q I h => ?_⟩
  have hh : X.A.handled = none := I.ok.hd hcalm
  refine wpAny_Call_Name_kw (ld_blt I hgl hz (show bootBuiltins "sum" = some (.builtin "sum") by decide +kernel) ?_)
  refine PyProof.Rows.callWith_builtin1 ?_ hse (by rfl)
  rw [hse]
  show wpAny _ _ (spliced ((false, eval (.GeneratorExp elt [⟨tg, iter, ifs, 0⟩] scope gpos) X.env) :: backTo pos (starEach [] X.env))) _ _ s
  refine Calls.spliced_cons (gen_mkI (N := N) (nt := nt) (fr := fr) (R := fun J H2 => tForS J g tt te (capSt nt fr σ) H2 Q) hcalm hr TB hcode S hfr hcap hi hs I h fun J H2 a s5 hR hF => ?_)
  refine Calls.spliced_nil ?_
  obtain ⟨s4, code, fp, it, tn, go, gi, I4, hf, hlt, ha, ha2, T, st5, hgo, hga, hgs, I5⟩ := hF
  obtain ⟨V, ⟨m0, w0⟩, turn⟩ := hR
  have hrA : Room k (gxC X N scope s4.heap.objs.size code fp s4 H2).A := by
    have r1 := hr.dp
    have r2 := hr.un
    have q1 : (gxC X N scope s4.heap.objs.size code fp s4 H2).A.depth = X.A.depth + 1 := rfl
    have q2 : (gxC X N scope s4.heap.objs.size code fp s4 H2).A.units = X.A.units + 1 + 1 + 3 := rfl
    exact ⟨hh, by omega, by omega⟩
  refine call_function_tree F.kind_sum F.plain_sum F.entry_sum (F.args_sum1 _) ?_
  unfold Builtin.«sum»
  simp only [List.length_cons, List.length_nil]
  rw [if_neg (by decide)]
  refine wpAny_bind (wpAny_of_eq (show Builtin.Builtins.bindParams "sum" ["start"] 0 { } = pure [none] from rfl) ?_)
  refine wpAny_bind (wpAny_pyIter_gen (hgo _ hga) ?_)
  refine wpAny_bind (wpAny_mkInt ?_)
  refine wpAny_bind (wpAny_pure ?_)
  simp only [List.forIn_cons, List.forIn_nil]
  refine wpAny_bind (wpAny_bind (wpAny_bind (wpAny_isInstance (T := "int") (b := false) (typeIs_int _ _ _) PySem.sub_int_str ?_)))
  simp only [Bool.false_eq_true, if_false]
  refine wpAny_pure (wpAny_bind (wpAny_bind (wpAny_isInstance (T := "int") (b := false) (typeIs_int _ _ _) PySem.sub_int_bytes ?_)))
  simp only [Bool.false_eq_true, if_false]
  refine wpAny_pure (wpAny_bind (wpAny_bind (wpAny_isInstance (T := "int") (b := false) (typeIs_int _ _ _) PySem.sub_int_bytearray ?_)))
  simp only [Bool.false_eq_true, if_false]
  refine wpAny_pure (wpAny_pure ?_)
  refine wpAny_bind (wpAny_newObj_type ?_)
  have depth : X.A.depth < recursionLimit := by have := hr.dp; omega
  have sz : s4.heap.objs.size < s5.heap.objs.size := Nat.lt_trans ha ha2
  have hn2 : H2 s5.heap.objs.size = none := I5.hok.fresh (Nat.le_refl _)
  have fo := I5.fpOk (Nat.le_refl _) hn2
  have nS : cStatics ≠ s5.heap.objs.size := let ⟨_, b, _⟩ := I5.nolimit; Nat.ne_of_lt b.lt
  have e6 : (s5.heap.push (sob 0 s5.toks 0)).get? s5.heap.objs.size = some (sob 0 s5.toks 0) := Heap.get?_push_size _ rfl
  have I6 : L2.Inv (gxC X N scope s4.heap.objs.size code fp s4 H2) [(a, go)] (capSt nt fr σ) H2 { s5 with heap := s5.heap.push (sob 0 s5.toks 0), toks := s5.toks + 1 } := inv_kept I5 rfl I5.bare fun b o e => Heap.get?_push_of_some _ e
  have I7 := I6.pinned (fp := [s5.heap.objs.size]) (fun b hb => by rw [List.mem_singleton.mp hb]; exact fo) (fun b hb => by rw [List.mem_singleton.mp hb]; exact ⟨_, e6, fun v z => by cases z⟩)
  have ep : pinsAt [s5.heap.objs.size] (s5.heap.push (sob 0 s5.toks 0)) = [(s5.heap.objs.size, sob 0 s5.toks 0)] := by
    unfold pinsAt
    rw [List.filterMap_cons, e6]; rfl
  rw [show pinsAt [s5.heap.objs.size] ({ s5 with heap := s5.heap.push (sob 0 s5.toks 0), toks := s5.toks + 1 } : Shared).heap = _ from ep] at I7
  refine wpAny_pure ⟨plainId_quiet F.plain_sum_loop _, ?_⟩
  refine sum_loop_gen (Y := gxC X N scope s4.heap.objs.size code fp s4 H2) (go := (a, go)) (gi := gi) (S := s5.heap.objs.size) (V := V)
    (W := fun i m cp σ H => ∃ b t c, cp = [(s5.heap.objs.size, sob b t c)] ∧ V i m b σ H)
    (B := fun i m cp y σ H => ∃ b t c k, cp = [(s5.heap.objs.size, sob b t c)] ∧ y = .int k ∧ InLong k ∧ InLong (b + k) ∧ ∃ m', m' < m ∧ V (i + 1) m' (b + k) σ H)
    (Dn := fun cp _ H => ∃ b t c, cp = [(s5.heap.objs.size, sob b t c)] ∧ Q (.int b) H) (Dv := fun b _ H => Q (.int b) H)
    hh depth hgo nS (Nat.ne_of_gt ha2) (fun i m b t c σ H v => ⟨b, t, c, rfl, v⟩) (fun i m y σ H b t c ⟨b2, t2, c2, k, e, q1, q2, q3, q4⟩ => by
      have := sob_inj e; subst this; exact ⟨k, q1, q2, q3, q4⟩) (fun b t c σ H ⟨b2, t2, c2, e, q⟩ => by have := sob_inj e; subst this; exact q)
    (fun pp b σ' H' s' t J' q => ⟨.int b, H', back_to I4 hf J', ⟨_, rfl⟩, q⟩) (m0 + 1) _ 0 s5.toks 0 ⟨hgo _ (Heap.get?_push_of_some _ hga), I6.nolimit, _, hgs, rfl, ?_⟩ e6
  refine seg_turns0 (Y := gxC X N scope s4.heap.objs.size code fp s4 H2) (fp := fp) (tn := tn) (J := J) (tg := tg) (g := g) (tt := tt) (te := te) rfl (fun _ _ z => z) rfl T (hg _ _ _ _ _ hrA) (ht _ _ _ _ _ hrA) (he _ _ _ _ _ hrA) S.co (fun i m cp σ H w => ?_)
    (fun cp H' hcp h0 => stat_of S I4 hf hlt hfr (Nat.le_refl _) (fun p hp => ?_) h0) (fun b hb => ?_) (fun p hp hb => ?_) (fun b hb hb2 => ?_) (Nat.lt_succ_self m0) (cp := [(s5.heap.objs.size, sob 0 s5.toks 0)]) rfl (fun p hp => ?_) (inv_kept I7 rfl (allBare_setGen I7.bare rfl) fun _ _ e => e) (T.keep 0 _ _ st5 fun b hb o e => Heap.get?_push_of_some _ e) (fun b hb => (hf b hb).1) ⟨0, s5.toks, 0, rfl, w0⟩
  · obtain ⟨b, t, c, rfl, v⟩ := w
    rcases turn i m b σ H v with ⟨q1, q2⟩ | ⟨q1, Nt, hN, q2⟩
    · exact .inl ⟨q1, b, t, c, rfl, q2⟩
    · exact .inr ⟨q1, fun y σ' H' => ∃ k, y = .int k ∧ InLong k ∧ InLong (b + k) ∧ Nt (b + k) σ' H', Nt b, fun y σ' H' ⟨k, e, z1, z2, z3⟩ => ⟨b, t, c, k, rfl, e, z1, z2, hN _ _ _ z3⟩, fun σ' H' z => let ⟨m', hm, vv⟩ := hN _ _ _ z; ⟨m', hm, b, t, c, rfl, vv⟩, q2⟩
  · rcases List.mem_cons.mp hp with e | hp
    · rw [e]; exact Nat.le_of_lt ha
    · have h1 : p.1 ∈ cp.map (·.1) := List.mem_map_of_mem hp
      rw [hcp] at h1
      rw [List.mem_singleton.mp h1]; exact Nat.le_of_lt sz
  · rw [List.mem_singleton.mp hb]
    exact ⟨Nat.le_of_lt sz, fo.2.2.2.2.1⟩
  · exact fo.2.2.2.2.2 p hp (List.mem_singleton.mp hb)
  · rw [List.mem_singleton.mp hb2] at hb
    exact absurd (Nat.lt_trans (hlt _ hb) sz) (Nat.lt_irrefl _)
  · rw [List.mem_singleton.mp hp]; exact e6
theorem sum_tup {K : PySem.W.Frag} {a : Addr} {xs : List L2.V} {g : TG} {tt : TT} {te : TE} {σ : L2.St} {H : Hp} {Q : VK} (Pv : Nat → Int → L2.St → Hp → Prop) (h0 : Pv 0 0 σ H) (hl : ∀ i b σ H, i ≤ xs.length → Pv i b σ H → SqT K H a xs)
    (hs : ∀ i b x σ H, xs[i]? = some x → Pv i b σ H → g x σ H fun σ2 H2 => tt σ2 H2 fun c H3 => if c = true then te σ2 H3 (fun y H4 => ∃ k, y = .int k ∧ InLong k ∧ InLong (b + k) ∧ Pv (i + 1) (b + k) σ2 H4) else Pv (i + 1) b σ2 H3)
    (hd : ∀ b σ H, Pv xs.length b σ H → Q (.int b) H) : tForS (Itt K a) g tt te σ H Q := by
  refine ⟨fun i m b σ H => m = xs.length - i ∧ i ≤ xs.length ∧ Pv i b σ H, ⟨xs.length, by simp, Nat.zero_le _, h0⟩, ?_⟩
  rintro i m b σ H ⟨rfl, hi, p⟩
  have q := hl i b σ H hi p
  by_cases hlt : i < xs.length
  · refine .inr ⟨⟨xs, xs[i], q, by simp [hlt]⟩, Pv (i + 1), fun b' σ' H' p' => ⟨xs.length - (i + 1), by omega, rfl, hlt, p'⟩, fun x H' y => ?_⟩
    obtain ⟨e, y⟩ := y
    subst e
    exact hs i b x σ _ (y xs q) p
  · have e : i = xs.length := by omega
    subst e
    exact .inl ⟨⟨xs, q, Nat.le_refl _⟩, hd b σ H p⟩
end
end SC

/-! values as data: documents that are drawn, and what is spoilt in them; x * n of texts, t[::-1] of tuples -/
namespace SC
open PySem L2
mutual
/-- a value of the tracked heap, as data -/
inductive Rq (H : Hp) : V → PyData → Prop
  | non : Rq H .non .none
  | bl (b : Bool) : Rq H (.bl b) (.bool b)
  | int (i : Int) : Rq H (.int i) (.int i)
  | str (z : Str) : Rq H (.str z) (.str z)
  | lst {a : Addr} {xs : List V} {ds : List PyData} : H a = some (.lst xs) → RqA H xs ds → Rq H (.ref a) (.list ds)
  | tup {a : Addr} {xs : List V} {ds : List PyData} : H a = some (.tup xs) → RqA H xs ds → Rq H (.ref a) (.tuple ds)
inductive RqA (H : Hp) : List V → List PyData → Prop
  | nil : RqA H [] []
  | cons {v : V} {vs : List V} {d : PyData} {ds : List PyData} : Rq H v d → RqA H vs ds → RqA H (v :: vs) (d :: ds)
end
def tyD : PyData → String
  | .none => "NoneType" | .bool _ => "bool" | .int _ => "int" | .str _ => "str" | .list _ => "list" | .tuple _ => "tuple" | .dict _ => "dict"
theorem Rq.ty {H : Hp} {v : V} {d : PyData} (h : Rq H v d) : tyN H v = some (tyD d) := by
  cases h with
  | lst e _ => exact tyN_lst e
  | tup e _ => exact tyN_tup e
  | _ => rfl
theorem Rq.tyx {H : Hp} {v : V} {d : PyData} (h : Rq H v d) : ∃ t, tyN H v = some t := ⟨_, h.ty⟩
theorem RqA.len {H : Hp} : ∀ {xs : List V} {ds : List PyData}, RqA H xs ds → xs.length = ds.length
  | _, _, .nil => rfl
  | _, _, .cons _ h => congrArg (· + 1) h.len
theorem RqA.app {H : Hp} : ∀ {xs ys : List V} {ds es : List PyData}, RqA H xs ds → RqA H ys es → RqA H (xs ++ ys) (ds ++ es)
  | _, _, _, _, .nil, h => h
  | _, _, _, _, .cons a b, h => .cons a (b.app h)
theorem RqA.get {H : Hp} : ∀ {xs : List V} {ds : List PyData} {i : Nat} {x : V}, RqA H xs ds → xs[i]? = some x → ∃ d, ds[i]? = some d ∧ Rq H x d
  | _, _, _, _, .nil, h => by simp at h
  | _, _, 0, _, .cons a _, h => by
    have e := Option.some.inj h
    subst e
    exact ⟨_, rfl, a⟩
  | _, _, i + 1, _, .cons _ b, h => b.get (i := i) h
theorem RqA.at {H : Hp} {xs : List V} {ds : List PyData} (r : RqA H xs ds) {i : Nat} (h : i < ds.length) : ∃ x, xs[i]? = some x ∧ Rq H x (ds.getD i .none) := by
  obtain ⟨d, e, q⟩ := r.get (i := i) (x := xs[i]'(by rw [r.len]; exact h)) (List.getElem?_eq_getElem _)
  refine ⟨_, List.getElem?_eq_getElem (by rw [r.len]; exact h), ?_⟩
  rw [List.getD_eq_getElem?_getD, e]
  exact q
theorem RqA.ix {H : Hp} {xs : List V} {ds : List PyData} (r : RqA H xs ds) {i : Nat} (h : i < ds.length) : ∃ x, atI xs (i : Int) = some x ∧ Rq H x (ds.getD i .none) :=
  let ⟨x, e, q⟩ := r.at h
  ⟨x, atI_nat e, q⟩
theorem RqA.take {H : Hp} : ∀ {xs : List V} {ds : List PyData} (n : Nat), RqA H xs ds → RqA H (xs.take n) (ds.take n)
  | _, _, 0, _ => .nil
  | _, _, _ + 1, .nil => .nil
  | _, _, n + 1, .cons a b => .cons a (b.take n)
theorem RqA.drop {H : Hp} : ∀ {xs : List V} {ds : List PyData} (n : Nat), RqA H xs ds → RqA H (xs.drop n) (ds.drop n)
  | _, _, 0, h => h
  | _, _, _ + 1, .nil => .nil
  | _, _, n + 1, .cons _ b => b.drop n
theorem RqA.rev {H : Hp} : ∀ {xs : List V} {ds : List PyData}, RqA H xs ds → RqA H xs.reverse ds.reverse
  | _, _, .nil => .nil
  | _, _, .cons a b => by
    rw [List.reverse_cons, List.reverse_cons]
    exact b.rev.app (.cons a .nil)
mutual
theorem Rq.tabs {Ts : List Addr} {H H' : Hp} (k : Kp Ts H H') (g : Tabs Ts H) : ∀ {v : V} {d : PyData}, Rq H v d → Rq H' v d
  | _, _, .non => .non
  | _, _, .bl b => .bl b
  | _, _, .int i => .int i
  | _, _, .str z => .str z
  | _, _, .lst e r => .lst (k.get g e) (r.tabs k g)
  | _, _, .tup e r => .tup (k.tup _ _ e) (r.tabs k g)
theorem RqA.tabs {Ts : List Addr} {H H' : Hp} (k : Kp Ts H H') (g : Tabs Ts H) : ∀ {vs : List V} {ds : List PyData}, RqA H vs ds → RqA H' vs ds
  | _, _, .nil => .nil
  | _, _, .cons a b => .cons (a.tabs k g) (b.tabs k g)
end
theorem tabs_nil {H : Hp} : Tabs [] H := fun _ m => absurd m List.not_mem_nil
theorem Rq.kp0 {H H' : Hp} {v : V} {d : PyData} (h : Rq H v d) (k : Kp [] H H') : Rq H' v d := h.tabs k tabs_nil
theorem RqA.kp0 {H H' : Hp} {v : List V} {d : List PyData} (h : RqA H v d) (k : Kp [] H H') : RqA H' v d := h.tabs k tabs_nil
mutual
theorem Rq.dp {K : PySem.W.Frag} {H : Hp} : ∀ {v : V} {d : PyData}, Rq H v d → Dp K H v d
  | _, _, .non => .non
  | _, _, .bl b => .bl b
  | _, _, .int i => .int i
  | _, _, .str z => .str z
  | _, _, .lst e r => .lst (SqL.of e) r.dp
  | _, _, .tup e r => .tup (SqT.of e) r.dp
theorem RqA.dp {K : PySem.W.Frag} {H : Hp} : ∀ {vs : List V} {ds : List PyData}, RqA H vs ds → DpAll K H vs ds
  | _, _, .nil => .nil
  | _, _, .cons a b => .cons a.dp b.dp
end
mutual
/-- sizes of what is spoilt -/
def okD (n : Nat) : PyData → Bool
  | .none => true
  | .bool _ => true
  | .int i => decide (-99999999999999999999 ≤ i) && decide (i ≤ 99999999999999999999)
  | .str z => decide (z.length ≤ 200000) && PyData.strOk z
  | .list ds => match n with
    | 0 => false
    | m + 1 => decide (ds.length ≤ 200000) && okDs m ds
  | .tuple ds => match n with
    | 0 => false
    | m + 1 => decide (ds.length ≤ 200000) && okDs m ds
  | .dict _ => false
def okDs (n : Nat) : List PyData → Bool
  | [] => true
  | d :: ds => okD n d && okDs n ds
end
mutual
/-- what a law draws: ints, texts, tuples -/
def inD (n : Nat) : PyData → Bool
  | .int i => decide (0 ≤ i) && decide (i ≤ 1000000000000)
  | .str z => decide (z.length ≤ 100) && z.cps.toList.all fun c => decide (c < 128)
  | .tuple ds => match n with
    | 0 => false
    | m + 1 => decide (ds.length ≤ 100) && inDs m ds
  | _ => false
def inDs (n : Nat) : List PyData → Bool
  | [] => true
  | d :: ds => inD n d && inDs n ds
end
theorem okDs_all {n : Nat} : ∀ {ds : List PyData}, okDs n ds = true ↔ ∀ d ∈ ds, okD n d = true
  | [] => ⟨fun _ d m => absurd m List.not_mem_nil, fun _ => rfl⟩
  | d :: ds => by
    show (okD n d && okDs n ds) = true ↔ _
    rw [Bool.and_eq_true, okDs_all (ds := ds), List.forall_mem_cons]
theorem inDs_all {n : Nat} : ∀ {ds : List PyData}, inDs n ds = true ↔ ∀ d ∈ ds, inD n d = true
  | [] => ⟨fun _ d m => absurd m List.not_mem_nil, fun _ => rfl⟩
  | d :: ds => by
    show (inD n d && inDs n ds) = true ↔ _
    rw [Bool.and_eq_true, inDs_all (ds := ds), List.forall_mem_cons]
theorem okD_tup {n : Nat} {ds : List PyData} : okD (n + 1) (.tuple ds) = true ↔ ds.length ≤ 200000 ∧ ∀ d ∈ ds, okD n d = true := by
  show (decide (ds.length ≤ 200000) && okDs n ds) = true ↔ _
  rw [Bool.and_eq_true, decide_eq_true_eq, okDs_all]
theorem okD_lst {n : Nat} {ds : List PyData} : okD (n + 1) (.list ds) = true ↔ ds.length ≤ 200000 ∧ ∀ d ∈ ds, okD n d = true := by
  show (decide (ds.length ≤ 200000) && okDs n ds) = true ↔ _
  rw [Bool.and_eq_true, decide_eq_true_eq, okDs_all]
theorem inD_tup {n : Nat} {ds : List PyData} : inD (n + 1) (.tuple ds) = true ↔ ds.length ≤ 100 ∧ ∀ d ∈ ds, inD n d = true := by
  show (decide (ds.length ≤ 100) && inDs n ds) = true ↔ _
  rw [Bool.and_eq_true, decide_eq_true_eq, inDs_all]
theorem okD_str {n : Nat} {z : Str} : okD n (.str z) = true ↔ z.length ≤ 200000 ∧ PyData.strOk z = true := by
  rw [show okD n (.str z) = (decide (z.length ≤ 200000) && PyData.strOk z) by cases n <;> rfl, Bool.and_eq_true, decide_eq_true_eq]
theorem okD_int {n : Nat} {i : Int} : okD n (.int i) = true ↔ -99999999999999999999 ≤ i ∧ i ≤ 99999999999999999999 := by
  rw [show okD n (.int i) = (decide (-99999999999999999999 ≤ i) && decide (i ≤ 99999999999999999999)) by cases n <;> rfl, Bool.and_eq_true, decide_eq_true_eq, decide_eq_true_eq]
theorem inD_str {n : Nat} {z : Str} : inD n (.str z) = true ↔ z.length ≤ 100 ∧ ∀ c ∈ z.cps.toList, c < 128 := by
  rw [show inD n (.str z) = (decide (z.length ≤ 100) && z.cps.toList.all fun c => decide (c < 128)) by cases n <;> rfl, Bool.and_eq_true, decide_eq_true_eq, List.all_eq_true]
  simp only [decide_eq_true_eq]
theorem inD_int {n : Nat} {i : Int} : inD n (.int i) = true ↔ 0 ≤ i ∧ i ≤ 1000000000000 := by
  rw [show inD n (.int i) = (decide (0 ≤ i) && decide (i ≤ 1000000000000)) by cases n <;> rfl, Bool.and_eq_true, decide_eq_true_eq, decide_eq_true_eq]
theorem strOk_low {z : Str} (h : ∀ c ∈ z.cps.toList, c < 128) : PyData.strOk z = true := by
  unfold PyData.strOk
  rw [← Array.all_toList, List.all_eq_true]
  exact fun c hc => decide_eq_true (Nat.lt_of_lt_of_le (h c hc) (by decide))
mutual
theorem in_ok : ∀ (n : Nat) (d : PyData), inD n d = true → okD n d = true
  | n, .int i, h => okD_int.mpr (by have := inD_int.mp h; omega)
  | n, .str z, h => okD_str.mpr ⟨by have := (inD_str.mp h).1; omega, strOk_low (inD_str.mp h).2⟩
  | 0, .tuple _, h => by cases h
  | n + 1, .tuple ds, h => by
    have q : (decide (ds.length ≤ 100) && inDs n ds) = true := h
    rw [Bool.and_eq_true, decide_eq_true_eq] at q
    show (decide (ds.length ≤ 200000) && okDs n ds) = true
    rw [decide_eq_true (by omega), ins_ok n ds q.2]; rfl
  | n, .none, h => by cases n <;> cases h
  | n, .bool _, h => by cases n <;> cases h
  | n, .list _, h => by cases n <;> cases h
  | n, .dict _, h => by cases n <;> cases h
theorem ins_ok : ∀ (n : Nat) (ds : List PyData), inDs n ds = true → okDs n ds = true
  | _, [], _ => rfl
  | n, d :: ds, h => by
    have h : (inD n d && inDs n ds) = true := h
    rw [Bool.and_eq_true] at h
    show (okD n d && okDs n ds) = true
    rw [in_ok n d h.1, ins_ok n ds h.2]; rfl
end
mutual
theorem ok_mono : ∀ (n m : Nat) (d : PyData), n ≤ m → okD n d = true → okD m d = true
  | n, m, .int i, _, h => okD_int.mpr (okD_int.mp h)
  | n, m, .str z, _, h => okD_str.mpr (okD_str.mp h)
  | _, m, .none, _, _ => by cases m <;> rfl
  | _, m, .bool _, _, _ => by cases m <;> rfl
  | 0, _, .tuple _, _, h => by cases h
  | 0, _, .list _, _, h => by cases h
  | n + 1, 0, .tuple _, q, _ => by omega
  | n + 1, 0, .list _, q, _ => by omega
  | n + 1, m + 1, .tuple ds, q, h => by
    have z : (decide (ds.length ≤ 200000) && okDs n ds) = true := h
    rw [Bool.and_eq_true] at z
    show (decide (ds.length ≤ 200000) && okDs m ds) = true
    rw [z.1, oks_mono n m ds (by omega) z.2]; rfl
  | n + 1, m + 1, .list ds, q, h => by
    have z : (decide (ds.length ≤ 200000) && okDs n ds) = true := h
    rw [Bool.and_eq_true] at z
    show (decide (ds.length ≤ 200000) && okDs m ds) = true
    rw [z.1, oks_mono n m ds (by omega) z.2]; rfl
  | n, _, .dict _, _, h => by cases n <;> cases h
theorem oks_mono : ∀ (n m : Nat) (ds : List PyData), n ≤ m → okDs n ds = true → okDs m ds = true
  | _, _, [], _, _ => rfl
  | n, m, d :: ds, q, h => by
    have h : (okD n d && okDs n ds) = true := h
    rw [Bool.and_eq_true] at h
    show (okD m d && okDs m ds) = true
    rw [ok_mono n m d q h.1, oks_mono n m ds q h.2]; rfl
end
mutual
theorem ok_lay : ∀ (n : Nat) (d : PyData), okD n d = true → PyData.canLay0 d = true ∧ PyData.depth d ≤ n
  | n, .int _, _ => ⟨by simp [PyData.canLay0], by simp [PyData.depth]⟩
  | n, .str z, h => ⟨by simp [PyData.canLay0, (okD_str.mp h).2], by simp [PyData.depth]⟩
  | n, .none, _ => ⟨by simp [PyData.canLay0], by simp [PyData.depth]⟩
  | n, .bool _, _ => ⟨by simp [PyData.canLay0], by simp [PyData.depth]⟩
  | 0, .tuple _, h => by cases h
  | 0, .list _, h => by cases h
  | n + 1, .tuple ds, h => by
    have z : (decide (ds.length ≤ 200000) && okDs n ds) = true := h
    rw [Bool.and_eq_true] at z
    obtain ⟨a, b⟩ := oks_lay n ds z.2
    exact ⟨by simp [PyData.canLay0, a], by simp only [PyData.depth]; omega⟩
  | n + 1, .list ds, h => by
    have z : (decide (ds.length ≤ 200000) && okDs n ds) = true := h
    rw [Bool.and_eq_true] at z
    obtain ⟨a, b⟩ := oks_lay n ds z.2
    exact ⟨by simp [PyData.canLay0, a], by simp only [PyData.depth]; omega⟩
  | n, .dict _, h => by cases n <;> cases h
theorem oks_lay : ∀ (n : Nat) (ds : List PyData), okDs n ds = true → PyData.canLayAll0 ds = true ∧ PyData.depthAll ds ≤ n
  | n, [], _ => ⟨by simp [PyData.canLayAll0], by simp [PyData.depthAll]⟩
  | n, d :: ds, h => by
    have h : (okD n d && okDs n ds) = true := h
    rw [Bool.and_eq_true] at h
    obtain ⟨a1, a2⟩ := ok_lay n d h.1
    obtain ⟨b1, b2⟩ := oks_lay n ds h.2
    exact ⟨by simp [PyData.canLayAll0, a1, b1], by simp only [PyData.depthAll]; omega⟩
end
theorem ok_shaped {n : Nat} {d : PyData} (h : okD n d = true) (hn : n ≤ 64) : SeqAt.shaped d = true := by
  obtain ⟨a, b⟩ := ok_lay n d h
  unfold SeqAt.shaped
  rw [a, decide_eq_true (by omega)]; rfl
mutual
theorem Rq.pur {S : List Addr} {H H' : Hp} (k : Kp S H H') : ∀ (n : Nat) {v : V} {d : PyData}, Rq H v d → inD n d = true → Rq H' v d
  | _, _, _, .int i, _ => .int i
  | _, _, _, .str z, _ => .str z
  | 0, _, _, .tup _ _, h => by cases h
  | n + 1, _, _, .tup (ds := ds) e r, h => by
    have z : (decide (ds.length ≤ 100) && inDs n ds) = true := h
    rw [Bool.and_eq_true] at z
    exact .tup (k.tup _ _ e) (r.pur k n z.2)
  | n, _, _, .non, h => by cases n <;> cases h
  | n, _, _, .bl _, h => by cases n <;> cases h
  | n, _, _, .lst _ _, h => by cases n <;> cases h
theorem RqA.pur {S : List Addr} {H H' : Hp} (k : Kp S H H') : ∀ (n : Nat) {vs : List V} {ds : List PyData}, RqA H vs ds → inDs n ds = true → RqA H' vs ds
  | _, _, _, .nil, _ => .nil
  | n, _, _, .cons (d := d) (ds := ds) a b, h => by
    have h : (inD n d && inDs n ds) = true := h
    rw [Bool.and_eq_true] at h
    exact .cons (a.pur k n h.1) (b.pur k n h.2)
end
mutual
/-- no list within -/
def purD : PyData → Bool
  | .list _ => false
  | .dict _ => false
  | .tuple ds => purDs ds
  | _ => true
def purDs : List PyData → Bool
  | [] => true
  | d :: ds => purD d && purDs ds
end
theorem purDs_all : ∀ {ds : List PyData}, purDs ds = true ↔ ∀ d ∈ ds, purD d = true
  | [] => ⟨fun _ d m => absurd m List.not_mem_nil, fun _ => rfl⟩
  | d :: ds => by
    show (purD d && purDs ds) = true ↔ _
    rw [Bool.and_eq_true, purDs_all (ds := ds), List.forall_mem_cons]
theorem purD_tup {ds : List PyData} : purD (.tuple ds) = true ↔ ∀ d ∈ ds, purD d = true := by
  show purDs ds = true ↔ _
  exact purDs_all
mutual
theorem in_pur : ∀ (n : Nat) (d : PyData), inD n d = true → purD d = true
  | _, .int _, _ => rfl
  | _, .str _, _ => rfl
  | 0, .tuple _, h => by cases h
  | n + 1, .tuple ds, h => by
    have q : (decide (ds.length ≤ 100) && inDs n ds) = true := h
    rw [Bool.and_eq_true, decide_eq_true_eq] at q
    exact ins_pur n ds q.2
  | _, .none, _ => rfl
  | _, .bool _, _ => rfl
  | n, .list _, h => by cases n <;> cases h
  | n, .dict _, h => by cases n <;> cases h
theorem ins_pur : ∀ (n : Nat) (ds : List PyData), inDs n ds = true → purDs ds = true
  | _, [], _ => rfl
  | n, d :: ds, h => by
    have h : (inD n d && inDs n ds) = true := h
    rw [Bool.and_eq_true] at h
    show (purD d && purDs ds) = true
    rw [in_pur n d h.1, ins_pur n ds h.2]; rfl
end
mutual
theorem Rq.pure {S : List Addr} {H H' : Hp} (k : Kp S H H') : ∀ {v : V} {d : PyData}, Rq H v d → purD d = true → Rq H' v d
  | _, _, .int i, _ => .int i
  | _, _, .str z, _ => .str z
  | _, _, .non, _ => .non
  | _, _, .bl b, _ => .bl b
  | _, _, .tup e r, h => .tup (k.tup _ _ e) (r.pure k h)
  | _, _, .lst _ _, h => by cases h
theorem RqA.pure {S : List Addr} {H H' : Hp} (k : Kp S H H') : ∀ {vs : List V} {ds : List PyData}, RqA H vs ds → purDs ds = true → RqA H' vs ds
  | _, _, .nil, _ => .nil
  | _, _, .cons (d := d) (ds := ds) a b, h => by
    have h : (purD d && purDs ds) = true := h
    rw [Bool.and_eq_true] at h
    exact .cons (a.pure k h.1) (b.pure k h.2)
end
/-! the parts of a value -/
def tupB (a b : Nat) : PyData → Bool
  | .tuple ds => decide (a ≤ ds.length) && decide (ds.length ≤ b)
  | _ => false
def itD : PyData → List PyData
  | .tuple ds => ds
  | _ => []
def ixD (d : PyData) (i : Nat) : PyData := (itD d).getD i .none
def numB (lo hi : Int) : PyData → Bool
  | .int i => decide (lo ≤ i) && decide (i ≤ hi)
  | _ => false
def strD : PyData → Str
  | .str z => z
  | _ => Str.empty
def isS : PyData → Bool
  | .str _ => true
  | _ => false
def eqS (s : Str) : PyData → Bool
  | .str z => decide (z = s)
  | _ => false
theorem eqv_strS (s : Str) : ∀ d : PyData, PyData.eqv d (.str s) = eqS s d
  | .str z => by
    show (z == s) = decide (z = s)
    rw [Bool.eq_iff_iff, beq_iff_eq, decide_eq_true_eq]
  | .none => rfl
  | .bool _ => rfl
  | .int _ => rfl
  | .list _ => rfl
  | .tuple _ => rfl
  | .dict _ => rfl
theorem tupB_of {a b : Nat} {H : Hp} {v : V} {d : PyData} (r : Rq H v d) (h : tupB a b d = true) : ∃ (p : Addr) (xs : List V) (ds : List PyData), v = .ref p ∧ H p = some (.tup xs) ∧ d = .tuple ds ∧ RqA H xs ds ∧ a ≤ ds.length ∧ ds.length ≤ b := by
  cases r with
  | tup e r =>
    rename_i p xs ds
    have h : (decide (a ≤ ds.length) && decide (ds.length ≤ b)) = true := h
    rw [Bool.and_eq_true, decide_eq_true_eq, decide_eq_true_eq] at h
    exact ⟨_, _, _, rfl, e, rfl, r, h.1, h.2⟩
  | _ => cases h
theorem isS_of {H : Hp} {v : V} {d : PyData} (r : Rq H v d) (h : isS d = true) : ∃ z, v = .str z ∧ d = .str z := by
  cases r with
  | str z => exact ⟨z, rfl, rfl⟩
  | _ => cases h
theorem numB_of {lo hi : Int} {H : Hp} {v : V} {d : PyData} (r : Rq H v d) (h : numB lo hi d = true) : ∃ i, v = .int i ∧ d = .int i ∧ lo ≤ i ∧ i ≤ hi := by
  cases r with
  | int i =>
    have h : (decide (lo ≤ i) && decide (i ≤ hi)) = true := h
    rw [Bool.and_eq_true, decide_eq_true_eq, decide_eq_true_eq] at h
    exact ⟨i, rfl, rfl, h.1, h.2⟩
  | _ => cases h
theorem rqa_strs {H : Hp} : ∀ {xs : List V} {ds : List PyData}, RqA H xs ds → (∀ d ∈ ds, isS d = true) → xs = (ds.map strD).map V.str
  | _, _, .nil, _ => rfl
  | _, _, .cons a b, h => by
    obtain ⟨z, rfl, rfl⟩ := isS_of a (h _ List.mem_cons_self)
    rw [rqa_strs b fun d m => h d (List.mem_cons_of_mem _ m)]
    rfl
theorem getD_mem {ds : List PyData} {i : Nat} (h : i < ds.length) : ds.getD i .none ∈ ds := by
  rw [List.getD_eq_getElem?_getD, List.getElem?_eq_getElem h]
  exact List.getElem_mem h
/-- all(p(x) for x in a tuple), p a promise -/
theorem all_rq {K : PySem.W.Frag} {Ts : List Addr} {b : Addr} {xs : List V} {ds : List PyData} {f : PyData → Bool} {te : TE} {D : Ends} {H2 : Hp} {o : Option V} {cap : L2.St} (eb : H2 b = some (.tup xs)) (r : RqA H2 xs ds) (g : Tabs Ts H2)
    (step : ∀ (x : V) (d : PyData) (H' : Hp) (R : VK), Rq H' x d → d ∈ ds → Kp Ts H2 H' → Tabs Ts H' → (∀ H'', Kp Ts H' H'' → Tabs Ts H'' → R (.bl (f d)) H'') → te (some x :: cap) H' R)
    (qf : ∀ H', Kp Ts H2 H' → Tabs Ts H' → ds.all f = false → D.rt (.bl false) H') (qt : ∀ σ H', Kp Ts H2 H' → Tabs Ts H' → ds.all f = true → D.nx σ H') :
    tForB (Itt K b) (gName 0) (tbAll tYes te) D (o :: cap) H2 := by
  refine for_tup (K := K) (a := b) (xs := xs) (fun i σ H' => (∃ o : Option V, σ = o :: cap) ∧ Kp Ts H2 H' ∧ Tabs Ts H' ∧ (ds.take i).all f = true)
    ⟨⟨_, rfl⟩, Kp.refl _ _, g, rfl⟩ (fun i σ H' _ ⟨_, k, _, _⟩ => SqT.of (k.get g eb)) (fun i x σ H' hx ⟨⟨o, hσ⟩, k3, g3, ha⟩ => ?_) (fun σ H' ⟨⟨o, hσ⟩, k3, g3, ha⟩ => ?_)
  · subst hσ
    obtain ⟨d, hd, Rd⟩ := r.get hx
    have tk : ds.take (i + 1) = ds.take i ++ [d] := by rw [List.take_add_one, hd]; rfl
    have md := List.mem_of_getElem? hd
    unfold tbAll
    simp only [tYes, if_true, gName, List.set_cons_zero]
    refine step x d H' _ (Rd.tabs k3 g) md k3 g3 fun H4 k4 g4 => ⟨_, rfl, ?_⟩
    cases hb : f d with
    | true =>
      rw [if_pos rfl]
      exact ⟨⟨_, rfl⟩, k3.trans k4, g4, by rw [tk, List.all_append, ha]; simp [hb]⟩
    | false =>
      rw [if_neg (by decide)]
      have e : ds.all f = false := by
        rw [List.all_eq_false]
        exact ⟨d, md, by rw [hb]; decide⟩
      exact qf H4 (k3.trans k4) g4 e
  · rw [r.len, List.take_length] at ha
    exact qt _ H' k3 g3 ha
section
variable {X : Cx}
/-- x * n of a text -/
theorem op_mulN8 : OpR X (binaryOp .Mult) (fun x y H Q => ∃ (z : Str) (n : Int), x = .str z ∧ y = .int n ∧ z.length ≤ 1000 ∧ 2 ≤ n ∧ n ≤ 1000 ∧ ∀ u : Str, u.length ≤ z.length * n.toNat → (∀ c ∈ u.cps.toList, c ∈ z.cps.toList) → Q (.str u) H) := by
  intro pins s σ H x y v u Q I rx ry h
  obtain ⟨z, n, rfl, rfl, hz, n0, n1, q⟩ := h
  obtain ⟨t, rfl⟩ := rx
  obtain ⟨t', rfl⟩ := ry
  have fold : ∀ (k : Nat) (a : Array Nat), ((List.replicate k z.cps).foldl (· ++ ·) a).toList = a.toList ++ (List.replicate k z.cps.toList).flatten := by
    intro k
    induction k with
    | zero => intro a; simp
    | succ k ih => intro a; rw [List.replicate_succ, List.foldl_cons, ih, Array.toList_append, List.replicate_succ, List.flatten_cons, List.append_assoc]
  refine PySem.SB.mul (PyProof.Rows.mulOk_of 1000 1000 hz (by omega) (by omega) (by decide) (by decide)) fun t' k => ⟨.str _, H, I.tok _, ⟨_, rfl⟩, q _ ?_ ?_⟩
  · have e := PyProof.Rows.len_mul z n
    rw [decide_eq_false (by omega)] at e
    have e : ((Txt.mul z n).length : Int) = (z.length : Int) * n := e
    have : n = (n.toNat : Int) := by omega
    rw [this] at e
    have e : (Txt.mul z (n.toNat : Int)).length = z.length * n.toNat := by exact_mod_cast e
    rw [← this] at e
    omega
  · intro c hc
    unfold Txt.mul at hc
    rw [if_neg (by omega)] at hc
    split at hc
    · exact hc
    · rw [fold] at hc
      simp only [List.nil_append, List.mem_flatten, List.mem_replicate] at hc
      obtain ⟨l, ⟨_, e⟩, m⟩ := hc
      rw [e] at m; exact m
end
end SC
namespace SC
open PySem L2
theorem rq2 {H : Hp} {xs : List V} {ds : List PyData} (r : RqA H xs ds) (l : ds.length = 2) : ∃ x0 x1 d0 d1, xs = [x0, x1] ∧ ds = [d0, d1] ∧ Rq H x0 d0 ∧ Rq H x1 d1 := by
  cases r with
  | nil => cases l
  | cons a r =>
  cases r with
  | nil => cases l
  | cons b r =>
  cases r with
  | nil => exact ⟨_, _, _, _, rfl, rfl, a, b⟩
  | cons c r => simp at l
theorem rq3 {H : Hp} {xs : List V} {ds : List PyData} (r : RqA H xs ds) (l : ds.length = 3) : ∃ x0 x1 x2 d0 d1 d2, xs = [x0, x1, x2] ∧ ds = [d0, d1, d2] ∧ Rq H x0 d0 ∧ Rq H x1 d1 ∧ Rq H x2 d2 := by
  cases r with
  | nil => cases l
  | cons a r =>
    obtain ⟨x0, x1, d0, d1, rfl, rfl, b, c⟩ := rq2 r (by simpa using l)
    exact ⟨_, _, _, _, _, _, rfl, rfl, a, b, c⟩
theorem rq4 {H : Hp} {xs : List V} {ds : List PyData} (r : RqA H xs ds) (l : ds.length = 4) : ∃ x0 x1 x2 x3 d0 d1 d2 d3, xs = [x0, x1, x2, x3] ∧ ds = [d0, d1, d2, d3] ∧ Rq H x0 d0 ∧ Rq H x1 d1 ∧ Rq H x2 d2 ∧ Rq H x3 d3 := by
  cases r with
  | nil => cases l
  | cons a r =>
    obtain ⟨x0, x1, x2, d0, d1, d2, rfl, rfl, b, c, d⟩ := rq3 r (by simpa using l)
    exact ⟨_, _, _, _, _, _, _, _, rfl, rfl, a, b, c, d⟩
theorem rq6 {H : Hp} {xs : List V} {ds : List PyData} (r : RqA H xs ds) (l : ds.length = 6) : ∃ x0 x1 x2 x3 x4 x5 d0 d1 d2 d3 d4 d5, xs = [x0, x1, x2, x3, x4, x5] ∧ ds = [d0, d1, d2, d3, d4, d5] ∧ Rq H x0 d0 ∧ Rq H x1 d1 ∧ Rq H x2 d2 ∧ Rq H x3 d3 ∧ Rq H x4 d4 ∧ Rq H x5 d5 := by
  cases r with
  | nil => cases l
  | cons a r =>
  cases r with
  | nil => cases l
  | cons b r =>
    obtain ⟨x0, x1, x2, x3, d0, d1, d2, d3, rfl, rfl, c, d, e, f⟩ := rq4 r (by simpa using l)
    exact ⟨_, _, _, _, _, _, _, _, _, _, _, _, rfl, rfl, a, b, c, d, e, f⟩
theorem atI_memQ {xs : List V} {i : Int} (h0 : 0 ≤ i) (h1 : i < (xs.length : Nat)) : ∃ x, atI xs i = some x ∧ x ∈ xs := by
  obtain ⟨x, hx⟩ : ∃ x, xs[i.toNat]? = some x := ⟨_, List.getElem?_eq_getElem (by omega)⟩
  refine ⟨x, ?_, List.mem_of_getElem? hx⟩
  rw [show i = ((i.toNat : Nat) : Int) by omega]
  exact atI_nat hx
/-- t + u -/
theorem cat_q {K : PySem.W.Frag} {H : Hp} {a b : Addr} {xs ys : List V} {Q : VK} (e : H a = some (.tup xs)) (e2 : H b = some (.tup ys)) (hl : xs.length + ys.length ≤ sizeLine)
    (q : ∀ (z : Addr) (H' : Hp), Kp [] H H' → H' z = some (.tup (xs ++ ys)) → Q (.ref z) H') : rCatA K (.ref a) (.ref b) H Q :=
  ⟨a, b, xs, ys, rfl, rfl, SqT.of e, SqT.of e2, hl, fun h => q b H (Kp.refl _ _) (by rw [h]; exact e2), fun _ h => q a H (Kp.refl _ _) (by rw [h, List.append_nil]; exact e), fun _ _ d hd => q d _ (Kp.new hd _) upd_same⟩
/-- t[lo:hi] -/
theorem sl_q {K : PySem.W.Frag} {H : Hp} {a : Addr} {xs : List V} {lo hi : Option Int} {Q : VK} (e : H a = some (.tup xs)) (q : ∀ (z : Addr) (H' : Hp), Kp [] H H' → H' z = some (.tup (cutV xs lo hi)) → Q (.ref z) H') : rSlA K (.ref a) lo hi H Q := by
  refine ⟨a, xs, rfl, SqT.of e, fun h => q a H (Kp.refl _ _) ?_, fun _ d hd => q d _ (Kp.new hd _) upd_same⟩
  rw [e]
  unfold cutV
  rw [h.1, h.2, List.drop_zero, Nat.sub_zero, List.take_length]
def cutD (ds : List PyData) (lo hi : Option Int) : List PyData := (ds.drop (HT.sIx ds.length 0 lo)).take (HT.sIx ds.length ds.length hi - HT.sIx ds.length 0 lo)
theorem RqA.cut {H : Hp} {xs : List V} {ds : List PyData} (r : RqA H xs ds) (lo hi : Option Int) : RqA H (cutV xs lo hi) (cutD ds lo hi) := by
  unfold cutV cutD
  rw [r.len]
  exact (r.drop _).take _
theorem cutD_mem {ds : List PyData} {lo hi : Option Int} {d : PyData} (h : d ∈ cutD ds lo hi) : d ∈ ds := List.mem_of_mem_drop (List.mem_of_mem_take h)
theorem cutD_len (ds : List PyData) (lo hi : Option Int) : (cutD ds lo hi).length ≤ ds.length := by
  unfold cutD
  rw [List.length_take, List.length_drop]; omega
end SC

/-! t[::-1] of a tuple -/
namespace SC
open PySem PySem.Spec PyProof.Rows HT L2
section
variable {prog : Program} {w : World} {A : Around} {E : Value → Shared → Prop} {s : Shared}
theorem adjust_rev (n : Nat) : Builtin.Slice.sliceAdjust none none (-1) (n : Int) = ((n : Int) - 1, -1) := by
  unfold Builtin.Slice.sliceAdjust
  rfl
theorem places_rev (n : Nat) : Builtin.Slice.slicePlaces ((n : Int) - 1) (-1) (-1) = n := by
  unfold Builtin.Slice.slicePlaces
  have h1 : ¬ ((-1 : Int) > 0) := by decide
  simp only [h1, if_false]
  by_cases h : (n : Int) - 1 > -1
  · rw [if_pos h, show (- -1 : Int) = 1 by decide, Int.ediv_one]; omega
  · rw [if_neg h]; omega
theorem sliceApplied_rev {sl : Addr} {vl vu vs : Value} {n : Nat} {Q : Int × Int × Nat → Shared → Prop} (hs : s.heap.IsSliceOf sl vl vu vs) (pl : IsPart vl none) (pu : IsPart vu none) (ps : IsPart vs (some (-1)))
    (h : Q ((n : Int) - 1, -1, n) s) : wpAny (model prog w) A (Builtin.Slice.sliceApplied (.ref sl) (pure (n : Int))) Q E s := by
  obtain ⟨os, hos, hcs, hds⟩ := id hs
  unfold Builtin.Slice.sliceApplied Builtin.Slice.sliceFields
  refine wpAny_bind (wpAny_bind (wpAny_field hos hds (x := vl) rfl (wpAny_bind (wpAny_field hos hds (x := vu) rfl (wpAny_bind (wpAny_field hos hds (x := vs) rfl (wpAny_pure ?_)))))))
  refine wpAny_bind (slicePart_ ps ?_)
  show wpAny _ _ (if ((-1 : Int) == 0) = true then _ else _) _ _ s
  rw [if_neg (by decide)]
  refine wpAny_bind (slicePart_ pl (wpAny_bind (slicePart_ pu (wpAny_bind (wpAny_pure ?_)))))
  show wpAny _ _ (match Builtin.Slice.sliceAdjust none none (-1) (n : Int) with | (lo, hi) => pure (lo, (-1 : Int), Builtin.Slice.slicePlaces lo hi (-1))) _ _ s
  rw [adjust_rev n]
  show wpAny _ _ (pure ((n : Int) - 1, (-1 : Int), Builtin.Slice.slicePlaces ((n : Int) - 1) (-1) (-1))) _ _ s
  rw [places_rev]
  exact wpAny_pure h
theorem fm_congr {α β : Type} {f g : α → Option β} : ∀ {l : List α}, (∀ a ∈ l, f a = g a) → l.filterMap f = l.filterMap g
  | [], _ => rfl
  | a :: l, h => by
    rw [List.filterMap_cons, List.filterMap_cons, h a List.mem_cons_self, fm_congr fun b m => h b (List.mem_cons_of_mem _ m)]
theorem pick_rev (xs : Array Value) : ((List.range xs.size).filterMap fun (m : Nat) => xs[(((xs.size : Int) - 1) + (m : Int) * -1).toNat]?).toArray = xs.toList.reverse.toArray := by
  have e : (List.range xs.size).filterMap (fun (m : Nat) => xs[(((xs.size : Int) - 1) + (m : Int) * -1).toNat]?) = ((List.range xs.size).map fun k => xs.size - 1 - k).filterMap (xs[·]?) := by
    rw [List.filterMap_map]
    refine fm_congr fun k hk => ?_
    have := List.mem_range.mp hk
    have e2 : (((xs.size : Int) - 1) + (k : Int) * -1).toNat = xs.size - 1 - k := by omega
    show xs[(((xs.size : Int) - 1) + (k : Int) * -1).toNat]? = xs[xs.size - 1 - k]?
    rw [e2]
  rw [e, PySem.W.krv_range, List.filterMap_reverse, PySem.W.krv_all]
theorem getItem_tuple_rev {t sl : Addr} {items : Array Value} {vl vu vs : Value} {Q : Value → Shared → Prop} (ht : IsTup s.heap t items) (hs : s.heap.IsSliceOf sl vl vu vs) (pl : IsPart vl none) (pu : IsPart vu none) (ps : IsPart vs (some (-1)))
    (h : Q (.ref s.heap.objs.size) { s with heap := s.heap.push { cls := .type "tuple", data := .seq items.toList.reverse.toArray } })
    (hsz : items.size ≤ sizeLine) : wpAny (model prog w) A (getItem (.ref t) (.ref sl)) Q E s := by
  have htake : sizeOk (.seq items.toList.reverse.toArray) := by
    show items.toList.reverse.toArray.size ≤ sizeLine
    rw [List.size_toArray, List.length_reverse, Array.length_toList]
    exact hsz
  obtain ⟨os, hos, hcs, hds⟩ := id hs
  have hTs : s.TypeIs (.ref sl) "slice" := ⟨os, hos, hcs⟩
  unfold getItem
  try with_reducible refine wpAny_holding ?_
  first | refine wpAny_bind (wpAny_pure ?_) | skip
  refine wpAny_bind (wpAny_sequenceKey ht.typeIs (by decide) ?_)
  refine wpAny_bind (wpAny_callSpecial?_slot (name := Str.ofString "__getitem__") ht.typeIs PyProof.Rows.slot_tuple_getitem
    (wpAny_call_entry PyProof.Rows.slot_tuple_getitem ht.typeIs entry_tuple_getitem ?_ (args_tuple_getitem _ _)))
  show wpAny _ _ (Builtin.Tuple.tupleItemsOf (.ref t) >>= _) _ _ s
  refine wpAny_bind (tupleItemsOf_ ht ?_)
  refine wpAny_bind (wpAny_typeOf hTs ?_)
  rw [if_pos (by decide)]
  refine wpAny_bind (sliceApplied_rev hs pl pu ps ?_)
  show wpAny _ _ (if (((items.size : Int) - 1) == 0 && (-1 : Int) == 1 && items.size == items.size) = true then _ else _) _ _ s
  rw [if_neg (by
    rw [show ((-1 : Int) == 1) = false by decide, Bool.and_false, Bool.false_and]
    decide), pick_rev]
  first
    | exact wpAny_bind (m := Builtin.Tuple.tupleExact _) (wpAny_newObj_type (wpAny_pure ⟨_, rfl, wpAny_pure h⟩) htake)
    | exact wpAny_bind (m := Builtin.Tuple.tupleExact _) (wpAny_newObj_type (wpAny_bind (wpAny_pure (wpAny_pure ⟨_, rfl, wpAny_pure h⟩))) htake)
    | exact wpAny_bind (wpAny_bind (m := Builtin.Tuple.tupleExact _) (wpAny_newObj_type (wpAny_pure (wpAny_pure ⟨_, rfl, wpAny_pure h⟩)) htake))
    | exact wpAny_bind (wpAny_bind (m := Builtin.Tuple.tupleExact _) (wpAny_newObj_type (wpAny_pure ⟨_, rfl, wpAny_pure h⟩) htake))
end
section
variable {X : Cx}
def tRevT (K : PySem.W.Frag) (te : TE) : TE := fun σ H Q => te σ H fun x H1 => ∃ a xs, x = .ref a ∧ SqT K H1 a xs ∧ ∀ p, H1 p = none → Q (.ref p) (upd H1 p (.tup xs.reverse))
theorem pe_revT {e : Expr} {te : TE} {k : Nat} {p1 p2 p3 pos : Pos} (he : PE X e te) : PE X (.Subscript e (.Slice none none (some (.UnaryOp .USub (.Constant (.int 1) k p1) p2)) p3) pos) (tRevT X.K te) := by
  refine ⟨fun pins s σ H Q I h => ?_⟩
  refine Subscript_ (thn (he.run pins s σ H _ I h) fun v s1 ⟨x, H1, I1, r1, q1⟩ => ?_)
  obtain ⟨a, xs, ex, hx, q⟩ := q1
  subst ex
  cases r1
  have hst : PO X (some (.UnaryOp .USub (.Constant (.int 1) k p1) p2)) (tPart (tUn (rU fun i => .int (-i)) (tC (.int 1)))) := po_some (pe_un un_neg pe_int)
  refine wpAny_Slice (thn (po_none.run pins s1 σ H1 (fun o H2 => o = none ∧ H2 = H1) I1 ⟨rfl, rfl⟩) fun vl s2 ⟨l, H2, I2, pl, el, e2⟩ => ?_)
  subst el e2
  refine thn (po_none.run pins s2 σ H2 (fun o H3 => o = none ∧ H3 = H2) I2 ⟨rfl, rfl⟩) fun vu s3 ⟨u, H3, I3, pu, eu, e3⟩ => ?_
  subst eu e3
  refine thn (hst.run pins s3 σ H3 (fun o H4 => o = some (-1) ∧ H4 = H3) I3 ⟨1, rfl, -1, rfl, rfl, rfl⟩) fun vs s4 ⟨o, H4, I4, ps, eo, e4⟩ => ?_
  subst eo e4
  have I5 : Inv X pins σ H4 { s4 with heap := s4.heap.push { cls := .type "slice", data := .fields #[vl, vu, vs] } } := I4.kept (t' := s4.toks) fun b ob q => Heap.get?_push_of_some _ q
  obtain ⟨its, r, ht, hz⟩ := I5.tuple hx
  have hlen := r.length
  show wpAny (model X.prog X.w) X.A (subscriptTail e (.Slice none none (some (.UnaryOp .USub (.Constant (.int 1) k p1) p2)) p3) (.ref a) (.ref s4.heap.objs.size)) (EP X pins σ Q) X.xe { s4 with heap := s4.heap.push { cls := .type "slice", data := .fields #[vl, vu, vs] } }
  refine tail_any (ops := [.ref a, .ref s4.heap.objs.size]) ht.typeIs (PyProof.Rows.slot_tuple_getitem.lookup) ?_ (by with_unfolding_all rfl)
  refine getItem_tuple_rev ht (Heap.IsSliceOf.new _ vl vu vs) pl pu ps ?_ (by rw [List.size_toArray]; omega)
  refine ⟨.ref _, _, I5.laid (t' := s4.toks) (o := .tup xs.reverse) (fun b ob q => Heap.get?_push_of_some _ q) (Nat.le_refl _) ?_, rfl, q _ (I5.hok.fresh (Nat.le_refl _))⟩
  exact ⟨by rw [List.length_reverse]; exact hz, _, r.reverse, IsTup.new _ _⟩
end
theorem upper_mem {z : Str} {c : Nat} (h : c ∈ (Txt.upper z).cps.toList) : ∃ d ∈ z.cps.toList, c ∈ Unicode.upperOf d := by
  unfold Txt.upper placed at h
  simp only [Array.toList_flatten, List.mem_flatten, List.mem_map, Array.toList_mapIdx] at h
  obtain ⟨l, ⟨a, ha, e⟩, m⟩ := h
  obtain ⟨i, hi, e2⟩ := List.mem_mapIdx.mp ha
  subst e2
  subst e
  exact ⟨_, List.getElem_mem hi, by simpa using m⟩
theorem upper_low : ∀ d < 128, ∀ c ∈ Unicode.upperOf d, c < 1114112 := by decide +kernel
theorem strOk_up {z : Str} (h : ∀ c ∈ z.cps.toList, c < 128) : PyData.strOk (Txt.upper z) = true := by
  unfold PyData.strOk
  rw [← Array.all_toList, List.all_eq_true]
  intro c hc
  obtain ⟨d, md, m⟩ := upper_mem hc
  exact decide_eq_true (upper_low d (h d md) c m)
end SC

/-! any(..) over a generator expression whose element is any expression of the layer -/
namespace SC
open PySem PySem.Spec PyProof.Rows L2 GenW
open GxR (TabB TabG Tabbed inv_tab sh_eta)
def tbAny (tt : TT) (te : TE) : TS := fun D σ H => tt σ H fun b H3 => if b = true then te σ H3 (fun y H4 => ∃ b, y = .bl b ∧ if b = true then D.rt (.bl true) H4 else D.nx σ H4) else D.nx σ H3
def tAnyG (P : Addr) (wi : TI) (g : TG) (tt : TT) (te : TE) (st : L2.St → L2.St) : TE := fun σ H Q => wi σ H fun J H1 => TabG H1 P ∧ ∀ H2, Tabbed P H1 H2 → tForB J g (tbAny tt te) { nx := fun _ H => Q (.bl false) H, rt := Q } (st σ) H2
section
variable {Y : Cx} {A : Around} {go : Addr × Obj} {Sx fp : List Addr} {it : Addr} {tn : Nat → Heap → Prop} {J : It} {tg elt iter : Expr} {ifs : List Expr} {scope : Scope} {gpos : Pos} {g : TG} {tt : TT} {te : TE} {W : Nat → Nat → List (Addr × Obj) → L2.St → Hp → Prop} {B : Nat → Nat → List (Addr × Obj) → V → L2.St → Hp → Prop} {Dn : List (Addr × Obj) → L2.St → Hp → Prop}
theorem any_loop_gen {gi : Nat} {A : Around} {R : Result → Shared → Prop} {Fl : L2.St → Hp → Prop} (hh : A.handled = none) (hroom : A.depth < recursionLimit) (hgo : ∀ h : Heap, h.get? go.1 = some go.2 → h.IsGen go.1 gi)
    (hB : ∀ i m cp y σ H, B i m cp y σ H → ∃ b, y = .bl b ∧ if b = true then Fl σ H else ∃ m', m' < m ∧ W (i + 1) m' [] σ H)
    (hF : ∀ pins σ H s, Inv Y pins σ H s → Fl σ H → R (.ok (.ret (.bool true))) s) (hT : ∀ pins σ H s cp, Inv Y pins σ H s → Dn cp σ H → R (.ok (.ret (.bool false))) s) :
    ∀ (n : Nat) (s : Shared), Asl Y A.in1.in1 go gi [] W B Dn n s → codeAny (model Y.prog Y.w) A (.builtin "any.loop" ⟨[.ref go.1], []⟩) R s := by
  intro n
  induction n using Nat.strongRecOn with
  | ind n ih =>
    intro s a
    refine codeAny_builtin F.entry_any_loop ?_
    rw [Around.under_plainId F.plain_any_loop _]
    show wpAny _ A.in1 (pyNext (.ref go.1) >>= _) _ _ s
    refine wpAny_bind (next_gen (C := A.in1) hh hroom hgo a (fun i m cp y v σ H s' hcp _ rv I hb again => ?_) fun cp σ H s' hcp _ I dn => ?_)
    · obtain ⟨b, rfl, hb'⟩ := hB i m cp y σ H hb
      obtain rfl : v = .bool b := rv
      refine wpAny_bind (wpAny_holding (wpAny_truthy_bool ?_))
      refine wpAny_bind (wpAny_letGo ?_)
      cases b with
      | true =>
        rw [if_pos rfl] at hb'
        simp only [if_true]
        exact wpAny_bind (wpAny_rule (wpAny_pure (hF _ σ H s' I hb')))
      | false =>
        rw [if_neg Bool.false_ne_true] at hb'
        obtain ⟨m', hm', w'⟩ := hb'
        simp only [Bool.false_eq_true, if_false]
        have e0 : cp = [] := by
          have := congrArg List.length hcp
          rw [List.length_map] at this
          exact List.eq_nil_of_length_eq_zero this
        obtain ⟨k, hk, ak⟩ := again s' [] ⟨rfl, I.bare, fun _ _ _ e => e⟩ rfl rfl (fun p hp => nomatch hp) (I.pin go (List.mem_append_right _ List.mem_cons_self)).1 I.nolimit m' hm' w'
        exact wpAny_pure ⟨plainId_quiet F.plain_any_loop _, ih k hk s' ak⟩
    · exact wpAny_bind (wpAny_rule (wpAny_pure (hT _ σ H s' cp I dn)))
end
section
variable {X : Cx} {pins : List (Addr × Obj)} {σ : L2.St} {H : Hp} {s : Shared} {N : List Str} {nt : Nat} {fr : List Nat} {scope : Scope}
theorem pe_anyG {c P : Addr} {elt iter tg : Expr} {ifs : List Expr} {p pos gpos : Pos} {wi : TI} {g : TG} {tt : TT} {te : TE} {k : Nat} (hcalm : X.calm = true) (hr : Room (k + 2) X.A) (hany : X.mg "any" = none) (TB : TabB X.base X.mg c P) (hcode : X.env.code = .ref c)
    (S : GnS scope) (hfr : freeOk scope X.env.scope = true) (hcap : capOk N nt fr X.N scope X.env.scope = true) (hi : PI X tg iter wi)
    (hg : ∀ C code fp s4 H4, Room k (gxC X N scope C code fp s4 H4).A → PG (gxC X N scope C code fp s4 H4) tg g) (ht : ∀ C code fp s4 H4, Room k (gxC X N scope C code fp s4 H4).A → PTs (gxC X N scope C code fp s4 H4) ifs tt)
    (he : ∀ C code fp s4 H4, Room k (gxC X N scope C code fp s4 H4).A → PE (gxC X N scope C code fp s4 H4) elt te)
    (hs : ∀ v, genFold iter X.env v = pure v) (hgl : Gl X "any" := by rfl)
    (hse : starEach [.GeneratorExp elt [⟨tg, iter, ifs, 0⟩] scope gpos] X.env = (false, eval (.GeneratorExp elt [⟨tg, iter, ifs, 0⟩] scope gpos) X.env) :: starEach [] X.env := by rfl) :
    PE X (.Call (.Name "any" p) [.GeneratorExp elt [⟨tg, iter, ifs, 0⟩] scope gpos] [] pos) (tAnyG P wi g tt te (capSt nt fr)) := by
  refine ⟨fun pins s σ H Q I h => ?_⟩
  have hh : X.A.handled = none := I.ok.hd hcalm
  refine wpAny_Call_Name_kw (ld_blt I hgl hany (show bootBuiltins "any" = some (.builtin "any") by decide +kernel) ?_)
  refine PyProof.Rows.callWith_builtin1 ?_ hse (by rfl)
  rw [hse]
  show wpAny _ _ (spliced ((false, eval (.GeneratorExp elt [⟨tg, iter, ifs, 0⟩] scope gpos) X.env) :: backTo pos (starEach [] X.env))) _ _ s
  refine Calls.spliced_cons (gen_mkI (N := N) (nt := nt) (fr := fr) (R := fun J H2 => tForB J g (tbAny tt te) { nx := fun _ H => Q (.bl false) H, rt := Q } (capSt nt fr σ) H2) hcalm hr TB hcode S hfr hcap hi hs I h fun J H2 a s5 hR hF => ?_)
  refine Calls.spliced_nil ?_
  obtain ⟨s4, code, fp, it, tn, go, gi, I4, hf, hlt, ha, ha2, T, st5, hgo, hga, hgs, I5⟩ := hF
  obtain ⟨W, ⟨m0, w0⟩, turn⟩ := hR
  have hrA : Room k (gxC X N scope s4.heap.objs.size code fp s4 H2).A := by
    have r1 := hr.dp
    have r2 := hr.un
    have q1 : (gxC X N scope s4.heap.objs.size code fp s4 H2).A.depth = X.A.depth + 1 := rfl
    have q2 : (gxC X N scope s4.heap.objs.size code fp s4 H2).A.units = X.A.units + 1 + 1 + 3 := rfl
    exact ⟨hh, by omega, by omega⟩
  refine call_function_tree F.kind_any F.plain_any F.entry_any (F.args_any1 _) ?_
  unfold Builtin.«any»
  refine wpAny_bind (m := oneArg "any" _) (wpAny_pure ?_)
  refine wpAny_bind (wpAny_pyIter_gen (hgo _ hga) ?_)
  refine wpAny_pure ⟨plainId_quiet F.plain_any_loop _, ?_⟩
  have depth : X.A.depth < recursionLimit := by have := hr.dp; omega
  refine any_loop_gen (Y := gxC X N scope s4.heap.objs.size code fp s4 H2) (go := (a, go)) (gi := gi) (W := fun i m cp σ H => W i m σ H) (B := fun i m cp y σ H => ∃ b, y = .bl b ∧ if b = true then Q (.bl true) H else ∃ m', m' < m ∧ W (i + 1) m' σ H) (Dn := fun _ _ H => Q (.bl false) H) (Fl := fun _ H => Q (.bl true) H)
    hh depth hgo (fun i m cp y σ H hb => hb) (fun pp σ' H' s' J' q => ⟨.bl true, H', back_to I4 hf J', rfl, q⟩) (fun pp σ' H' s' cp J' q => ⟨.bl false, H', back_to I4 hf J', rfl, q⟩) (m0 + 1) s5 ⟨hgo _ hga, I5.nolimit, _, hgs, rfl, ?_⟩
  refine seg_turns0 (Y := gxC X N scope s4.heap.objs.size code fp s4 H2) (fp := fp) (tn := tn) (J := J) (tg := tg) (g := g) (tt := tt) (te := te) rfl (fun _ _ z => z) rfl T (hg _ _ _ _ _ hrA) (ht _ _ _ _ _ hrA) (he _ _ _ _ _ hrA) S.co (fun i m cp σ H w => ?_)
    (fun cp H' hcp h0 => stat_of S I4 hf hlt hfr (Nat.le_refl _) (fun p hp => ?_) h0) (fun b hb => absurd hb List.not_mem_nil) (fun p hp hb => absurd hb List.not_mem_nil) (fun b hb hb2 => absurd hb2 List.not_mem_nil) (Nat.lt_succ_self m0) (cp := []) rfl (fun p hp => nomatch hp) (inv_kept I5 rfl (allBare_setGen I5.bare rfl) fun _ _ e => e) st5 (fun b hb => (hf b hb).1) w0
  · rcases turn i m σ H w with ⟨q1, q2⟩ | ⟨q1, Nt, hN, q2⟩
    · exact .inl ⟨q1, q2⟩
    · refine .inr ⟨q1, fun y σ' H' => ∃ b, y = .bl b ∧ if b = true then Q (.bl true) H' else Nt σ' H', Nt, fun y σ' H' ⟨b, e, z⟩ => ⟨b, e, ?_⟩, hN, q2⟩
      cases b with
      | true => rw [if_pos rfl] at z ⊢; exact z
      | false => rw [if_neg Bool.false_ne_true] at z ⊢; exact hN _ _ z
  · have e0 : cp = [] := by
      have := congrArg List.length hcp
      rw [List.length_map] at this
      exact List.eq_nil_of_length_eq_zero this
    subst e0
    rw [List.mem_singleton.mp hp]
    exact Nat.le_of_lt ha
end
end SC


/-! a def that raises out of an except suite what it caught otherwise: its body's callees let out exceptions without a context -/
namespace SC
open PySem PySem.Spec PyProof.Rows L2
section
variable {P : Program} {w : World} {K : PySem.W.Frag} {mg : Str → Option Value} {base : Heap}
theorem _root_.L2.Fun.okXN {x qual : Str} {st : Stmt} {f : Addr} {fd : FuncData} {N ps : List Str} {k : Nat} {sp : Sp} (F : Fun K x qual st f fd) (S : FnScope N ps (defScope st)) (len : ∀ vs H Q E, sp vs H Q E → vs.length = ps.length)
    (hbody : ∀ (cdv : Value) (A : Around) (outer : List Env) (s : Shared) (H : Hp) (vs : List V) (Q : VK) (E : XK), Room k (A.deeper (envOfC qual (defScope st) s.heap.objs.size f cdv)) → sp vs H Q E →
      ∃ t, PSs (cxOf (L2N.CX P w) P w K mg base N qual (defScope st) f cdv A outer s H E) (defBody st) t ∧ t { nx := fun _ H' => Q .non H', rt := Q } (start N vs) H) : FnOk P w K mg base (L2N.CX P w) (k + 1) f fd ps sp := by
  obtain ⟨oc, od, kV, doc, pm, an, cdv, ct, osl, rfl, lk, hcd⟩ := F.ex
  exact fn_of lk hcd S len fun A outer s H vs Q E hr hsp => hbody cdv A outer s H vs Q E hr hsp
/-- what lets out exceptions without a context lets out exceptions -/
theorem _root_.L2.FnOk.ofN {k : Nat} {f : Addr} {fd : FuncData} {ps : List Str} {sp : Sp} (F : FnOk P w K mg base (L2N.CX P w) k f fd ps sp) : FnOk P w K mg base (L2.CX P w) k f fd ps sp :=
  ⟨F.len, fun A outer s H args us vs Q E hr h0 hb hv hsp => PySem.codeAny_mono (F.run A outer s H args us vs Q E hr h0 hb hv hsp) fun r s' h => by
    match r, h with
    | .ok (.ret u), h => exact h
    | .ok .next, h => exact h
    | .ok .brk, h => exact h
    | .ok .cont, h => exact h
    | .error e, h =>
      obtain ⟨a, B, H', cls, d, e1, fl, r⟩ := h
      exact ⟨a, B, H', cls, d, e1, L2H.flyingZ_imp (fun o z => z.zc) fl, r⟩⟩
theorem Cal.ofN {k : Nat} {x : Str} {sp : Sp} (c : Cal P w K mg base (L2N.CX P w) k x sp) : Cal P w K mg base (L2.CX P w) k x sp :=
  let ⟨f, fd, ps, F, r⟩ := c.ex
  ⟨f, fd, ps, F.ofN, r⟩
end
section
variable {X : Cx} {W : WX} {x m : Str} {C : Addr} {j : Nat} {p p2 pos pos2 : Pos}
theorem Err.pmkN (T : Err X.K X.mg x C) (hg : Gl X x := by rfl) (hdb : (x == ("__debug__" : Str)) = false := by decide) : L2N.PMk X (.Call (.Name x p) [.Constant (.str m) j p2] [] pos) (fun _ H Q => Q (.ref C) none H) :=
  L2N.pmk_own PySem.F.excBase_ValueError T.e T.g T.k (raises_own T.b T.t) hg hdb
theorem Err.raiseN (T : Err X.K X.mg x C) (tk : L2N.Takes X W) (hc : X.calm = true := by rfl) (hg : Gl X x := by rfl) (hdb : (x == ("__debug__" : Str)) = false := by decide) :
    PS X (.Raise (some (.Call (.Name x p) [.Constant (.str m) j p2] [] pos)) none pos2) (tErr C W) := L2N.ps_raise hc tk (T.pmkN hg hdb)
/-- in an except suite -/
theorem Err.raiseH (T : Err X.K X.mg x C) (hot : L2H.HotC X) (tk : Takes X W) (hg : Gl X x := by rfl) (hdb : (x == ("__debug__" : Str)) = false := by decide) :
    PS X (.Raise (some (.Call (.Name x p) [.Constant (.str m) j p2] [] pos)) none pos2) (tErr C W) := L2H.ps_raiseH hot tk (T.pmkN hg hdb)
theorem passXN {E : XK} (tk : L2N.Takes X W) (h : ∀ cls d σ H, E cls d H → W cls d σ H) : Passes (L2N.CX X.prog X.w) X E := L2N.passes_call tk h
theorem passLN {X : Cx} : Passes (L2N.CX X.prog X.w) X E0 := fun _ _ _ _ _ _ _ h => by
  obtain ⟨_, _, _, _, _, _, _, _, _, _, _, _, z⟩ := h
  exact z.elim
end
section
variable {X : Cx} {x : Str} {p pos : Pos} {e : Expr} {es : List Expr} {t : TA} {sp : Sp} {j k : Nat} {W : WX}
theorem Cal.peSN (c : Cal X.prog X.w X.K X.mg X.base (L2N.CX X.prog X.w) j x sp) (hr : Room k X.A) (tk : L2N.Takes X W) (ha : PA X (e :: es) t) (hjk : j ≤ k := by first | decide | omega) (hg : Gl X x := by rfl) (hdb : (x == ("__debug__" : Str)) = false := by decide)
    (he : starEach (e :: es) X.env = (false, eval e X.env) :: starEach es X.env := by rfl) (hpl : (backTo pos (starEach es X.env)).any (·.1) = false := by rfl) :
    PE X (.Call (.Name x p) (e :: es) [] pos) (tCallS sp (WE W) t) :=
  let ⟨_, _, _, F, m, kp, b⟩ := c.ex
  pe_callS F (hr.mono hjk) hg m kp b (fun σ => L2N.passAt tk σ) ha hdb he hpl
end
end SC

/-! a caught error that is handed to a def of the program; isinstance of it there, with or without fields -/
namespace SC
open PySem PySem.Spec PyProof.Rows L2
/-- isinstance(e, c): e at a, of the class D, its dict d -/
def rIsP (K : PySem.W.Frag) (D a : Addr) (d : Option Addr) : List V → Hp → VK → Prop := fun xs H Q => ∃ (c : V) (cv : Value) (b : Bool), xs = [.ref a, c] ∧ (∀ u, RelV c u → u = cv) ∧ PySem.W.kitOne K (.ref D) cv = some b ∧ (d = none ∨ ∃ (dd : Addr) (fs : List (Str × V)), d = some dd ∧ H dd = some (.xd fs)) ∧ Q (.bl b) H
theorem call_isP {X : Cx} {a D : Addr} {d : Option Addr} {oe : Obj} (C : ExcC X.K D) (hp : (a, oe) ∈ X.pn) (hz : Zc (.ref D) d oe) (hf : ∃ vs, oe.data = .fields vs) : CallR X (.builtin "isinstance") (rIsP X.K D a d) := by
  intro pins s σ H xs us Q I r h
  obtain ⟨c, cv, b, rfl, hcv, e, hd, q⟩ := h
  obtain ⟨u1, u2, rfl, rx, rt⟩ := vals2 r
  cases rx
  cases hcv _ rt
  obtain ⟨got, _⟩ := I.pin (a, oe) (List.mem_append_left _ hp)
  obtain ⟨vs, hv⟩ := hf
  have nc : PySem.W.notCls oe = true := by unfold PySem.W.notCls; rw [hv] <;> rfl
  have hcl : (PySem.W.clsIn X.K D).isSome = true := by
    obtain ⟨cd, hc, _⟩ := PySem.W.any_some C.hd
    rw [hc]; rfl
  rcases hd with rfl | ⟨dd, fs, rfl, hdd⟩
  · have J : PySem.W.InstAt s.heap a oe D none := ⟨got, hz.1, nc, by rw [hz.2]; trivial⟩
    exact PySem.W.kia_one (PySem.W.kitx_exc hcl C.hg C.hk C.hs C.ha C.hn C.ht C.hm) I.kIn J e (fun z => nomatch z) fun tk => ⟨.bl b, H, I.kept (t' := tk) fun _ _ z => z, rfl, q⟩
  · obtain ⟨mA, hns, _⟩ : ObjOk X.prog X.w H s.heap dd (.xd fs) := I.hok dd _ hdd
    obtain ⟨od, ho, _⟩ := lookIn_ns hns
    have J : PySem.W.InstAt s.heap a oe D (some od) := ⟨got, hz.1, nc, by rw [hz.2]; exact ho⟩
    exact PySem.W.kia_one (PySem.W.kitx_exc hcl C.hg C.hk C.hs C.ha C.hn C.ht C.hm) I.kIn J e (fun z => nomatch z) fun tk => ⟨.bl b, H, I.kept (t' := tk) fun _ _ z => z, rfl, q⟩
/-! ### a def that is handed the error that its caller handles: what is known of it is said once -/
structure FnP (P : Program) (w : World) (K : PySem.W.Frag) (mg : Str → Option Value) (base : Heap) (k : Nat) (f : Addr) (fd : FuncData) (ps : List Str) (p : Addr × Obj) (sp : Sp) : Prop where
  len : ∀ vs H Q E, sp vs H Q E → vs.length = ps.length
  run : ∀ (A : Around) (outer : List Env) (s : Shared) (H : Hp) (args : Args) (us : List Value) (vs : List V) (Q : VK) (E : XK), L2H.RoomH k A → L2H.Hot1 A p → L2H.PinOk outer H s p → Env0 P w K mg base A outer s H → BindsTo s fd args (ps.zip us) → Vals vs us → sp vs H Q E →
    codeAny (model P w) A (.call (.ref f) args) (CR CX0 outer P w H s Q E) s
section
variable {P : Program} {w : World} {K : PySem.W.Frag} {mg : Str → Option Value} {base : Heap}
theorem fn_given {k : Nat} {x qual : Str} {st : Stmt} {f : Addr} {fd : FuncData} {N ps : List Str} {p : Addr × Obj} {sp : Sp} (F : Fun K x qual st f fd) (S : FnScope N ps (defScope st)) (len : ∀ vs H Q E, sp vs H Q E → vs.length = ps.length)
    (body : ∀ (cdv : Value) (A : Around) (outer : List Env) (s : Shared) (H : Hp) (vs : List V) (Q : VK) (E : XK), L2H.Hot1 A p → L2H.RoomH k (A.deeper (envOfC qual (defScope st) s.heap.objs.size f cdv)) → sp vs H Q E →
      ∃ t, PSs (L2H.cxH CX0 P w K mg base N qual (defScope st) f cdv A outer s H E p) (defBody st) t ∧ t { nx := fun _ H' => Q .non H', rt := Q } (L2.start N vs) H) : FnP P w K mg base (k + 1) f fd ps p sp := by
  obtain ⟨oc, od, kV, doc, pm, an, cdv, ct, osl, rfl, lk, hcd⟩ := F.ex
  refine ⟨len, fun A outer s H args us vs Q E hr hot hpin e0 hb r hsp => ?_⟩
  have inK : K.In s.heap := e0.mod.kin.keeps fun b o e => (e0.bs b o e).1
  have noLim : s.heap.NoLimit := e0.mod.nolimit.keeps fun b o e => (e0.bs b o e).1
  have kinds : ∀ y ∈ ps.zip us, (defScope st).names.lookup y.1 = some .local ∨ ((defScope st).names.lookup y.1 = some .cell ∧ ((cellsFrom (s.heap.objs.size + 1) (defScope st).names []).lookup y.1).isSome = true) := fun y hy =>
    (S.par y.1 (List.of_mem_zip (a := y.1) (b := y.2) hy).1).elim .inl fun q => .inr ⟨q, PySem.W.cellsFrom_some _ _ _ (.inl q)⟩
  refine codeAny_call_function hr.depth (inK _ _ lk) rfl S.co S.gen rfl (PySem.W.codeRec_of inK hcd) (hb _ _ _ _ (wpAny_newFunctionEnv_cells S.kind kinds fun env he s1 into => ?_))
  subst he
  obtain ⟨t, reads, wish⟩ := body cdv A outer s H vs Q E hot (hr.deeper _) hsp
  refine ⟨noLim.keeps into.toInCall.keep, codeAny_func (wpAny_mono (reads.run [] s1 (L2.start N vs) H _ (L2H.inv_startH S hpin e0 (len _ _ _ _ hsp) r into) wish) (fun fl s' ended => ?_) fun e s' ended => ended)⟩
  match fl, ended with
  | .ret u, ⟨v, _, H', J, rv, q⟩ => exact ⟨v, H', J.os, J.bare, J.base, J.hok, rv, q⟩
  | .next, ⟨_, H', J, q⟩ => exact ⟨V.non, H', J.os, J.bare, J.base, J.hok, rfl, q⟩
  | .brk, ⟨_, _, _, q⟩ => exact False.elim q
  | .cont, ⟨_, _, _, q⟩ => exact False.elim q
end
structure CalP (P : Program) (w : World) (K : PySem.W.Frag) (mg : Str → Option Value) (base : Heap) (k : Nat) (x : Str) (who : Addr × Obj → Prop) (sp : Addr × Obj → Sp) : Prop where
  ex : ∃ f fd ps, (∀ p, who p → FnP P w K mg base k f fd ps p (sp p)) ∧ mg x = some (.ref f) ∧ PySem.W.keepIn K (.ref f) = true ∧ Binds K fd ps []
section
variable {X : Cx} {x : Str} {q pos : Pos} {e : Expr} {es : List Expr} {t : TA} {j k : Nat} {who : Addr × Obj → Prop} {sp : Addr × Obj → Sp} {p : Addr × Obj}
/-- x(e, ..) in the suite that handles p -/
theorem CalP.pe (c : CalP X.prog X.w X.K X.mg X.base j x who sp) (hr : L2H.RoomH k X.A) (hot : L2H.Hot1 X.A p) (hp : p ∈ X.pn) (hw : who p) (ha : PA X (e :: es) t) (hjk : j ≤ k := by first | decide | omega) (hg : Gl X x := by rfl) (hdb : (x == ("__debug__" : Str)) = false := by decide)
    (he : starEach (e :: es) X.env = (false, eval e X.env) :: starEach es X.env := by rfl) (hpl : (backTo pos (starEach es X.env)).any (·.1) = false := by rfl) :
    PE X (.Call (.Name x q) (e :: es) [] pos) (tCallS (sp p) (fun _ => E0) t) := by
  obtain ⟨f, fd, ps, F, hm, hk, hb⟩ := c.ex
  have F := F p hw
  refine ⟨fun pins s σ H Q I h => wpAny_Call_Name_kw (ld_glob I hg hm (PySem.W.callWith_K (h₀ := X.base) I.ok.mod.kin hk (thn (ha.run pos pins s σ H _ I h) fun us s1 told => ?_) he hpl) hdb)⟩
  obtain ⟨vs, H1, I1, r, wish⟩ := told
  have lens : us.length = ps.length := by rw [← r.length]; exact F.len _ _ _ _ wish
  have b := hb s1 us I1.kIn (by rw [List.append_nil]; exact lens)
  rw [List.append_nil] at b
  have pinned := I1.pin p (List.mem_append_left _ hp)
  have there : L2H.PinOk X.stack H1 s1 p := ⟨pinned.1, pinned.2.1, fun m => (List.mem_cons.mp (I1.stkSub p.1 m)).elim pinned.2.2.1 pinned.2.2.2.1, pinned.2.2.2.2⟩
  refine ⟨I1.kIn, wpAny_call (codeAny_mono (F.run X.A X.stack s1 H1 ⟨us, []⟩ us vs Q E0 (hr.mono hjk) hot there I1.env0 b r wish) fun res s2 ended => ?_)⟩
  match res, ended with
  | .error _, z => exact False.elim z
  | .ok (.ret u), z => exact I1.after z
  | .ok .next, z => exact False.elim z
  | .ok .brk, z => exact False.elim z
  | .ok .cont, z => exact False.elim z
/-- the suite of a caught error whose context is None is hot -/
theorem suite_hot {X : Cx} {a : Addr} {oe : Obj} {cls : Value} {d : Option Addr} {pn : List (Addr × Obj)} (hz : L2N.Zn cls d oe) (hf : ∃ vs, oe.data = .fields vs) : L2H.Hot1 (X.suite a ((a, oe) :: pn)).A (a, oe) :=
  let ⟨vs, hv⟩ := hf
  ⟨rfl, vs, hv, hz.2.2 vs hv⟩
end
/-- C(e, ..) of an error with an __init__ of its own, its context None -/
theorem pmkN_own {X : Cx} {CX : CXT} {x : Str} {e : Expr} {es : List Expr} {ta : TA} {p pos : Pos} {C fI : Addr} {k : Nat} {fd : FuncData} {ps : List Str} {sp : Sp} (T : OexC X.K C) (iC : PySem.W.findIn X.K (.ref C) "__init__" = some (some (.ref fI))) (tI : PySem.W.typeIn X.K (.ref fI) = some (.type "function"))
    (made : FnOk X.prog X.w X.K X.mg X.base CX k fI fd ps sp) (hr : Room (k + 1) X.A) (hb : Binds X.K fd ps []) (hx : Passes CX X (fun _ _ _ => False)) (hg : Gl X x) (hm : X.mg x = some (.ref C)) (ha : PA X (e :: es) ta)
    (hdb : (x == ("__debug__" : Str)) = false := by decide) (he : starEach (e :: es) X.env = (false, eval e X.env) :: starEach es X.env := by rfl) (hpl : (backTo pos (starEach es X.env)).any (·.1) = false := by rfl) :
    L2N.PMk X (.Call (.Name x p) (e :: es) [] pos) (tMkO C sp [] ta) := by
  intro pins s σ H Q I h
  obtain ⟨nm, q, N, bs, bm, sn, sub, ab, col, dd, k0, k1, k2, k3, k5, clsAt, inRefs⟩ := T.cls
  refine wpAny_Call_Name_kw (ld_glob I hg hm (PySem.W.callWith_K (h₀ := X.base) I.ok.mod.kin T.kC (thn (ha.run pos pins s σ H _ I h) fun us s1 told => ?_) he hpl) hdb)
  obtain ⟨vs, H1, I1, rels, few, wish⟩ := told
  refine ⟨I1.kIn, ?_⟩
  show wpAny _ _ (call (.ref C) us) _ _ _
  obtain ⟨hp, g, dr, tk, os⟩ := s1
  generalize eA : hp.objs.size + 1 = a
  have above : hp.objs.size ≤ a := by omega
  have init := wish a (I1.hok.fresh above)
  rw [List.append_nil] at init
  have old : ∀ b o, hp.get? b = some o → ((hp.push (PySem.W.kdv_tup us)).push (PySem.HandSPX.excO C hp.objs.size)).get? b = some o := fun b o e => Heap.get?_push_of_some _ (Heap.get?_push_of_some _ e)
  have new : ((hp.push (PySem.W.kdv_tup us)).push (PySem.HandSPX.excO C hp.objs.size)).get? a = some (PySem.HandSPX.excO C hp.objs.size) := by
    subst eA
    heap_get
  have I2 : Inv X pins σ (upd H1 a (exo a C none)) ⟨(hp.push (PySem.W.kdv_tup us)).push (PySem.HandSPX.excO C hp.objs.size), g, dr, tk, os⟩ := I1.laid (t' := tk) (a := a) (o := exo a C none) old above (exo_ok new)
  have rels2 : Vals (V.ref a :: vs) (Value.ref a :: us) := .cons rfl rels
  have count : (Value.ref a :: us).length = ps.length := by
    rw [← rels2.length]
    exact made.len _ _ _ _ init
  have fewer : us.length ≤ sizeLine := by
    rw [← Paired.length rels, sizeLine_eq]
    omega
  have binds := hb _ (Value.ref a :: us) I2.kIn (by rw [List.append_nil]; exact count)
  rw [List.append_nil] at binds
  subst eA
  refine wpAny_call (PySem.HandSPX.call_own F.excBase_ValueError (fun Y => PySem.HandSPX.refsVE_contains Y bm inRefs) (I1.kIn _ _ clsAt) (PySem.W.looks_findIn I1.kIn iC) (fun self => PySem.W.bind_fn I1.kIn self tI) fewer
    (codeAny_mono (made.run _ X.stack _ _ ⟨_ :: us, []⟩ (_ :: us) _ _ (fun _ _ _ => False) (hr.make C us []) (I2.env0.make C us []) binds rels2 init) fun res s2 ended => ?_))
  match res, ended with
  | .error _, z => exact hx pins σ _ _ _ s2 I2 z
  | .ok .next, z => exact False.elim z
  | .ok .brk, z => exact False.elim z
  | .ok .cont, z => exact False.elim z
  | .ok (.ret u), ⟨v, H2, os2, bare2, un2, hok2, rv, ev, d, fs, ea, ed, fresh, wish2⟩ =>
    subst ev
    obtain ⟨h2, g2, d2, t2, os'⟩ := s2
    obtain ⟨t0, G, J, kept, gone, there, unseen⟩ := mk_end0 (d2 := d2) (t2 := t2) I1 above old un2 hok2 os2 bare2 ea ed fresh
    exact ⟨rv, _, _, _, ⟨G, g2, d2, t2, os'⟩, _, .ref C, some d, rfl, J, kept, gone, there, ⟨rfl, rfl, fun vs hv => by cases hv; rfl⟩, rfl, rfl, unseen, rfl, bare2, raises_own T.exC T.tyC, wish2⟩
/-- the same, its class not yet known -/
def rIsN (K : PySem.W.Frag) (a : Addr) (cls : Value) (d : Option Addr) : List V → Hp → VK → Prop := fun xs H Q => ∃ D : Addr, cls = .ref D ∧ ExcC K D ∧ rIsP K D a d xs H Q
theorem call_isN {X : Cx} {a : Addr} {cls : Value} {d : Option Addr} {oe : Obj} (hp : (a, oe) ∈ X.pn) (hz : Zc cls d oe) (hf : ∃ vs, oe.data = .fields vs) : CallR X (.builtin "isinstance") (rIsN X.K a cls d) := by
  rintro pins s σ H xs us Q I r ⟨D, rfl, C, h⟩
  exact call_isP C hp hz hf pins s σ H xs us Q I r h
theorem call_isS {X : Cx} {a : Addr} {cls : Value} {d : Option Addr} {oe : Obj} {pn : List (Addr × Obj)} (hz : Zc cls d oe) (hf : ∃ vs, oe.data = .fields vs) : CallR (X.suite a ((a, oe) :: pn)) (.builtin "isinstance") (rIsN X.K a cls d) := call_isN (X := X.suite a ((a, oe) :: pn)) List.mem_cons_self hz hf
theorem pe_weak {X : Cx} {e : Expr} {t u : TE} (h : PE X e t) (w : ∀ σ H Q, u σ H Q → t σ H Q) : PE X e u := ⟨fun held s σ H Q I pre => h.run held s σ H Q I (w σ H Q pre)⟩
section
variable {X : Cx} {W : WX} {x m : Str} {C : Addr} {j : Nat} {p p2 pos pos2 : Pos}
theorem Err.raiseP (T : Err X.K X.mg x C) (tk : L2N.Takes X W) (hc : X.calm = true := by rfl) (hg : Gl X x := by rfl) (hdb : (x == ("__debug__" : Str)) = false := by decide) :
    PS X (.Raise (some (.Call (.Name x p) [.Constant (.str m) j p2] [] pos)) none pos2) (tErr C W) := L2N.ps_raise hc tk (L2N.pmk_own PySem.F.excBase_ValueError T.e T.g T.k (raises_own T.b T.t) hg hdb)
end
end SC

/-! methods without arguments that may raise; tables of texts -/
namespace SC
open PySem PySem.Spec PyProof.Rows L2
section
variable {X : Cx} {x : Str} {p pos apos : Pos} {o e : Expr} {es : List Expr} {ta : TE} {t : TA} {sp : Sp} {j k : Nat} {CX : CXT} {E : XK} {C : Addr} {pl : Sem Bool}
theorem CalM.pex0 (c : CalM X.prog X.w X.K X.mg X.base CX j C x sp) (hr : Room k X.A) (hx : Passes CX X E) (ho : PE X o ta) (hjk : j ≤ k := by first | decide | omega)
    (ht : eval (.Call (.Attribute o x apos) [] [] pos) X.env = (do
      let ov ← eval o X.env
      standAt apos.atName
      let (f, first) ← holding [ov] (getMethod ov x pl)
      callWith pos f first (backTo pos (starEach [] X.env)) (backToKw pos (keywordEach [] X.env))) := by rfl) :
    PE X (.Call (.Attribute o x apos) [] [] pos) (tMeth C x sp [] E ta tNil) :=
  let ⟨_, _, _, F, m, b⟩ := c.ex
  pe_meth0 ho c.cl m F (hr.mono hjk) b .nil hx ht
theorem CalM.peL0 (c : CalM X.prog X.w X.K X.mg X.base (L2.CX X.prog X.w) j C x sp) (hr : Room k X.A) (ho : PE X o ta) (hjk : j ≤ k := by first | decide | omega)
    (ht : eval (.Call (.Attribute o x apos) [] [] pos) X.env = (do
      let ov ← eval o X.env
      standAt apos.atName
      let (f, first) ← holding [ov] (getMethod ov x pl)
      callWith pos f first (backTo pos (starEach [] X.env)) (backToKw pos (keywordEach [] X.env))) := by rfl) :
    PE X (.Call (.Attribute o x apos) [] [] pos) (tMeth C x sp [] E0 ta tNil) := c.pex0 hr passL ho hjk ht
end
/-- the reading is found first, then what was wished for -/
theorem by_given {X : Cx} {b : List Stmt} {t u : TS} (h : PSs X b t) (e : t = u) : PSs X b u := e ▸ h
section
variable {X : Cx} {x : Str} {pos apos : Pos} {o e : Expr} {es : List Expr} {ta : TE} {t : TA} {sp : Sp} {j k : Nat} {C : Addr} {pl : Sem Bool} {V : WX}
theorem CalM.peV0 (c : CalM X.prog X.w X.K X.mg X.base (L2.CX X.prog X.w) j C x sp) (hr : Room k X.A) (tk : Takes X V) (ho : PE X o ta) (hjk : j ≤ k := by first | decide | omega)
    (ht : eval (.Call (.Attribute o x apos) [] [] pos) X.env = (do
      let ov ← eval o X.env
      standAt apos.atName
      let (f, first) ← holding [ov] (getMethod ov x pl)
      callWith pos f first (backTo pos (starEach [] X.env)) (backToKw pos (keywordEach [] X.env))) := by rfl) :
    PE X (.Call (.Attribute o x apos) [] [] pos) (tMethV C x sp (WE V) ta tNil) := by
  obtain ⟨f, fd, ps, F, M, b⟩ := c.ex
  refine ⟨fun held s σ H Q I pre => PySem.W.methodCall_KW (pl := pl) (thn (ho.run held s σ H _ I pre) fun u s1 gives => ?_) ht⟩
  obtain ⟨v, H1, I1, rel, p, dx, fs, rfl, isIns, noField, args⟩ := gives
  cases (show u = Value.ref p from rel)
  exact getmeth_ok I1 isIns c.cl M noField (PySem.W.callWith_K0 (first := [.ref p]) I1.kIn M.kp (run_fnS (us := [.ref p]) (vs := [.ref p]) F (hr.mono hjk) b (passAt tk σ) I1 (.cons rfl .nil) args))
end
/-! try with several clauses, some of which name the caught error -/
inductive ClauseM where
  | named (k : Clause)
  | bare (k : Clause)
/-- the wishes of the clauses, from the first -/
def wClM (K : PySem.W.Frag) (i : Nat) (out : WX) (D : Ends) : List ClauseM → WX
  | [] => out
  | .named k :: r => fun cv dd τ G => ∃ yes, PySem.W.exmOne K cv k.1 = some yes ∧ if yes = true then (∀ e, G e = none → k.2 e cv dd (dropE i D) (τ.set i (some (.ref e))) G) else wClM K i out D r cv dd τ G
  | .bare k :: r => fun cv dd τ G => ∃ yes, PySem.W.exmOne K cv k.1 = some yes ∧ if yes = true then (∀ e, G e = none → k.2 e cv dd D τ G) else wClM K i out D r cv dd τ G
inductive WrittenM (X : Cx) (n : Str) : List ExceptHandler → List ClauseM → Prop
  | none : WrittenM X n [] []
  | one {cn : Str} {k : Clause} {st : Stmt} {more : List Stmt} {p1 p2 : Pos} {hs : List ExceptHandler} {ks : List ClauseM} (named : Names X cn k.1)
      (runs : ∀ (e : Addr) (ob : Obj) (cv : Value) (dd : Option Addr) (held : List (Addr × Obj)), Zc cv dd ob → (∃ fs, ob.data = .fields fs) → PSs (X.suite e ((e, ob) :: held)) (st :: more) (k.2 e cv dd)) (rest : WrittenM X n hs ks) :
      WrittenM X n (.ExceptHandler (some (.Name cn p1)) (some n) (st :: more) p2 :: hs) (.named k :: ks)
  | bare {cn : Str} {k : Clause} {st : Stmt} {more : List Stmt} {p1 p2 : Pos} {hs : List ExceptHandler} {ks : List ClauseM} (named : Names X cn k.1)
      (runs : ∀ (e : Addr) (ob : Obj) (cv : Value) (dd : Option Addr) (held : List (Addr × Obj)), Zc cv dd ob → (∃ fs, ob.data = .fields fs) → PSs (X.suite e ((e, ob) :: held)) (st :: more) (k.2 e cv dd)) (rest : WrittenM X n hs ks) :
      WrittenM X n (.ExceptHandler (some (.Name cn p1)) none (st :: more) p2 :: hs) (.bare k :: ks)
section
variable {X : Cx} {n : Str} {i : Nat} {body : List Stmt} {first : ExceptHandler} {others : List ExceptHandler} {ks : List ClauseM} {pos : Pos} {tb : WX → TS} {out : WX}
theorem ps_try_mix (stk : X.stack = X.env :: X.outer) (frm : X.env.frame = some X.env.locals) (nodup : X.N.Nodup) (slot : X.N[i]? = some n) (isLoc : X.env.kindOf n = some .local) (leaves : Takes X out)
    (runBody : ∀ (V : WX) (held : List (Addr × Obj)) (ex : Value → Shared → Prop), Takes (X.tr held ex) V → PassesOwn (model X.prog X.w) X.A X.env ex → PSs (X.tr held ex) body (tb V))
    (clauses : WrittenM X n (first :: others) ks) : PS X (.Try body (first :: others) [] [] pos) (fun D τ G => tb (wClM X.K i out D ks) D τ G) := by
  refine ⟨fun held s τ G D I pre => ?_⟩
  have good := I.ok
  have around : X.A.frames = some (X.env :: X.outer) := by rw [good.frames, stk]
  refine wpAny_Try_except ?_
  let after : Value → Shared → Prop := fun ev t1 => wpAny (model X.prog X.w) X.A (noteFrame ev X.env)
    (fun _ t2 => wpAny (model X.prog X.w) X.A (setFlight ev none) (fun _ t3 => wpAny (model X.prog X.w) X.A (handleBy ev X.env (first :: others)) (SP X held D) X.xe t3) X.xe t2) X.xe t1
  refine wpAny_mono ((runBody (wClM X.K i out D ks) (X.pn ++ held) after (fun ev t thrown => ?_) PassesOwn.looking).run [] s τ G D (I.toTry _) pre) (fun flow t done => ?_) (fun _ _ z => z)
  · obtain ⟨e, base, sT, heldT, τ1, G1, cv, dd, rfl, IT, newer, upT, skyT, freeE, osT, gensT, wish⟩ := thrown
    have I1 : Inv X held τ1 G1 sT := IT.ofTry good
    show wpAny (model X.prog X.w) X.A (noteFrame (.ref e) X.env) _ _ _
    refine Sky.land Zc.steady around frm (by rw [← stk]; exact skyT) fun hA fly upA => ?_
    have IA : Inv X held τ1 G1 { t with heap := hA } := I1.landed newer fly.1 (upT.trans upA) osT gensT
    obtain ⟨ob, fs, obAt, obZ, obF⟩ := fly.there
    have offFrames : e ∉ frs (X.env :: X.outer) := fun inFrames => by
      obtain ⟨_, ob2, at2, notFields⟩ := fly.2.2.1.mem inFrames
      rw [obAt] at at2
      exact notFields _ (Option.some.inj at2 ▸ obF)
    have offLocals : e ≠ X.env.locals := fun z => offFrames (List.mem_filterMap.mpr ⟨X.env, List.mem_cons_self, by rw [frm, z]⟩)
    have offOuter : e ∉ X.fs := fun m =>
      let ⟨en, enIn, q⟩ := List.mem_filterMap.mp m
      offFrames (List.mem_filterMap.mpr ⟨en, List.mem_cons_of_mem _ enIn, q⟩)
    have inSuite := IA.suite obAt obF freeE offLocals offOuter
    clear pre
    suffices each : ∀ {hs : List ExceptHandler} {cs : List ClauseM}, WrittenM X n hs cs → wClM X.K i out D cs cv dd τ1 G1 →
        wpAny (model X.prog X.w) X.A (handleBy (.ref e) X.env hs) (SP X held D) X.xe { t with heap := hA } from each clauses wish
    intro hs cs written
    induction written with
    | none =>
      intro goesOn
      refine wpAny_handleBy_nil ?_
      obtain ⟨_, _, _, ob3, fs3, tb3, _, _, at3, _, f3, g3, _⟩ := id fly
      unfold PySem.passOn
      refine wpAny_bind (wpAny_field at3 f3 g3 ?_)
      rw [if_neg (by simp)]
      have again : wpAny (model X.prog X.w) X.A (setFlight (.ref e) X.env.frame) (fun _ t4 => wpAny (model X.prog X.w) X.A (throw (.ref e) : Sem Flow) (SP X held D) X.xe t4) X.xe { t with heap := hA } := by
        rw [frm]
        exact HandSPX.setFlight_upZ fly fun hB heldB upB => wpAny_throw (leaves _ _ ⟨e, base, sT, held, τ1, G1, cv, dd, rfl, I1, newer, (upT.trans upA).trans upB, .inr (.inr (by rw [stk]; exact heldB)), freeE, osT, gensT, goesOn⟩)
      first
        | exact wpAny_bind (wpAny_pure (wpAny_bind again))
        | exact wpAny_bind again
    | @one cn k st more p1 p2 hs2 ks2 named runs rest ih =>
      rintro ⟨yes, match1, w2⟩
      have looks := PySem.W.exm_one (M := model X.prog X.w) IA.kIn (fun A Q E u kk q => wpAny_typeOf_ref (kk _ _ obAt) (by rw [obZ.1]; exact q) : PySem.W.Looks (model X.prog X.w) hA (typeOf (.ref e)) cv) match1
      refine wpAny_handleBy_cons (codeAny_handlers_test ?_) (by intro q; cases q)
      have reads : ∀ {Q E : Value → Shared → Prop}, Q k.1 { t with heap := hA } → wpAny (model X.prog X.w) (X.A.mark (some (.ref e))) (eval (.Name cn p1) X.env) Q E { t with heap := hA } := fun {Q E} q => by
        rcases named with ⟨gl, nodbg, isMod | ⟨isMod, isB, nn⟩⟩
        · exact ld_glob (X := X.suite e ((e, ob) :: (X.pn ++ held))) inSuite gl isMod q nodbg
        · exact ld_blt (X := X.suite e ((e, ob) :: (X.pn ++ held))) inSuite gl isMod isB q nn nodbg
      refine reads (looks.here ?_)
      cases yes with
      | false =>
        rw [if_neg (by decide)] at w2
        show wpAny _ X.A (handleBy (.ref e) X.env hs2) _ _ _
        exact ih w2
      | true =>
        rw [if_pos rfl] at w2
        refine codeAny_handlers_suite_as (HandSPX.lands_againZ fly fun hB flyB upB => ?_)
        have IB : Inv X held τ1 G1 { t with heap := hB } := I1.landed newer flyB.1 ((upT.trans upA).trans upB) osT gensT
        obtain ⟨obB, fsB, atB, zB, fB⟩ := flyB.there
        refine store_ok (X := X.suite e ((e, obB) :: (X.pn ++ held))) (v := .ref e) (IB.suite atB fB freeE offLocals offOuter) nodup slot (.inl isLoc) rfl (fun t5 I5 => ?_) (.inr isLoc)
        refine wpAny_mono ((runs e obB cv dd (X.pn ++ held) zB ⟨_, fB⟩).run [] t5 _ G1 _ I5 (w2 e freeE)) (fun flow t6 ended => ?_) (fun _ _ z => False.elim z)
        have gone : ∀ {τ6 : L2.St} {G6 : Hp} {Q : Shared → Prop}, Inv (X.suite e ((e, obB) :: (X.pn ++ held))) [] τ6 G6 t6 → (∀ t7, Inv X held (τ6.set i none) G6 t7 → Q t7) →
            wpAny (model X.prog X.w) X.A (do bindName X.env n .none; unbindBehindTheSuite X.env n p2) (fun _ t7 => Q t7) X.xe t6 := fun {τ6 G6 Q} I6 q => gone_ok (I6.unsuite good) nodup slot isLoc q
        cases flow with
        | ret u => exact let ⟨_, _, _, I6, r6, q6⟩ := ended; gone I6 fun _ I7 => ⟨_, _, _, I7, r6, q6⟩
        | next => exact let ⟨_, _, I6, q6⟩ := ended; gone I6 fun _ I7 => ⟨_, _, I7, q6⟩
        | brk => exact let ⟨_, _, I6, q6⟩ := ended; gone I6 fun _ I7 => ⟨_, _, I7, q6⟩
        | cont => exact let ⟨_, _, I6, q6⟩ := ended; gone I6 fun _ I7 => ⟨_, _, I7, q6⟩
    | @bare cn k st more p1 p2 hs2 ks2 named runs rest ih =>
      rintro ⟨yes, match1, w2⟩
      have looks := PySem.W.exm_one (M := model X.prog X.w) IA.kIn (fun A Q E u kk q => wpAny_typeOf_ref (kk _ _ obAt) (by rw [obZ.1]; exact q) : PySem.W.Looks (model X.prog X.w) hA (typeOf (.ref e)) cv) match1
      refine wpAny_handleBy_cons (codeAny_handlers_test ?_) (by intro q; cases q)
      have reads : ∀ {Q E : Value → Shared → Prop}, Q k.1 { t with heap := hA } → wpAny (model X.prog X.w) (X.A.mark (some (.ref e))) (eval (.Name cn p1) X.env) Q E { t with heap := hA } := fun {Q E} q => by
        rcases named with ⟨gl, nodbg, isMod | ⟨isMod, isB, nn⟩⟩
        · exact ld_glob (X := X.suite e ((e, ob) :: (X.pn ++ held))) inSuite gl isMod q nodbg
        · exact ld_blt (X := X.suite e ((e, ob) :: (X.pn ++ held))) inSuite gl isMod isB q nn nodbg
      refine reads (looks.here ?_)
      cases yes with
      | false =>
        rw [if_neg (by decide)] at w2
        show wpAny _ X.A (handleBy (.ref e) X.env hs2) _ _ _
        exact ih w2
      | true =>
        rw [if_pos rfl] at w2
        refine codeAny_handlers_suite ?_
        refine HandSPX.lands_againZ fly fun hB flyB upB => ?_
        have IB : Inv X held τ1 G1 { t with heap := hB } := I1.landed newer flyB.1 ((upT.trans upA).trans upB) osT gensT
        obtain ⟨obB, fsB, atB, zB, fB⟩ := flyB.there
        have SB := IB.suite atB fB freeE offLocals offOuter
        have w3 : k.2 e cv dd D τ1 G1 := w2 e freeE
        refine wpAny_mono ((runs e obB cv dd (X.pn ++ held) zB ⟨_, fB⟩).run [] _ _ G1 _ SB w3) (fun flow t6 ended => ?_) (fun _ _ z => False.elim z)
        cases flow with
        | ret u => exact let ⟨_, _, _, I6, r6, q6⟩ := ended; ⟨_, _, _, I6.unsuite good, r6, q6⟩
        | next => exact let ⟨_, _, I6, q6⟩ := ended; ⟨_, _, I6.unsuite good, q6⟩
        | brk => exact let ⟨_, _, I6, q6⟩ := ended; ⟨_, _, I6.unsuite good, q6⟩
        | cont => exact let ⟨_, _, I6, q6⟩ := ended; ⟨_, _, I6.unsuite good, q6⟩
  · cases flow with
    | ret u => exact let ⟨_, _, _, J, r, q⟩ := done; ⟨_, _, _, J.ofTry good, r, q⟩
    | next => exact let ⟨_, _, J, q⟩ := done; wpAny_execs_nil ⟨_, _, J.ofTry good, q⟩
    | brk => exact let ⟨_, _, J, q⟩ := done; ⟨_, _, J.ofTry good, q⟩
    | cont => exact let ⟨_, _, J, q⟩ := done; ⟨_, _, J.ofTry good, q⟩
end
/-! tables of texts -/
def txK (tx : List (Str × Str)) : List (Key × V) := tx.map fun p => (Sum.inr p.1, V.str p.2)
def getT (tx : List (Str × Str)) (n : Str) : Option Str := (tx.find? fun p => decide (p.1 = n)).map (·.2)
def putT (tx : List (Str × Str)) (n t : Str) : List (Str × Str) :=
  if (tx.any fun p => decide (p.1 = n)) = true then tx.map (fun p => if p.1 = n then (p.1, t) else p) else tx ++ [(n, t)]
def dropT (tx : List (Str × Str)) (n : Str) : List (Str × Str) := tx.filter fun p => decide (p.1 ≠ n)
theorem txK_val (n : Str) : ∀ tx : List (Str × Str), valV (txK tx) (Sum.inr n) = (getT tx n).map V.str
  | [] => rfl
  | p :: r => by
    have ih := txK_val n r
    by_cases e : p.1 = n
    · rw [show txK (p :: r) = (Sum.inr p.1, V.str p.2) :: txK r from rfl, valV_pos (by rw [e])]
      simp [getT, List.find?_cons, e]
    · rw [show txK (p :: r) = (Sum.inr p.1, V.str p.2) :: txK r from rfl, valV_neg (fun z => e (Sum.inr.inj z)), ih]
      simp [getT, List.find?_cons, e]
theorem txK_put (n t : Str) (tx : List (Str × Str)) : putK (txK tx) (Sum.inr n) (.str t) = txK (putT tx n t) := by
  unfold putK putT
  have a : ((txK tx).any fun kv => decide (kv.1 = (Sum.inr n : Key))) = tx.any fun p => decide (p.1 = n) := by
    unfold txK
    rw [List.any_map]
    congr 1
    funext p
    exact decide_eq_decide.mpr ⟨fun z => Sum.inr.inj z, fun z => congrArg _ z⟩
  rw [a]
  by_cases h : (tx.any fun p => decide (p.1 = n)) = true
  · rw [if_pos h, if_pos h]
    unfold txK
    rw [List.map_map, List.map_map]
    refine List.map_congr_left fun p _ => ?_
    show (if (Sum.inr p.1 : Key) = Sum.inr n then ((Sum.inr p.1 : Key), V.str t) else (Sum.inr p.1, V.str p.2)) = ((Sum.inr (if p.1 = n then (p.1, t) else p).1 : Key), V.str (if p.1 = n then (p.1, t) else p).2)
    by_cases e : p.1 = n
    · rw [if_pos (by rw [e]), if_pos e]
    · rw [if_neg (fun z => e (Sum.inr.inj z)), if_neg e]
  · rw [if_neg h, if_neg h]
    unfold txK
    rw [List.map_append]
    rfl
theorem txK_drop (n : Str) (tx : List (Str × Str)) : dropK (txK tx) (Sum.inr n) = txK (dropT tx n) := by
  unfold dropK dropT txK
  rw [List.filter_map]
  congr 1
  refine List.filter_congr fun p _ => ?_
  exact decide_eq_decide.mpr ⟨fun z y => z (congrArg _ y), fun z y => z (Sum.inr.inj y)⟩
theorem txK_len (tx : List (Str × Str)) : (txK tx).length = tx.length := List.length_map ..
theorem txK_keys (tx : List (Str × Str)) : (txK tx).map (·.1) = (tx.map (·.1)).map Sum.inr := by unfold txK; rw [List.map_map, List.map_map]; rfl
theorem putT_len (tx : List (Str × Str)) (n t : Str) : (putT tx n t).length ≤ tx.length + 1 := by
  unfold putT
  split
  · rw [List.length_map]; omega
  · rw [List.length_append]; exact Nat.le_refl _
theorem dropT_len (tx : List (Str × Str)) (n : Str) : (dropT tx n).length ≤ tx.length := List.length_filter_le _ _
theorem putT_mem {tx : List (Str × Str)} {n t : Str} {p : Str × Str} (h : p ∈ putT tx n t) : p ∈ tx ∨ p = (n, t) := by
  unfold putT at h
  split at h
  · obtain ⟨q, hq, e⟩ := List.mem_map.mp h
    by_cases c : q.1 = n
    · rw [if_pos c, c] at e; exact .inr e.symm
    · rw [if_neg c] at e; exact .inl (e ▸ hq)
  · rcases List.mem_append.mp h with h | h
    · exact .inl h
    · exact .inr (List.mem_singleton.mp h)
theorem dropT_mem {tx : List (Str × Str)} {n : Str} {p : Str × Str} (h : p ∈ dropT tx n) : p ∈ tx := (List.mem_filter.mp h).1
theorem getT_mem {tx : List (Str × Str)} {n t : Str} (h : getT tx n = some t) : (n, t) ∈ tx := by
  unfold getT at h
  obtain ⟨p, hp, e⟩ := Option.map_eq_some_iff.mp h
  have h1 := List.find?_some hp
  have h2 := List.mem_of_find?_eq_some hp
  have h3 : p.1 = n := of_decide_eq_true h1
  rw [← e, ← h3]; exact h2
theorem getT_put (tx : List (Str × Str)) (n t m : Str) : getT (putT tx n t) m = if m = n then some t else getT tx m := by
  have h := valV_put (txK tx) (Sum.inr n) (Sum.inr m) (.str t)
  rw [txK_put, txK_val, txK_val] at h
  by_cases e : m = n
  · rw [if_pos (by rw [e])] at h
    rw [if_pos e]
    cases g : getT (putT tx n t) m with
    | none => rw [g] at h; cases h
    | some x => rw [g] at h; cases h; rfl
  · rw [if_neg (fun z => e (Sum.inr.inj z))] at h
    rw [if_neg e]
    cases g : getT (putT tx n t) m with
    | none =>
      rw [g] at h
      cases g2 : getT tx m with
      | none => rfl
      | some y => rw [g2] at h; cases h
    | some x =>
      rw [g] at h
      cases g2 : getT tx m with
      | none => rw [g2] at h; cases h
      | some y => rw [g2] at h; cases h; rfl
theorem getT_none {tx : List (Str × Str)} {n : Str} (h : getT tx n = none) : n ∉ tx.map (·.1) := fun m => by
  obtain ⟨p, hp, e⟩ := List.mem_map.mp m
  unfold getT at h
  have h := List.find?_eq_none.mp (Option.map_eq_none_iff.mp h) p hp
  exact h (decide_eq_true e)
theorem putT_nd {tx : List (Str × Str)} (n t : Str) (h : (tx.map (·.1)).Nodup) : ((putT tx n t).map (·.1)).Nodup := by
  unfold putT
  split
  · rw [List.map_map]
    rw [show ((fun x : Str × Str => x.1) ∘ fun p : Str × Str => if p.1 = n then (p.1, t) else p) = fun x => x.1 from by
      funext p
      show (if p.1 = n then (p.1, t) else p).1 = p.1
      split <;> rfl]
    exact h
  · rename_i c
    rw [List.map_append, List.nodup_append]
    refine ⟨h, List.nodup_cons.mpr ⟨List.not_mem_nil, List.nodup_nil⟩, fun a ha b hb => ?_⟩
    rw [List.mem_singleton.mp hb]
    intro e
    obtain ⟨q, hq, eq⟩ := List.mem_map.mp ha
    exact c (List.any_eq_true.mpr ⟨q, hq, decide_eq_true (eq.trans e)⟩)
theorem dropT_nd {tx : List (Str × Str)} (n : Str) (h : (tx.map (·.1)).Nodup) : ((dropT tx n).map (·.1)).Nodup := by
  unfold dropT
  exact h.sublist (List.filter_sublist.map _)
theorem cut_map {α : Type} (f : α → V) (xs : List α) (lo hi : Option Int) : ∃ ys : List α, cutV (xs.map f) lo hi = ys.map f ∧ ys.Sublist xs := by
  refine ⟨(xs.drop (HT.sIx (xs.map f).length 0 lo)).take (HT.sIx (xs.map f).length (xs.map f).length hi - HT.sIx (xs.map f).length 0 lo), ?_, (List.take_sublist _ _).trans (List.drop_sublist _ _)⟩
  unfold cutV
  rw [← List.map_drop, ← List.map_take]
theorem cutV_to (xs : List V) (m : Nat) : cutV xs none (some (m : Int)) = xs.take m := by
  unfold cutV
  rw [HT.sIx_nat, HT.sIx_none, List.drop_zero, Nat.sub_zero]
  rcases Nat.le_total m xs.length with h | h
  · rw [Nat.min_eq_left h]
  · rw [Nat.min_eq_right h, List.take_of_length_le (Nat.le_refl _), List.take_of_length_le h]
theorem cutV_from (xs : List V) (m : Nat) : cutV xs (some (m : Int)) none = xs.drop m := by
  unfold cutV
  rw [HT.sIx_nat, HT.sIx_none, List.take_of_length_le (by rw [List.length_drop]; exact Nat.le_refl _)]
  rcases Nat.le_total m xs.length with h | h
  · rw [Nat.min_eq_left h]
  · rw [Nat.min_eq_right h, List.drop_of_length_le (Nat.le_refl _), List.drop_of_length_le h]
mutual
/-- what does not reach the lists that change stays -/
theorem Rq.off {S : List Addr} {H H' : Hp} (k : Kp S H H') (n : ∀ b ∈ S, ∀ xs, H b ≠ some (.lst xs)) : ∀ {v : V} {d : PyData}, Rq H v d → Rq H' v d
  | _, _, .non => .non
  | _, _, .bl b => .bl b
  | _, _, .int i => .int i
  | _, _, .str z => .str z
  | _, _, .lst e r => .lst (k.keep _ _ (fun m => n _ m _ e) e) (r.off k n)
  | _, _, .tup e r => .tup (k.tup _ _ e) (r.off k n)
theorem RqA.off {S : List Addr} {H H' : Hp} (k : Kp S H H') (n : ∀ b ∈ S, ∀ xs, H b ≠ some (.lst xs)) : ∀ {vs : List V} {ds : List PyData}, RqA H vs ds → RqA H' vs ds
  | _, _, .nil => .nil
  | _, _, .cons a b => .cons (a.off k n) (b.off k n)
end
end SC

/-! errors with errors behind them: a raise out of an except suite, whatever the chain of contexts is -/
namespace SC
open PySem PySem.Spec PyProof.Rows L2
/-- errors, each one the context of the one before -/
def Lnk : List (Addr × Obj) → Prop
  | [] => True
  | p :: r => (∃ fs : Array Value, p.2.data = .fields fs ∧ fs[2]? = some (match r with | [] => Value.none | q :: _ => Value.ref q.1)) ∧ Lnk r
theorem Lnk.fields : ∀ {l : List (Addr × Obj)}, Lnk l → ∀ p ∈ l, ∃ fs : Array Value, p.2.data = .fields fs
  | [], _, p, m => absurd m List.not_mem_nil
  | q :: r, h, p, m => by
    rcases List.mem_cons.mp m with rfl | m
    · exact ⟨_, h.1.choose_spec.1⟩
    · exact Lnk.fields h.2 p m
def Stands (h : Heap) (l : List (Addr × Obj)) : Prop := ∀ p ∈ l, h.get? p.1 = some p.2
theorem Lnk.tail {p : Addr × Obj} {r : List (Addr × Obj)} (h : Lnk (p :: r)) : Lnk r := h.2
theorem Lnk.behind : ∀ {pre r : List (Addr × Obj)}, Lnk (pre ++ r) → Lnk r
  | [], _, h => h
  | _ :: pre, _, h => Lnk.behind (pre := pre) h.2
section
variable {prog : Program} {w : World} {A : Around} {E : Value → Shared → Prop} {s : Shared}
theorem quiet_uc (args : Args) : (Code.builtin "proto.unchain" args).quiet = true := Code.quiet_builtin args (by decide +kernel)
theorem ref_beq {x y : Addr} (h : x ≠ y) : (Value.ref x == Value.ref y) = false := by
  first
  | simp [h]
  | exact beq_eq_false_iff_ne.mpr fun e => h (Value.ref.inj e)
theorem unchain_walk {a : Addr} {R : Result → Shared → Prop} (done : R (.ok (.ret .none)) s) : ∀ (ps pre T : List (Addr × Obj)) (x y : Addr × Obj) (t : Bool), Lnk (y :: T) → y :: T = pre ++ x :: ps → Stands s.heap (y :: T) → (∀ p ∈ y :: T, p.1 ≠ a) →
    codeAny (model prog w) A (.builtin "proto.unchain" ⟨[.ref a, .ref x.1, .ref y.1, .bool t], []⟩) R s
  | [], pre, T, x, y, t, lk, e, st, ne => by
    refine codeAny_builtin HotX.entry_unchain ?_
    have lx : Lnk [x] := Lnk.behind (pre := pre) (e ▸ lk)
    obtain ⟨⟨fs, hd, h2⟩, _⟩ := lx
    have hx : s.heap.get? x.1 = some x.2 := st x (by rw [e]; exact List.mem_append_right _ List.mem_cons_self)
    show wpAny _ _ (field (.ref x.1) 2 >>= _) _ _ s
    refine wpAny_bind (wpAny_field hx hd h2 ?_)
    rw [if_pos (show (Value.none == Value.none) = true from rfl)]
    first
    | exact wpAny_bind (wpAny_pure (wpAny_pure done))
    | exact wpAny_pure done
  | z :: ps, pre, T, x, y, t, lk, e, st, ne => by
    refine codeAny_builtin HotX.entry_unchain ?_
    have lx : Lnk (x :: z :: ps) := Lnk.behind (pre := pre) (e ▸ lk)
    obtain ⟨fs, hd, h2⟩ := lx.1
    have hx : s.heap.get? x.1 = some x.2 := st x (by rw [e]; exact List.mem_append_right _ List.mem_cons_self)
    have hz : z.1 ≠ a := ne z (by rw [e]; exact List.mem_append_right _ (List.mem_cons_of_mem _ List.mem_cons_self))
    show wpAny _ _ (field (.ref x.1) 2 >>= _) _ _ s
    refine wpAny_bind (wpAny_field hx hd h2 ?_)
    rw [if_neg (show ¬ ((Value.ref z.1 == Value.none) = true) from by simp)]
    rw [if_neg (show ¬ ((Value.ref z.1 == Value.ref a) = true) from by rw [ref_beq hz]; decide)]
    by_cases c : z.1 = y.1
    · rw [if_pos (show (Value.ref z.1 == Value.ref y.1) = true from by rw [c]; simp)]
      exact wpAny_bind (wpAny_rule (wpAny_pure done))
    · rw [if_neg (show ¬ ((Value.ref z.1 == Value.ref y.1) = true) from by rw [ref_beq c]; decide)]
      have e2 : y :: T = (pre ++ [x]) ++ z :: ps := by rw [e, List.append_assoc]; rfl
      cases t with
      | false =>
        refine wpAny_bind (wpAny_pure ?_)
        exact wpAny_pure (a := Fin.again (.builtin "proto.unchain" ⟨[.ref a, .ref z.1, .ref y.1, .bool (!false)], []⟩)) ⟨quiet_uc _, unchain_walk done ps (pre ++ [x]) T z y (!false) lk e2 st ne⟩
      | true =>
        cases pre with
        | nil =>
          have e3 : y :: T = x :: z :: ps := e
          cases e3
          refine wpAny_bind (wpAny_field hx hd h2 ?_)
          exact wpAny_pure (a := Fin.again (.builtin "proto.unchain" ⟨[.ref a, .ref z.1, .ref z.1, .bool (!true)], []⟩)) ⟨quiet_uc _, unchain_walk done ps [] ps z z (!true) lk.2 rfl (fun p m => st p (List.mem_cons_of_mem _ m)) (fun p m => ne p (List.mem_cons_of_mem _ m))⟩
        | cons p0 pre =>
          have e3 : y :: T = p0 :: (pre ++ x :: z :: ps) := e
          cases e3
          cases pre with
          | nil =>
            obtain ⟨⟨gs, gd, g2⟩, _⟩ := lk
            refine wpAny_bind (wpAny_field (st y List.mem_cons_self) gd g2 ?_)
            exact wpAny_pure (a := Fin.again (.builtin "proto.unchain" ⟨[.ref a, .ref z.1, .ref x.1, .bool (!true)], []⟩)) ⟨quiet_uc _, unchain_walk done ps [x] (z :: ps) z x (!true) lx rfl (fun p m => st p (List.mem_cons_of_mem _ m)) (fun p m => ne p (List.mem_cons_of_mem _ m))⟩
          | cons p1 pre =>
            obtain ⟨⟨gs, gd, g2⟩, lk2⟩ := lk
            refine wpAny_bind (wpAny_field (st y List.mem_cons_self) gd g2 ?_)
            exact wpAny_pure (a := Fin.again (.builtin "proto.unchain" ⟨[.ref a, .ref z.1, .ref p1.1, .bool (!true)], []⟩)) ⟨quiet_uc _, unchain_walk done ps (p1 :: pre ++ [x]) (pre ++ x :: z :: ps) z p1 (!true) lk2 (by simp) (fun p m => st p (List.mem_cons_of_mem _ m)) (fun p m => ne p (List.mem_cons_of_mem _ m))⟩
/-- the chain of the handled error, from itself -/
def Held (A : Around) (l : List (Addr × Obj)) (h : Heap) : Prop := ∃ p r, l = p :: r ∧ A.handled = some (.ref p.1) ∧ Lnk l ∧ Stands h l
theorem raise_held {α : Type} {a : Addr} {oe : Obj} {vs : Array Value} {l : List (Addr × Obj)} {x1 : Addr} {Q : α → Shared → Prop} (hot : Held A l s.heap) (first : ∀ p ∈ l.head?, p.1 = x1) (off : ∀ p ∈ l, p.1 ≠ a) (ha : s.heap.get? a = some oe) (da : oe.data = .fields vs) (hi : 2 < vs.size)
    (hE : E (.ref a) { s with heap := s.heap.update a (Obj.mapFields (·.setIfInBounds 2 (.ref x1))) }) : wpAny (model prog w) A (raiseNew (.ref a) : Sem α) Q E s := by
  obtain ⟨p, r, rfl, hh, lk, st⟩ := hot
  have e1 : p.1 = x1 := first p rfl
  subst e1
  have neq : (Value.ref p.1 != Value.ref a) = true := HotX.ref_bne (off p List.mem_cons_self)
  have walked : ∀ {Q2 : Value → Shared → Prop}, Q2 .none s → wpAny (model prog w) A (holding [Value.ref a] (runValue (.builtin "proto.unchain" ⟨[.ref a, .ref p.1, .ref p.1, .bool false], []⟩))) Q2 E s := fun {Q2} q =>
    wpAny_holding (wpAny_runValue (unchain_walk (R := fun r s' => match r with | .ok (.ret v) => Q2 v s' | .ok _ => False | .error e => E e s') q r [] r p p false lk rfl st off))
  unfold raiseNew
  refine wpAny_bind (wpAny_handled ?_)
  rw [hh]
  first
  | (show wpAny _ _ (if (Value.ref p.1 != Value.ref a) = true then _ else _) _ _ _
     rw [if_pos neq]
     first
     | exact wpAny_bind (walked (wpAny_bind (HotX.chained ha da hi (wpAny_throw hE))))
     | exact wpAny_bind (wpAny_bind (walked (HotX.chained ha da hi (wpAny_throw hE)))))
  | (refine wpAny_bind ?_
     show wpAny _ _ (if (Value.ref p.1 != Value.ref a) = true then _ else _) _ _ _
     rw [if_pos neq]
     exact wpAny_bind (walked (HotX.chained ha da hi (wpAny_throw hE))))
/-- raise of an error that was just made, while another one is handled -/
theorem raise_stmt_held {env : Env} {made : Sem Value} {Q : Flow → Shared → Prop} {l : List (Addr × Obj)} {x1 : Addr} (first : ∀ p ∈ l.head?, p.1 = x1)
    (h : wpAny (model prog w) A made (fun u t => ∃ a ob fs kind, u = .ref a ∧ t.heap.get? a = some ob ∧ ob.cls = kind ∧ ob.data = .fields fs ∧ fs[1]? = some .none ∧ 2 < fs.size ∧ (∀ p ∈ l, p.1 ≠ a) ∧ Held A l t.heap ∧
      PySem.W.Looks (model prog w) t.heap (isSubtype kind (.type "BaseException")) true ∧ PySem.W.Looks (model prog w) t.heap (typeOf kind) (.type "type") ∧ E (.ref a) { t with heap := t.heap.update a (Obj.mapFields (·.setIfInBounds 2 (.ref x1))) }) E s) :
    wpAny (model prog w) A (raiseStmt env (some made) none) Q E s := by
  unfold raiseStmt
  dsimp only
  refine wpAny_bind (wpAny_mono h (fun u t gives => ?_) fun _ _ z => z)
  obtain ⟨a, ob, fs, kind, rfl, at1, isKind, isFields, noTrace, room, off, held, sub, meta1, goal⟩ := gives
  have kindIs : PySem.W.Looks (model prog w) t.heap (typeOf (.ref a)) kind := fun A Q E s keeps q => wpAny_typeOf_ref (keeps _ _ at1) (by rw [isKind]; exact q)
  have isExc : PySem.W.Looks (model prog w) t.heap (isInstance (.ref a) (.type "BaseException")) true := kindIs.andThen sub
  have noClass : ∀ {Q2 : Bool → Shared → Prop}, Q2 false t → wpAny (model prog w) A (isType (.ref a)) Q2 E t := by
    intro Q2 q2
    simp only [isType, loadHead]
    refine wpAny_bind (wpAny_loadPart at1 ?_)
    rw [isFields]
    exact wpAny_pure q2
  refine wpAny_bind (wpAny_pure ?_)
  dsimp only
  refine wpAny_bind (wpAny_holding ?_)
  unfold excFromValue isExcClass
  refine wpAny_bind (wpAny_bind (noClass ?_))
  simp only [Bool.false_eq_true, if_false]
  refine wpAny_pure ?_
  simp only [Bool.false_eq_true, if_false]
  refine wpAny_bind (isExc.here ?_)
  simp only [if_true]
  refine wpAny_pure ?_
  refine wpAny_bind (noClass ?_)
  simp only [Bool.false_eq_true, if_false]
  unfold raisedInstance
  refine wpAny_bind (wpAny_bind (kindIs.here (wpAny_bind (meta1.here ?_))))
  rw [if_pos (beq_self_eq_true _)]
  refine wpAny_pure ?_
  unfold setFlight
  refine wpAny_bind (wpAny_bind (wpAny_field at1 isFields noTrace ?_))
  rw [if_neg (by decide)]
  refine wpAny_pure ?_
  exact raise_held held first off at1 isFields room goal
end
/-! ### an error in the air, with the errors behind it -/
/-- what is kept of the error's object: class, dict, and the errors behind it -/
def Zg (ps : List (Addr × Obj)) (cls : Value) (d : Option Addr) : Obj → Prop := fun o => (o.cls = cls ∧ o.dict = d) ∧ ∀ fs, o.data = .fields fs → fs[2]? = some (match ps with | [] => Value.none | q :: _ => Value.ref q.1)
theorem Zg.steady {ps : List (Addr × Obj)} {cls : Value} {d : Option Addr} : PySem.PXN.Steady1 (Zg ps cls d) := fun o v h => by
  refine ⟨⟨PySem.PXN.steady_cls o v h.1.1, PySem.PXN.steady_dict o v h.1.2⟩, ?_⟩
  have h2 := h.2
  clear h
  obtain ⟨c, dd, dt, sl⟩ := o
  cases dt with
  | fields gs =>
    intro fs e
    have e2 : gs.setIfInBounds 1 v = fs := Data.fields.inj e
    have e3 : (gs.setIfInBounds 1 v)[2]? = gs[2]? := by
      first
      | exact Array.getElem?_setIfInBounds_ne (by decide)
      | simp [Array.getElem?_setIfInBounds]
    rw [← e2, e3]
    exact h2 gs rfl
  | _ =>
    intro fs e
    first
    | exact Data.noConfusion e
    | cases e
theorem Zg.zc {ps : List (Addr × Obj)} {cls : Value} {d : Option Addr} {o : Obj} (h : Zg ps cls d o) : Zc cls d o := h.1
theorem Zg.ofN {cls : Value} {d : Option Addr} {o : Obj} (h : L2N.Zn cls d o) : Zg [] cls d o := ⟨⟨h.1, h.2.1⟩, h.2.2⟩
/-- the errors behind it stand on the ground, untracked -/
def Row (B : Heap) (H : Hp) (ps : List (Addr × Obj)) : Prop := Lnk ps ∧ ∀ p ∈ ps, B.get? p.1 = some p.2 ∧ H p.1 = none
theorem Row.nil {B : Heap} {H : Hp} : Row B H [] := ⟨trivial, fun p m => absurd m List.not_mem_nil⟩
def AirG (X : Cx) (W : WX) (u : Value) (s' : Shared) : Prop :=
  ∃ (a : Addr) (B : Heap) (sI : Shared) (held : List (Addr × Obj)) (τ : L2.St) (G : Hp) (cls : Value) (d : Option Addr) (ps : List (Addr × Obj)),
    u = .ref a ∧ Inv X held τ G sI ∧ (∀ b o, sI.heap.get? b = some o → b ∉ frs X.stack → B.get? b = some o) ∧ sI.heap.UpToSlots s'.heap ∧
      Sky B X.stack a (Zg ps cls d) X.env.locals s'.heap ∧ Row B G ps ∧ G a = none ∧ s'.os = sI.os ∧ AllBare s'.gens ∧ W cls d τ G
def TakesG (X : Cx) (W : WX) : Prop := ∀ u s', AirG X W u s' → X.xe u s'
theorem sky_imp {B : Heap} {l : List Env} {a L : Addr} {Z Z' : Obj → Prop} {h : Heap} (z : ∀ o, Z o → Z' o) (x : Sky B l a Z L h) : Sky B l a Z' L h := by
  rcases x with ⟨h1, h2, h3, oe, fs, h4, h5, h6⟩ | x | x
  · exact .inl ⟨h1, h2, h3, oe, fs, h4, z _ h5, h6⟩
  · exact .inr (.inl (L2H.flyingZ_imp z x))
  · exact .inr (.inr ⟨x.1, x.2.1, x.2.2.1, L2H.tracedZ_imp z x.2.2.2⟩)
/-- what takes errors with errors behind them takes those without -/
theorem TakesG.toN {X : Cx} {W : WX} (t : TakesG X W) : L2N.Takes X W := fun u s' ⟨a, B, sI, held, τ, G, cls, d, e, I, nb, up, sky, na, os, ag, wish⟩ =>
  t u s' ⟨a, B, sI, held, τ, G, cls, d, [], e, I, nb, up, sky_imp (fun _ => Zg.ofN) sky, Row.nil, na, os, ag, wish⟩
theorem Takes.toG {X : Cx} {W : WX} (t : Takes X W) : TakesG X W := fun u s' ⟨a, B, sI, held, τ, G, cls, d, ps, e, I, nb, up, sky, row, na, os, ag, wish⟩ =>
  t u s' ⟨a, B, sI, held, τ, G, cls, d, e, I, nb, up, sky_imp (fun _ => Zg.zc) sky, na, os, ag, wish⟩
/-- behind a call that let an error out -/
def CXG (P : Program) (w : World) (outer : List Env) (H : Hp) (s : Shared) (E : XK) (u : Value) (s' : Shared) : Prop :=
  ∃ (a : Addr) (B : Heap) (G : Hp) (cls : Value) (d : Option Addr) (ps : List (Addr × Obj)), u = .ref a ∧ HandSPX.FlyingZ B outer a (Zg ps cls d) s'.heap ∧ HOk P w G B ∧ UB (frs outer) H G s.heap B s'.heap ∧ Row B G ps ∧ G a = none ∧ s'.os = s.os ∧ AllBare s'.gens ∧ E cls d G
section
variable {X : Cx} {held : List (Addr × Obj)} {τ : L2.St} {H G : Hp} {sI s s' : Shared} {B : Heap} {W : WX} {E : XK}
theorem AirG.called (I : Inv X held τ H s) (wish : ∀ cls d G, E cls d G → W cls d τ G) {u : Value} (c : CXG X.prog X.w X.stack H s E u s') : AirG X W u s' := by
  obtain ⟨a, B, G, cls, d, ps, rfl, fly, good, ub, row, na, os, ag, told⟩ := c
  obtain ⟨D, d1, d2⟩ := restrict s'.heap fun b => (B.get? b).isSome || decide (b ∈ frs X.stack)
  have stays : B.StaysIn s'.heap := fly.1
  have ofB : ∀ b o, B.get? b = some o → D.get? b = some o := fun b o e => (d1 b (by simp [e])).trans (stays b o e)
  have ofF : ∀ b, b ∈ frs X.stack → D.get? b = s'.heap.get? b := fun b m => d1 b (by simp [m])
  have back : ∀ b o, D.get? b = some o → s'.heap.get? b = some o ∧ ((B.get? b).isSome = true ∨ b ∈ frs X.stack) := fun b o e => by
    cases q : ((B.get? b).isSome || decide (b ∈ frs X.stack)) with
    | false => rw [d2 b q] at e; cases e
    | true => exact ⟨by rw [← d1 b q]; exact e, by simpa [Bool.or_eq_true] using q⟩
  refine ⟨a, B, { s with heap := D, gens := s'.gens, drawn := s'.drawn, toks := s'.toks }, held, τ, G, cls, d, ps, rfl, I.call (ch := []) ⟨fun b o e n m _ => ofB b o (ub.keep b o e n m), fun b o e _ m _ => ?_, fun b o e n _ => ub.free b o e n, fun b o e _ => ?_, ub.tups, ub.frzs, ub.tbls⟩ (good.kept ofB) ag (fun _ z => nomatch z),
    fun b o e m => ?_, Heap.UpToSlots.of_keeps fun b o e => (back b o e).1, .inr (.inl fly), row, na, os, ag, wish _ _ _ told⟩
  · obtain ⟨sl, q⟩ := ub.slot b o e m
    exact ⟨sl, (ofF b m).trans q⟩
  · by_cases m : b ∈ frs X.stack
    · obtain ⟨sl, q⟩ := ub.slot b o e m
      exact ⟨_, (ofF b m).trans q⟩
    · obtain ⟨o2, q⟩ := ub.there b o e m
      exact ⟨o2, ofB b o2 q⟩
  · obtain ⟨e2, where1⟩ := back b o e
    rcases where1 with z | z
    · obtain ⟨o2, q⟩ := Option.isSome_iff_exists.mp z
      have y := stays b o2 q
      rw [e2] at y
      cases y
      exact q
    · exact absurd z m
/-- an error that is new in the air -/
theorem AirG.fresh {a : Addr} {ob : Obj} {fs : Array Value} {cls : Value} {d : Option Addr} {ps : List (Addr × Obj)} (I : Inv X held τ H sI) (keeps : ∀ b o, sI.heap.get? b = some o → s'.heap.get? b = some o) (was : sI.heap.get? a = none) (is : s'.heap.get? a = some ob)
    (z : Zg ps cls d ob) (isFields : ob.data = .fields fs) (noTrace : fs[1]? = some .none) (lk : Lnk ps) (pinned : ∀ p ∈ ps, sI.heap.get? p.1 = some p.2 ∧ H p.1 = none ∧ p.1 ∉ frs X.stack) (na : H a = none) (os : s'.os = sI.os) (ag : AllBare s'.gens) (wish : W cls d τ H) : AirG X W (.ref a) s' := by
  refine ⟨a, PySem.W.hideAll sI.heap (frs X.stack), sI, held, τ, H, cls, d, ps, rfl, I, fun b o e m => PySem.W.hideAll_get _ e m, Heap.UpToSlots.of_keeps keeps,
    .inl ⟨fun b o e => keeps b o (PySem.W.of_hideAll _ e), ?_, Heap.FunFrames.of_keeps (fun b o e _ => ⟨o, keeps b o e, rfl⟩) (funFrames_none I.stack fun b m => PySem.W.hideAll_none _ m), ob, fs, is, z, isFields, noTrace⟩,
    ⟨lk, fun p m => let ⟨q1, q2, q3⟩ := pinned p m; ⟨PySem.W.hideAll_get _ q1 q3, q2⟩⟩, na, os, ag, wish⟩
  cases q : (PySem.W.hideAll sI.heap (frs X.stack)).get? a with
  | none => rfl
  | some o =>
    have y := PySem.W.of_hideAll _ q
    rw [was] at y
    cases y
/-- it leaves the def -/
theorem AirG.leaves (stk : X.stack = X.env :: X.outer) (frm : X.env.frame = some X.env.locals) (noEx : X.ex = []) {E2 : Value → Shared → Prop} (wish : ∀ cls d σ H, W cls d σ H → E cls d H) {u : Value} (x : AirG X W u s') :
    wpAny (model X.prog X.w) X.A (leaving X.env u) (fun _ t => CXG X.prog X.w X.outer X.H_0 X.s_0 E u t) E2 s' := by
  obtain ⟨a, B, sI, held, τ, G, cls, d, ps, rfl, I, nb, up, sky, row, na, os, ag, told⟩ := x
  have frames : X.A.frames = some (X.env :: X.outer) := by rw [I.ok.frames, stk]
  have notFrame : ∀ b o, X.s_0.heap.get? b = some o → b ∉ X.fs → b ∉ frs X.stack := fun b o e m mm => by
    rcases List.mem_cons.mp (I.stkSub b mm) with y | y
    · have below := Heap.lt_size e
      rw [y] at below
      exact absurd (Nat.lt_of_lt_of_le below I.ok.above) (Nat.lt_irrefl _)
    · exact m y
  have notEx : ∀ b, b ∉ X.ex := fun b m => by rw [noEx] at m; cases m
  have ends : ∀ h2, HandSPX.FlyingZ B X.outer a (Zg ps cls d) h2 → s'.heap.UpToSlots h2 → CXG X.prog X.w X.outer X.H_0 X.s_0 E (.ref a) { s' with heap := h2 } := fun h2 fly up2 => by
    refine ⟨a, B, G, cls, d, ps, rfl, fly, I.inGround nb, ⟨fun b o e n m => nb b o (I.base.keep b o e n m (notEx b)) (notFrame b o e m), fun b o e m => ?_, fun b o e n => I.base.free b o e n (notEx b), fun b o e m => ?_, I.base.tups, I.base.frzs, I.base.tbls⟩,
      row, na, os.trans I.os, ag, wish _ _ _ _ told⟩
    · obtain ⟨_, o2, e2, plain⟩ := I.ok.funs.mem m
      rw [e] at e2
      cases e2
      obtain ⟨_, q1⟩ := I.base.slot b o e (I.ok.frf b m) m (notEx b)
      obtain ⟨_, q2⟩ := up b _ q1 plain
      obtain ⟨sl, q3⟩ := up2 b _ q2 plain
      exact ⟨sl, q3⟩
    · obtain ⟨o2, q⟩ := I.base.there b o e (notEx b)
      exact ⟨o2, nb b o2 q (notFrame b o e m)⟩
  rw [stk] at sky
  rcases sky with ⟨k1, k2, k3, ob, fs, k4, k5, k6, k7⟩ | fly | hd
  · exact PySem.PXN.leaving_firstZ Zg.steady frames k3 frm k4 k1 k2 k6 k7 k5 ends
  · exact PySem.PXN.leaves_onZ Zg.steady frames frm fly ends
  · exact HandSPX.leaves_heldZ frm hd ends
theorem takesG_of (stk : X.stack = X.env :: X.outer) (frm : X.env.frame = some X.env.locals) (noEx : X.ex = []) {E2 : Value → Shared → Prop}
    (lets : X.xe = fun e t => wpAny (model X.prog X.w) X.A (leaving X.env e) (fun _ t2 => CXG X.prog X.w X.outer X.H_0 X.s_0 E e t2) E2 t) : TakesG X (fun cls d _ H => E cls d H) := fun u s' x => by
  rw [lets]
  exact AirG.leaves (W := fun cls d _ H => E cls d H) (E := E) stk frm noEx (fun _ _ _ _ y => y) x
theorem passG (tk : TakesG X W) (wish : ∀ cls d σ H, E cls d H → W cls d σ H) : Passes (CXG X.prog X.w) X E := fun _ τ _ _ e s' I c => tk e s' (AirG.called I (fun cls d G y => wish cls d τ G y) c)
theorem passGL : Passes (CXG X.prog X.w) X E0 := fun _ _ _ _ _ _ _ c => by
  obtain ⟨_, _, _, _, _, _, _, _, _, _, _, _, _, _, z⟩ := c
  exact z.elim
theorem passAtG (tk : TakesG X W) (σ : L2.St) : PassesAt (CXG X.prog X.w) X σ (WE W σ) := fun _ _ _ e s' I c => tk e s' (AirG.called I (fun _ _ _ y => y) c)
end
section
variable {P : Program} {w : World} {K : PySem.W.Frag} {mg : Str → Option Value} {base : Heap}
/-- what lets out errors without a context, or any error -/
theorem _root_.L2.FnOk.toG {k : Nat} {f : Addr} {fd : FuncData} {ps : List Str} {sp : Sp} (F : FnOk P w K mg base (L2N.CX P w) k f fd ps sp) : FnOk P w K mg base (CXG P w) k f fd ps sp :=
  ⟨F.len, fun A outer s H args us vs Q E hr h0 hb hv hsp => PySem.codeAny_mono (F.run A outer s H args us vs Q E hr h0 hb hv hsp) fun r s' ended => by
    match r, ended with
    | .ok (.ret u), y => exact y
    | .ok .next, y => exact y
    | .ok .brk, y => exact y
    | .ok .cont, y => exact y
    | .error e, ⟨a, B, G, cls, d, e1, fly, good, ub, rest⟩ => exact ⟨a, B, G, cls, d, [], e1, L2H.flyingZ_imp (fun o => Zg.ofN) fly, good, ub, Row.nil, rest⟩⟩
theorem _root_.L2.FnOk.ofG {k : Nat} {f : Addr} {fd : FuncData} {ps : List Str} {sp : Sp} (F : FnOk P w K mg base (CXG P w) k f fd ps sp) : FnOk P w K mg base (L2.CX P w) k f fd ps sp :=
  ⟨F.len, fun A outer s H args us vs Q E hr h0 hb hv hsp => PySem.codeAny_mono (F.run A outer s H args us vs Q E hr h0 hb hv hsp) fun r s' ended => by
    match r, ended with
    | .ok (.ret u), y => exact y
    | .ok .next, y => exact y
    | .ok .brk, y => exact y
    | .ok .cont, y => exact y
    | .error e, ⟨a, B, G, cls, d, _, e1, fly, good, ub, _, rest⟩ => exact ⟨a, B, G, cls, d, e1, L2H.flyingZ_imp (fun o => Zg.zc) fly, good, ub, rest⟩⟩
theorem Cal.toG {k : Nat} {x : Str} {sp : Sp} (c : Cal P w K mg base (L2N.CX P w) k x sp) : Cal P w K mg base (CXG P w) k x sp :=
  let ⟨f, fd, ps, F, r⟩ := c.ex
  ⟨f, fd, ps, F.toG, r⟩
theorem Cal.ofG {k : Nat} {x : Str} {sp : Sp} (c : Cal P w K mg base (CXG P w) k x sp) : Cal P w K mg base (L2.CX P w) k x sp :=
  let ⟨f, fd, ps, F, r⟩ := c.ex
  ⟨f, fd, ps, F.ofG, r⟩
theorem _root_.L2.Fun.okG {x qual : Str} {st : Stmt} {f : Addr} {fd : FuncData} {N ps : List Str} {k : Nat} {sp : Sp} (F : Fun K x qual st f fd) (S : FnScope N ps (defScope st)) (len : ∀ vs H Q E, sp vs H Q E → vs.length = ps.length)
    (body : ∀ (cdv : Value) (A : Around) (outer : List Env) (s : Shared) (H : Hp) (vs : List V) (Q : VK) (E : XK), Room k (A.deeper (envOfC qual (defScope st) s.heap.objs.size f cdv)) → sp vs H Q E →
      ∃ t, PSs (cxOf (CXG P w) P w K mg base N qual (defScope st) f cdv A outer s H E) (defBody st) t ∧ t { nx := fun _ G => Q .non G, rt := Q } (start N vs) H) : FnOk P w K mg base (CXG P w) (k + 1) f fd ps sp := by
  obtain ⟨oc, od, kV, doc, pm, an, cdv, ct, osl, rfl, lk, hcd⟩ := F.ex
  exact fn_of lk hcd S len fun A outer s H vs Q E hr hsp => body cdv A outer s H vs Q E hr hsp
end
/-! ### raise out of a suite -/
/-- the context bears the handled error and those behind it -/
def HotG (X : Cx) : Prop := ∃ (p : Addr × Obj) (r : List (Addr × Obj)), X.A.handled = some (.ref p.1) ∧ Lnk (p :: r) ∧ ∀ q ∈ p :: r, q ∈ X.pn
theorem ps_raiseG {X : Cx} {W : WX} {e : Expr} {t : L2.St → Hp → XK → Prop} {pos : Pos} (hot : HotG X) (tk : TakesG X W) (he : L2N.PMk X e t) : PS X (.Raise (some e) none pos) (fun _ σ H => t σ H fun cls d H' => W cls d σ H') := by
  refine ⟨fun held s σ H D I pre => ?_⟩
  obtain ⟨p, r, hh, lk, inPins⟩ := hot
  show wpAny _ _ (do standAt pos; raiseStmt X.env (some (do let v ← eval e X.env; standAt pos; pure v)) none) _ _ _
  refine wpAny_bind (wpAny_standAt (raise_stmt_held (l := p :: r) (x1 := p.1) (fun q m => by cases m; rfl) (wpAny_bind (wpAny_mono (he held s σ H _ I pre) (fun u t made => wpAny_bind (wpAny_standAt (wpAny_pure ?_))) fun _ _ z => z))))
  obtain ⟨a, ob, fs, sI, G, cls, d, rfl, J, keeps, was, is, z, isFields, noTrace, na, os, ag, rs, wish⟩ := made
  obtain ⟨r1, r2⟩ := rs (model X.prog X.w) t.heap (J.kIn.keeps keeps)
  have pinned : ∀ q ∈ p :: r, sI.heap.get? q.1 = some q.2 ∧ G q.1 = none ∧ q.1 ∉ frs X.stack := fun q m => by
    obtain ⟨g1, g2, g3, g4, _⟩ := J.pin q (List.mem_append_left _ (inPins q m))
    exact ⟨g1, g2, fun mm => (List.mem_cons.mp (J.stkSub q.1 mm)).elim g3 g4⟩
  have off : ∀ q ∈ p :: r, q.1 ≠ a := fun q m y => by
    have := (pinned q m).1
    rw [y, was] at this
    cases this
  have room : 2 < fs.size := (Array.getElem?_eq_some_iff.mp (z.2.2 fs isFields)).1
  have trace2 : (fs.setIfInBounds 2 (Value.ref p.1))[1]? = some Value.none := by
    have e3 : (fs.setIfInBounds 2 (Value.ref p.1))[1]? = fs[1]? := by
      first
      | exact Array.getElem?_setIfInBounds_ne (by decide)
      | simp [Array.getElem?_setIfInBounds]
    rw [e3]
    exact noTrace
  refine ⟨a, ob, fs, cls, rfl, is, z.1, isFields, noTrace, room, off, ⟨p, r, rfl, hh, lk, fun q m => keeps _ _ (pinned q m).1⟩, r1, r2, tk _ _ (AirG.fresh (ps := p :: r) J (fun b o g => ?_) was (Heap.get?_update_self _ is (Obj.isFreed_of_fields (Obj.data_mapFields isFields _)))
    ⟨⟨(Obj.cls_mapFields ..).trans z.1, (HandSPX.dict_mapFields ..).trans z.2.1⟩, fun gs eg => ?_⟩ (Obj.data_mapFields isFields _) trace2 lk pinned na os ag wish)⟩
  · show (t.heap.update a (Obj.mapFields (·.setIfInBounds 2 (.ref p.1)))).get? b = some o
    rw [Heap.get?_update_other _ _ (fun y => by rw [← y, was] at g; cases g)]
    exact keeps b o g
  · rw [Obj.data_mapFields isFields] at eg
    rw [← Data.fields.inj eg]
    first
    | exact Array.getElem?_setIfInBounds_self_of_lt room
    | simp [room]
/-! ### try, with clauses of one class or two, named or not, whose suites may raise -/
inductive Guard (X : Cx) : Expr → List Value → Prop
  | one {x : Str} {c : Value} {p : Pos} : Names X x c → Guard X (.Name x p) [c]
  | two {x y : Str} {c d : Value} {p q pos : Pos} {k : Nat} : Names X x c → Names X y d → Guard X (.Tuple [.Name x p, .Name y q] k pos) [c, d]
theorem Guard.suite {X : Cx} {g : Expr} {l : List Value} {e : Addr} {pn : List (Addr × Obj)} (h : Guard X g l) : Guard (X.suite e pn) g l := by
  cases h with
  | one a => exact .one a
  | two a b => exact .two a b
abbrev ClauseG := List Value × (Addr → Value → Option Addr → TS)
inductive ClG where
  | named (k : ClauseG)
  | bare (k : ClauseG)
def wClG (K : PySem.W.Frag) (i : Nat) (out : WX) (D : Ends) : List ClG → WX
  | [] => out
  | .named k :: r => fun cv dd τ G => ∃ yes, PySem.W.exmAny K cv k.1 = some yes ∧ if yes = true then (∀ e, G e = none → k.2 e cv dd (dropE i D) (τ.set i (some (.ref e))) G) else wClG K i out D r cv dd τ G
  | .bare k :: r => fun cv dd τ G => ∃ yes, PySem.W.exmAny K cv k.1 = some yes ∧ if yes = true then (∀ e, G e = none → k.2 e cv dd D τ G) else wClG K i out D r cv dd τ G
inductive WrittenG (X : Cx) (out : WX) (n : Str) : List ExceptHandler → List ClG → Prop
  | none : WrittenG X out n [] []
  | one {g : Expr} {k : ClauseG} {st : Stmt} {more : List Stmt} {p2 : Pos} {hs : List ExceptHandler} {ks : List ClG} (guard : Guard X g k.1)
      (runs : ∀ (e : Addr) (ob : Obj) (cv : Value) (dd : Option Addr) (held : List (Addr × Obj)), Zc cv dd ob → (∃ fs, ob.data = .fields fs) → HotG (X.suite e ((e, ob) :: held)) → PSs (X.suite e ((e, ob) :: held)) (st :: more) (k.2 e cv dd)) (rest : WrittenG X out n hs ks) :
      WrittenG X out n (.ExceptHandler (some g) (some n) (st :: more) p2 :: hs) (.named k :: ks)
  | bare {g : Expr} {k : ClauseG} {st : Stmt} {more : List Stmt} {p2 : Pos} {hs : List ExceptHandler} {ks : List ClG} (guard : Guard X g k.1)
      (runs : ∀ (e : Addr) (ob : Obj) (cv : Value) (dd : Option Addr) (held : List (Addr × Obj)), Zc cv dd ob → (∃ fs, ob.data = .fields fs) → TakesG (L2H.suiteX X e ((e, ob) :: held)) out → HotG (L2H.suiteX X e ((e, ob) :: held)) → PSs (L2H.suiteX X e ((e, ob) :: held)) (st :: more) (k.2 e cv dd)) (rest : WrittenG X out n hs ks) :
      WrittenG X out n (.ExceptHandler (some g) none (st :: more) p2 :: hs) (.bare k :: ks)
section
variable {X : Cx} {E E2 : Value → Shared → Prop}
theorem name_at {x : Str} {c : Value} {p : Pos} {Y : Cx} {τ : L2.St} {G : Hp} {s : Shared} {held : List (Addr × Obj)} (named : Names Y x c) (I : Inv Y held τ G s) {Q : Value → Shared → Prop} {E : Value → Shared → Prop} (q : Q c s) : wpAny (model Y.prog Y.w) Y.A (eval (.Name x p) Y.env) Q E s := by
  rcases named with ⟨gl, nodbg, isMod | ⟨isMod, isB, nn⟩⟩
  · exact ld_glob I gl isMod q nodbg
  · exact ld_blt I gl isMod isB q nn nodbg
theorem guard_ok {g : Expr} {l : List Value} {e : Addr} {cv : Value} {b : Bool} {h : Heap} {t : Shared} {τ : L2.St} {G : Hp} {held : List (Addr × Obj)} {Y : Cx} {R : Bool → Shared → Prop} (gd : Guard Y g l) (I : Inv Y held τ G { t with heap := h })
    (kind : PySem.W.Looks (model Y.prog Y.w) h (typeOf (.ref e)) cv) (hx : PySem.W.exmAny Y.K cv l = some b) (next : ∀ h2, (∀ c o, h.get? c = some o → h2.get? c = some o) → R b { t with heap := h2 }) :
    wpAny (model Y.prog Y.w) Y.A (eval g Y.env) (fun c s1 => wpAny (model Y.prog Y.w) Y.A (excMatches (.ref e) c) R E s1) E2 { t with heap := h } := by
  cases gd with
  | one named =>
    obtain ⟨b1, d1, x1, y1, z1⟩ := PySem.W.exmAny_cons hx
    have w2 : some false = some d1 := y1
    cases w2
    rw [Bool.or_false] at z1
    subst z1
    exact name_at named I ((PySem.W.exm_one (M := model Y.prog Y.w) I.kIn kind x1).here (next h fun _ _ q => q))
  | @two x y c d p q pos k n1 n2 =>
    refine PyProof.Rows.Tuple_ ?_
    have sx : starEach [.Name x p, .Name y q] Y.env = [(false, eval (.Name x p) Y.env), (false, eval (.Name y q) Y.env)] := rfl
    refine spliced_more (name_at n1 I ?_)
    refine spliced_more (name_at n2 I ?_)
    refine spliced_none ?_
    refine wpAny_newTuple ?_
    have keeps : ∀ b o, h.get? b = some o → (h.push { cls := .type "tuple", data := .seq [c, d].toArray }).get? b = some o := fun b o q => Heap.get?_push_of_some _ q
    have J : Y.K.In (h.push { cls := .type "tuple", data := .seq [c, d].toArray }) := I.kIn.keeps keeps
    exact (PySem.W.exm_tup2 (M := model Y.prog Y.w) J (kind.keeps keeps) (Heap.get?_push_size _ rfl) hx).here (next _ keeps)
end
theorem flying_keeps {B h h2 : Heap} {l : List Env} {a : Addr} {Z : Obj → Prop} (x : HandSPX.FlyingZ B l a Z h) (k : ∀ b o, h.get? b = some o → h2.get? b = some o) : HandSPX.FlyingZ B l a Z h2 := by
  obtain ⟨k1, k2, k3, oe, vs, T, oT, ts, he, hz, hd, h1, hnT, hTe, hT, hdT, h3⟩ := x
  exact ⟨fun b o q => k b o (k1 b o q), k2, k3.of_keeps fun b o q _ => ⟨o, k b o q, rfl⟩, oe, vs, T, oT, ts, k _ _ he, hz, hd, h1, hnT, hTe, k _ _ hT, hdT, h3⟩
section
variable {X : Cx} {n : Str} {i : Nat} {body : List Stmt} {first : ExceptHandler} {others : List ExceptHandler} {ks : List ClG} {pos : Pos} {tb : WX → TS} {out : WX}
theorem ps_try_G (stk : X.stack = X.env :: X.outer) (frm : X.env.frame = some X.env.locals) (nodup : X.N.Nodup) (slot : X.N[i]? = some n) (isLoc : X.env.kindOf n = some .local) (lets : ∀ hd : Option Value, PassesOwnAt (model X.prog X.w) (X.A.mark hd) X.A X.env X.xe) (leaves : TakesG X out)
    (runBody : ∀ (V : WX) (held : List (Addr × Obj)) (ex : Value → Shared → Prop), TakesG (X.tr held ex) V → PassesOwn (model X.prog X.w) X.A X.env ex → PSs (X.tr held ex) body (tb V))
    (clauses : WrittenG X out n (first :: others) ks) : PS X (.Try body (first :: others) [] [] pos) (fun D τ G => tb (wClG X.K i out D ks) D τ G) := by
  refine ⟨fun held s τ G D I pre => ?_⟩
  have good := I.ok
  have around : X.A.frames = some (X.env :: X.outer) := by rw [good.frames, stk]
  refine wpAny_Try_except ?_
  let after : Value → Shared → Prop := fun ev t1 => wpAny (model X.prog X.w) X.A (noteFrame ev X.env)
    (fun _ t2 => wpAny (model X.prog X.w) X.A (setFlight ev none) (fun _ t3 => wpAny (model X.prog X.w) X.A (handleBy ev X.env (first :: others)) (SP X held D) X.xe t3) X.xe t2) X.xe t1
  refine wpAny_mono ((runBody (wClG X.K i out D ks) (X.pn ++ held) after (fun ev t thrown => ?_) PassesOwn.looking).run [] s τ G D (I.toTry _) pre) (fun flow t done => ?_) (fun _ _ z => z)
  · obtain ⟨e, base, sT, heldT, τ1, G1, cv, dd, ps, rfl, IT, newer, upT, skyT, row, freeE, osT, gensT, wish⟩ := thrown
    have I1 : Inv X held τ1 G1 sT := IT.ofTry good
    show wpAny (model X.prog X.w) X.A (noteFrame (.ref e) X.env) _ _ _
    refine L2N.Sky.land Zg.steady around frm (by rw [← stk]; exact skyT) fun h0 fly0 up0 => ?_
    have plain : ∀ {h : Heap} {p : Addr} {ob : Obj} {fs : Array Value}, HandSPX.FlyingZ base (X.env :: X.outer) e (Zg ps cv dd) h → h.get? p = some ob → ob.data = .fields fs → p ∉ frs (X.env :: X.outer) := fun {h p ob fs} fly g f m => by
      obtain ⟨_, ob2, at2, notFields⟩ := fly.2.2.1.mem m
      rw [g] at at2
      exact notFields _ (Option.some.inj at2 ▸ f)
    have offL : ∀ {p : Addr}, p ∉ frs (X.env :: X.outer) → p ≠ X.env.locals ∧ p ∉ X.fs := fun {p} no =>
      ⟨fun z => no (List.mem_filterMap.mpr ⟨X.env, List.mem_cons_self, by rw [frm, z]⟩), fun m =>
        let ⟨en, enIn, q⟩ := List.mem_filterMap.mp m
        no (List.mem_filterMap.mpr ⟨en, List.mem_cons_of_mem _ enIn, q⟩)⟩
    have rowFields : ∀ p ∈ ps, ∃ fs : Array Value, p.2.data = .fields fs := row.1.fields
    have landed : ∀ {h : Heap}, HandSPX.FlyingZ base (X.env :: X.outer) e (Zg ps cv dd) h → sT.heap.UpToSlots h → ∃ (ob : Obj) (fs : Array Value), Zg ps cv dd ob ∧ ob.data = .fields fs ∧ h.get? e = some ob ∧ (∀ p ∈ ps, h.get? p.1 = some p.2) ∧ Inv (X.suite e ((e, ob) :: (X.pn ++ (held ++ ps)))) [] τ1 G1 { t with heap := h } := fun {h} fly up => by
      have IA : Inv X held τ1 G1 { t with heap := h } := I1.landed newer fly.1 up osT gensT
      obtain ⟨ob, fs, obAt, obZ, obF⟩ := fly.there
      obtain ⟨o1, o2⟩ := offL (plain fly obAt obF)
      have stand : ∀ p ∈ ps, h.get? p.1 = some p.2 := fun p m => fly.1 _ _ (row.2 p m).1
      have IP : Inv X (held ++ ps) τ1 G1 { t with heap := h } := IA.pins_of fun p m => by
        rcases List.mem_append.mp m with m | m
        · exact IA.pin p (List.mem_append_right _ m)
        · obtain ⟨gs, isF⟩ := rowFields p m
          obtain ⟨a1, a2⟩ := offL (plain fly (stand p m) isF)
          exact ⟨stand p m, (row.2 p m).2, a1, a2, fun v z => by rw [isF] at z; cases z⟩
      exact ⟨ob, fs, obZ, obF, obAt, stand, IP.suite obAt obF freeE o1 o2⟩
    clear pre
    suffices each : ∀ {hs : List ExceptHandler} {cs : List ClG} {h : Heap}, WrittenG X out n hs cs → HandSPX.FlyingZ base (X.env :: X.outer) e (Zg ps cv dd) h → sT.heap.UpToSlots h → wClG X.K i out D cs cv dd τ1 G1 →
        wpAny (model X.prog X.w) X.A (handleBy (.ref e) X.env hs) (SP X held D) X.xe { t with heap := h } from each clauses fly0 (upT.trans up0) wish
    intro hs cs h written
    induction written generalizing h with
    | none =>
      intro fly up goesOn
      refine wpAny_handleBy_nil ?_
      obtain ⟨_, _, _, ob3, fs3, tb3, _, _, at3, _, f3, g3, _⟩ := id fly
      unfold PySem.passOn
      refine wpAny_bind (wpAny_field at3 f3 g3 ?_)
      rw [if_neg (by simp)]
      have again : wpAny (model X.prog X.w) X.A (setFlight (.ref e) X.env.frame) (fun _ t4 => wpAny (model X.prog X.w) X.A (throw (.ref e) : Sem Flow) (SP X held D) X.xe t4) X.xe { t with heap := h } := by
        rw [frm]
        exact HandSPX.setFlight_upZ fly fun hB heldB upB => wpAny_throw (leaves _ _ ⟨e, base, sT, held, τ1, G1, cv, dd, ps, rfl, I1, newer, up.trans upB, .inr (.inr (by rw [stk]; exact heldB)), row, freeE, osT, gensT, goesOn⟩)
      first
        | exact wpAny_bind (wpAny_pure (wpAny_bind again))
        | exact wpAny_bind again
    | @one g k st more p2 hs2 ks2 guard runs rest ih =>
      rintro fly up ⟨yes, match1, w2⟩
      obtain ⟨ob, fs, obZ, obF, obAt, stand, inSuite⟩ := landed fly up
      have kind : PySem.W.Looks (model X.prog X.w) h (typeOf (.ref e)) cv := fun A Q E u kk q => wpAny_typeOf_ref (kk _ _ obAt) (by rw [obZ.1.1]; exact q)
      refine wpAny_handleBy_cons (codeAny_handlers_test ?_) (by intro q; cases q)
      refine guard_ok (Y := X.suite e ((e, ob) :: (X.pn ++ (held ++ ps)))) guard.suite inSuite kind match1 fun h2 keeps => ?_
      have fly2 := flying_keeps fly keeps
      have up2 : sT.heap.UpToSlots h2 := up.trans (Heap.UpToSlots.of_keeps keeps)
      cases yes with
      | false =>
        rw [if_neg (by decide)] at w2
        show wpAny _ X.A (handleBy (.ref e) X.env hs2) _ _ _
        exact ih fly2 up2 w2
      | true =>
        rw [if_pos rfl] at w2
        refine codeAny_handlers_suite_as (HandSPX.lands_againZ fly2 fun hB flyB upB => ?_)
        obtain ⟨obB, fsB, zB, fB, atB, standB, SB⟩ := landed flyB (up2.trans upB)
        refine store_ok (X := X.suite e ((e, obB) :: (X.pn ++ (held ++ ps)))) (v := .ref e) SB nodup slot (.inl isLoc) rfl (fun t5 I5 => ?_) (.inr isLoc)
        have hot : HotG (X.suite e ((e, obB) :: (X.pn ++ (held ++ ps)))) := ⟨(e, obB), ps, rfl, ⟨⟨fsB, fB, zB.2 fsB fB⟩, row.1⟩, fun q m => by
          rcases List.mem_cons.mp m with rfl | m
          · exact List.mem_cons_self
          · exact List.mem_cons_of_mem _ (List.mem_append_right _ (List.mem_append_right _ m))⟩
        refine wpAny_mono ((runs e obB cv dd (X.pn ++ (held ++ ps)) zB.1 ⟨_, fB⟩ hot).run [] t5 _ G1 _ I5 (w2 e freeE)) (fun flow t6 ended => ?_) (fun _ _ z => False.elim z)
        have gone : ∀ {τ6 : L2.St} {G6 : Hp} {Q : Shared → Prop}, Inv (X.suite e ((e, obB) :: (X.pn ++ (held ++ ps)))) [] τ6 G6 t6 → (∀ t7, Inv X held (τ6.set i none) G6 t7 → Q t7) →
            wpAny (model X.prog X.w) X.A (do bindName X.env n .none; unbindBehindTheSuite X.env n p2) (fun _ t7 => Q t7) X.xe t6 := fun {τ6 G6 Q} I6 q => gone_ok ((Inv.unsuite I6 good).unpinned) nodup slot isLoc q
        cases flow with
        | ret u => exact let ⟨_, _, _, I6, r6, q6⟩ := ended; gone I6 fun _ I7 => ⟨_, _, _, I7, r6, q6⟩
        | next => exact let ⟨_, _, I6, q6⟩ := ended; gone I6 fun _ I7 => ⟨_, _, I7, q6⟩
        | brk => exact let ⟨_, _, I6, q6⟩ := ended; gone I6 fun _ I7 => ⟨_, _, I7, q6⟩
        | cont => exact let ⟨_, _, I6, q6⟩ := ended; gone I6 fun _ I7 => ⟨_, _, I7, q6⟩
    | @bare g k st more p2 hs2 ks2 guard runs rest ih =>
      rintro fly up ⟨yes, match1, w2⟩
      obtain ⟨ob, fs, obZ, obF, obAt, stand, inSuite⟩ := landed fly up
      have kind : PySem.W.Looks (model X.prog X.w) h (typeOf (.ref e)) cv := fun A Q E u kk q => wpAny_typeOf_ref (kk _ _ obAt) (by rw [obZ.1.1]; exact q)
      refine wpAny_handleBy_cons (codeAny_handlers_test ?_) (by intro q; cases q)
      refine guard_ok (Y := X.suite e ((e, ob) :: (X.pn ++ (held ++ ps)))) guard.suite inSuite kind match1 fun h2 keeps => ?_
      have fly2 := flying_keeps fly keeps
      have up2 : sT.heap.UpToSlots h2 := up.trans (Heap.UpToSlots.of_keeps keeps)
      cases yes with
      | false =>
        rw [if_neg (by decide)] at w2
        show wpAny _ X.A (handleBy (.ref e) X.env hs2) _ _ _
        exact ih fly2 up2 w2
      | true =>
        rw [if_pos rfl] at w2
        refine codeAny_handlers_suite (HandSPX.lands_againZ fly2 fun hB flyB upB => ?_)
        obtain ⟨obB, fsB, zB, fB, atB, standB, SB⟩ := landed flyB (up2.trans upB)
        have takes : TakesG (L2H.suiteX X e ((e, obB) :: (X.pn ++ (held ++ ps)))) out := fun u2 s2 ⟨a2, B2, sI2, pn2, σ2, H2, cls2, d2, qs2, e2, I2, r2⟩ => leaves u2 s2 ⟨a2, B2, sI2, held, σ2, H2, cls2, d2, qs2, e2, (L2H.unsuiteX I2 good).unpinned, r2⟩
        have hot : HotG (L2H.suiteX X e ((e, obB) :: (X.pn ++ (held ++ ps)))) := ⟨(e, obB), ps, rfl, ⟨⟨fsB, fB, zB.2 fsB fB⟩, row.1⟩, fun q m => by
          rcases List.mem_cons.mp m with rfl | m
          · exact List.mem_cons_self
          · exact List.mem_cons_of_mem _ (List.mem_append_right _ (List.mem_append_right _ m))⟩
        have w3 : k.2 e cv dd D τ1 G1 := w2 e freeE
        refine wpAny_mono ((runs e obB cv dd (X.pn ++ (held ++ ps)) zB.1 ⟨_, fB⟩ takes hot).run [] _ _ G1 _ (L2H.suiteX_of SB) w3) (fun flow t6 ended => ?_) (fun e6 s6 z => lets (some (.ref e)) e6 s6 z)
        cases flow with
        | ret u => exact let ⟨_, _, _, I6, r6, q6⟩ := ended; ⟨_, _, _, (L2H.unsuiteX I6 good).unpinned, r6, q6⟩
        | next => exact let ⟨_, _, I6, q6⟩ := ended; ⟨_, _, (L2H.unsuiteX I6 good).unpinned, q6⟩
        | brk => exact let ⟨_, _, I6, q6⟩ := ended; ⟨_, _, (L2H.unsuiteX I6 good).unpinned, q6⟩
        | cont => exact let ⟨_, _, I6, q6⟩ := ended; ⟨_, _, (L2H.unsuiteX I6 good).unpinned, q6⟩
  · cases flow with
    | ret u => exact let ⟨_, _, _, J, r, q⟩ := done; ⟨_, _, _, J.ofTry good, r, q⟩
    | next => exact let ⟨_, _, J, q⟩ := done; wpAny_execs_nil ⟨_, _, J.ofTry good, q⟩
    | brk => exact let ⟨_, _, J, q⟩ := done; ⟨_, _, J.ofTry good, q⟩
    | cont => exact let ⟨_, _, J, q⟩ := done; ⟨_, _, J.ofTry good, q⟩
theorem takes0G : TakesG X (fun _ _ _ _ => False) := fun _ _ ⟨_, _, _, _, _, _, _, _, _, _, _, _, _, _, _, _, _, _, w⟩ => w.elim
end
/-! ### an error with an __init__ of its own, made where another one is handled or where none is -/
structure FnG (P : Program) (w : World) (K : PySem.W.Frag) (mg : Str → Option Value) (base : Heap) (k : Nat) (f : Addr) (fd : FuncData) (ps : List Str) (sp : Sp) : Prop where
  len : ∀ vs H Q E, sp vs H Q E → vs.length = ps.length
  run : ∀ (A : Around) (outer : List Env) (s : Shared) (H : Hp) (args : Args) (us : List Value) (vs : List V) (Q : VK) (E : XK) (p : Addr × Obj), L2H.RoomH k A → L2H.PinOk outer H s p → Env0 P w K mg base A outer s H → BindsTo s fd args (ps.zip us) → Vals vs us → sp vs H Q E →
    codeAny (model P w) A (.call (.ref f) args) (CR CX0 outer P w H s Q E) s
section
variable {P : Program} {w : World} {K : PySem.W.Frag} {mg : Str → Option Value} {base : Heap}
theorem FnG.mono {j k : Nat} {f : Addr} {fd : FuncData} {ps : List Str} {sp : Sp} (F : FnG P w K mg base j f fd ps sp) (h : j ≤ k) : FnG P w K mg base k f fd ps sp := ⟨F.len, fun A outer s H args us vs Q E p hr => F.run A outer s H args us vs Q E p (hr.mono h)⟩
theorem fn_handled {k : Nat} {x qual : Str} {st : Stmt} {f : Addr} {fd : FuncData} {N ps : List Str} {sp : Sp} (F : Fun K x qual st f fd) (S : FnScope N ps (defScope st)) (len : ∀ vs H Q E, sp vs H Q E → vs.length = ps.length)
    (body : ∀ (cdv : Value) (A : Around) (outer : List Env) (s : Shared) (H : Hp) (vs : List V) (Q : VK) (E : XK) (p : Addr × Obj), L2H.RoomH k (A.deeper (envOfC qual (defScope st) s.heap.objs.size f cdv)) → sp vs H Q E →
      ∃ t, PSs (L2H.cxH CX0 P w K mg base N qual (defScope st) f cdv A outer s H E p) (defBody st) t ∧ t { nx := fun _ H' => Q .non H', rt := Q } (L2.start N vs) H) : FnG P w K mg base (k + 1) f fd ps sp := by
  obtain ⟨oc, od, kV, doc, pm, an, cdv, ct, osl, rfl, lk, hcd⟩ := F.ex
  refine ⟨len, fun A outer s H args us vs Q E p hr hpin e0 hb r hsp => ?_⟩
  have inK : K.In s.heap := e0.mod.kin.keeps fun b o e => (e0.bs b o e).1
  have noLim : s.heap.NoLimit := e0.mod.nolimit.keeps fun b o e => (e0.bs b o e).1
  have kinds : ∀ y ∈ ps.zip us, (defScope st).names.lookup y.1 = some .local ∨ ((defScope st).names.lookup y.1 = some .cell ∧ ((cellsFrom (s.heap.objs.size + 1) (defScope st).names []).lookup y.1).isSome = true) := fun y hy =>
    (S.par y.1 (List.of_mem_zip (a := y.1) (b := y.2) hy).1).elim .inl fun q => .inr ⟨q, PySem.W.cellsFrom_some _ _ _ (.inl q)⟩
  refine codeAny_call_function hr.depth (inK _ _ lk) rfl S.co S.gen rfl (PySem.W.codeRec_of inK hcd) (hb _ _ _ _ (wpAny_newFunctionEnv_cells S.kind kinds fun env he s1 into => ?_))
  subst he
  obtain ⟨t, reads, wish⟩ := body cdv A outer s H vs Q E p (hr.deeper _) hsp
  refine ⟨noLim.keeps into.toInCall.keep, codeAny_func (wpAny_mono (reads.run [] s1 (L2.start N vs) H _ (L2H.inv_startH S hpin e0 (len _ _ _ _ hsp) r into) wish) (fun fl s' ended => ?_) fun e s' ended => ended)⟩
  match fl, ended with
  | .ret u, ⟨v, _, H', J, rv, q⟩ => exact ⟨v, H', J.os, J.bare, J.base, J.hok, rv, q⟩
  | .next, ⟨_, H', J, q⟩ => exact ⟨V.non, H', J.os, J.bare, J.base, J.hok, rfl, q⟩
  | .brk, ⟨_, _, _, q⟩ => exact False.elim q
  | .cont, ⟨_, _, _, q⟩ => exact False.elim q
end
theorem HotG.pin {X : Cx} (hot : HotG X) {held : List (Addr × Obj)} {σ : L2.St} {H : Hp} {s : Shared} (I : Inv X held σ H s) : ∃ p : Addr × Obj, L2H.PinOk X.stack H s p := by
  obtain ⟨p, r, _, _, inPins⟩ := hot
  have pinned := I.pin p (List.mem_append_left _ (inPins p List.mem_cons_self))
  exact ⟨p, pinned.1, pinned.2.1, fun m => (List.mem_cons.mp (I.stkSub p.1 m)).elim pinned.2.2.1 pinned.2.2.2.1, pinned.2.2.2.2⟩
theorem pmkG_own {X : Cx} {x : Str} {e : Expr} {es : List Expr} {ta : TA} {p pos : Pos} {C fI : Addr} {k : Nat} {fd : FuncData} {ps : List Str} {sp : Sp} (T : OexC X.K C) (iC : PySem.W.findIn X.K (.ref C) "__init__" = some (some (.ref fI))) (tI : PySem.W.typeIn X.K (.ref fI) = some (.type "function"))
    (made : FnG X.prog X.w X.K X.mg X.base k fI fd ps sp) (hr : L2H.RoomH (k + 1) X.A) (hot : HotG X) (hb : Binds X.K fd ps []) (hg : Gl X x) (hm : X.mg x = some (.ref C)) (ha : PA X (e :: es) ta)
    (hdb : (x == ("__debug__" : Str)) = false := by decide) (he : starEach (e :: es) X.env = (false, eval e X.env) :: starEach es X.env := by rfl) (hpl : (backTo pos (starEach es X.env)).any (·.1) = false := by rfl) :
    L2N.PMk X (.Call (.Name x p) (e :: es) [] pos) (tMkO C sp [] ta) := by
  intro pins s σ H Q I h
  obtain ⟨nm, q, N, bs, bm, sn, sub, ab, col, dd, k0, k1, k2, k3, k5, clsAt, inRefs⟩ := T.cls
  refine wpAny_Call_Name_kw (ld_glob I hg hm (PySem.W.callWith_K (h₀ := X.base) I.ok.mod.kin T.kC (thn (ha.run pos pins s σ H _ I h) fun us s1 told => ?_) he hpl) hdb)
  obtain ⟨vs, H1, I1, rels, few, wish⟩ := told
  refine ⟨I1.kIn, ?_⟩
  show wpAny _ _ (call (.ref C) us) _ _ _
  obtain ⟨hp, g, dr, tk, os⟩ := s1
  generalize eA : hp.objs.size + 1 = a
  have above : hp.objs.size ≤ a := by omega
  have init := wish a (I1.hok.fresh above)
  rw [List.append_nil] at init
  have old : ∀ b o, hp.get? b = some o → ((hp.push (PySem.W.kdv_tup us)).push (PySem.HandSPX.excO C hp.objs.size)).get? b = some o := fun b o e => Heap.get?_push_of_some _ (Heap.get?_push_of_some _ e)
  have new : ((hp.push (PySem.W.kdv_tup us)).push (PySem.HandSPX.excO C hp.objs.size)).get? a = some (PySem.HandSPX.excO C hp.objs.size) := by
    subst eA
    heap_get
  have I2 : Inv X pins σ (upd H1 a (exo a C none)) ⟨(hp.push (PySem.W.kdv_tup us)).push (PySem.HandSPX.excO C hp.objs.size), g, dr, tk, os⟩ := I1.laid (t' := tk) (a := a) (o := exo a C none) old above (exo_ok new)
  have rels2 : Vals (V.ref a :: vs) (Value.ref a :: us) := .cons rfl rels
  have count : (Value.ref a :: us).length = ps.length := by
    rw [← rels2.length]
    exact made.len _ _ _ _ init
  have fewer : us.length ≤ sizeLine := by
    rw [← Paired.length rels, sizeLine_eq]
    omega
  have binds := hb _ (Value.ref a :: us) I2.kIn (by rw [List.append_nil]; exact count)
  rw [List.append_nil] at binds
  obtain ⟨pn, hpin⟩ := hot.pin I2
  subst eA
  refine wpAny_call (PySem.HandSPX.call_own F.excBase_ValueError (fun Y => PySem.HandSPX.refsVE_contains Y bm inRefs) (I1.kIn _ _ clsAt) (PySem.W.looks_findIn I1.kIn iC) (fun self => PySem.W.bind_fn I1.kIn self tI) fewer
    (codeAny_mono (made.run _ X.stack _ _ ⟨_ :: us, []⟩ (_ :: us) _ _ (fun _ _ _ => False) pn (hr.make C us []) hpin (I2.env0.make C us []) binds rels2 init) fun res s2 ended => ?_))
  match res, ended with
  | .error _, z => exact False.elim z
  | .ok .next, z => exact False.elim z
  | .ok .brk, z => exact False.elim z
  | .ok .cont, z => exact False.elim z
  | .ok (.ret u), ⟨v, H2, os2, bare2, un2, hok2, rv, ev, d, fs, ea, ed, fresh, wish2⟩ =>
    subst ev
    obtain ⟨h2, g2, d2, t2, os'⟩ := s2
    obtain ⟨t0, G, J, kept, gone, there, unseen⟩ := mk_end0 (d2 := d2) (t2 := t2) I1 above old un2 hok2 os2 bare2 ea ed fresh
    exact ⟨rv, _, _, _, ⟨G, g2, d2, t2, os'⟩, _, .ref C, some d, rfl, J, kept, gone, there, ⟨rfl, rfl, fun vs hv => by cases hv; rfl⟩, rfl, rfl, unseen, rfl, bare2, raises_own T.exC T.tyC, wish2⟩
/-- an error keeps its reason -/
def spRin (K : PySem.W.Frag) : Sp := fun vs H Q _ => ∃ (a C : Addr) (z : Str), vs = [.ref a, .str z] ∧ H a = some (exo a C none) ∧ OexC K C ∧ PySem.W.findIn K (.ref C) "reason" = some none ∧ ∀ dx, H dx = none → dx ≠ a → Q .non (upd (upd H dx (exd dx [("reason", .str z)])) a (exo a C (some dx)))
theorem kp_made {H : Hp} {a dx : Addr} {o1 o2 o3 o4 : HO} (ha : H a = none) (hd : H dx = none) : Kp [] H (L2.upd (del (L2.upd (L2.upd (L2.upd H a o1) dx o2) a o3) a) dx o4) := by
  have g : ∀ b u, H b = some u → L2.upd (del (L2.upd (L2.upd (L2.upd H a o1) dx o2) a o3) a) dx o4 b = some u := fun b u e => by
    have na : b ≠ a := fun z => by rw [z, ha] at e; cases e
    have nd : b ≠ dx := fun z => by rw [z, hd] at e; cases e
    rw [upd_ne nd, del_ne na, upd_ne na, upd_ne nd, upd_ne na]
    exact e
  exact ⟨fun b u _ e => g b u e, fun b xs e => g b _ e⟩
/-- an error class that keeps a reason -/
structure EOwn (P : Program) (w : World) (K : PySem.W.Frag) (mg : Str → Option Value) (base : Heap) (x : Str) (C : Addr) : Prop where
  g : mg x = some (.ref C)
  o : OexC K C
  n : PySem.W.findIn K (.ref C) "reason" = some none
  ex : ∃ fi fd, PySem.W.findIn K (.ref C) "__init__" = some (some (.ref fi)) ∧ PySem.W.typeIn K (.ref fi) = some (.type "function") ∧ FnOk P w K mg base CX0 1 fi fd ["self", "reason"] (spRin K) ∧ FnG P w K mg base 1 fi fd ["self", "reason"] (spRin K) ∧ Binds K fd ["self", "reason"] []
  xf : XfC K C
  em : PySem.W.exmOne K (.ref C) (.ref C) = some true
/-- what a raise of it wishes -/
def tRef (C : Addr) (z : Str) (W : WX) : TS := fun _ σ H => ∀ (d : Addr) (G : Hp), H d = none → G d = some (.xd [("reason", .str z)]) → Kp [] H G → W (.ref C) (some d) σ G
theorem ps_weak {X : Cx} {st : Stmt} {t u : TS} (h : PS X st t) (w : ∀ D σ H, u D σ H → t D σ H) : PS X st u := ⟨fun held s σ H D I pre => h.run held s σ H D I (w D σ H pre)⟩
section
variable {X : Cx} {W : WX} {x z : Str} {C : Addr} {j k : Nat} {p p2 pos pos2 : Pos}
theorem own_wish (o : OexC X.K C) (n : PySem.W.findIn X.K (.ref C) "reason" = some none) (D : Ends) (σ : L2.St) (H : Hp) (h : tRef C z W D σ H) : tMkO C (spRin X.K) [] (tCons (tC (.str z)) tNil) σ H fun cls d G => W cls d σ G :=
  ⟨by show 1 ≤ 1000; decide, fun a ha => ⟨a, C, z, rfl, upd_same, o, n, fun dx hdx nda => by
    have hdx2 : H dx = none := by rw [upd_ne nda] at hdx; exact hdx
    exact ⟨rfl, dx, _, upd_same, by rw [upd_ne nda]; exact upd_same, hdx2, h dx _ hdx2 upd_same (kp_made ha hdx2)⟩⟩⟩
/-- raise X('z') where nothing is handled -/
theorem EOwn.raiseG (T : EOwn X.prog X.w X.K X.mg X.base x C) (hr : Room k X.A) (tk : TakesG X W) (hk : 2 ≤ k := by first | decide | omega) (hc : X.calm = true := by rfl) (hg : Gl X x := by rfl) (hdb : (x == ("__debug__" : Str)) = false := by decide)
    (he : starEach [.Constant (.str z) j p2] X.env = [(false, eval (.Constant (.str z) j p2) X.env)] := by rfl) :
    PS X (.Raise (some (.Call (.Name x p) [.Constant (.str z) j p2] [] pos)) none pos2) (tRef C z W) := by
  obtain ⟨fi, fd, i1, t1, m1, _, b1⟩ := T.ex
  exact ps_weak (L2N.ps_raise hc tk.toN (pmkN_own T.o i1 t1 m1 (hr.mono hk) b1 pass0 hg T.g (pa_cons pe_str pa_nil) hdb he rfl)) (own_wish T.o T.n)
/-- raise X('z') in an except suite -/
theorem EOwn.raiseH (T : EOwn X.prog X.w X.K X.mg X.base x C) (hr : L2H.RoomH k X.A) (hot : HotG X) (tk : TakesG X W) (hk : 2 ≤ k := by first | decide | omega) (hg : Gl X x := by rfl) (hdb : (x == ("__debug__" : Str)) = false := by decide)
    (he : starEach [.Constant (.str z) j p2] X.env = [(false, eval (.Constant (.str z) j p2) X.env)] := by rfl) :
    PS X (.Raise (some (.Call (.Name x p) [.Constant (.str z) j p2] [] pos)) none pos2) (tRef C z W) := by
  obtain ⟨fi, fd, i1, t1, _, m1, b1⟩ := T.ex
  exact ps_weak (ps_raiseG hot tk (pmkG_own T.o i1 t1 m1 (hr.mono hk) hot b1 hg T.g (pa_cons pe_str pa_nil) hdb he rfl)) (own_wish T.o T.n)
/-- of an error without an __init__ -/
theorem Err.raiseG {m : Str} (T : Err X.K X.mg x C) (tk : TakesG X W) (hc : X.calm = true := by rfl) (hg : Gl X x := by rfl) (hdb : (x == ("__debug__" : Str)) = false := by decide) :
    PS X (.Raise (some (.Call (.Name x p) [.Constant (.str m) j p2] [] pos)) none pos2) (tErr C W) := L2N.ps_raise hc tk.toN (T.pmkN hg hdb)
theorem Err.raiseS {m : Str} (T : Err X.K X.mg x C) (hot : HotG X) (tk : TakesG X W) (hg : Gl X x := by rfl) (hdb : (x == ("__debug__" : Str)) = false := by decide) :
    PS X (.Raise (some (.Call (.Name x p) [.Constant (.str m) j p2] [] pos)) none pos2) (tErr C W) := ps_raiseG hot tk (T.pmkN hg hdb)
end
/-! ### calls that may let such errors out -/
section
variable {X : Cx} {x : Str} {q pos apos : Pos} {o e : Expr} {es : List Expr} {ta : TE} {t : TA} {sp : Sp} {j k : Nat} {V : WX} {C : Addr} {pl : Sem Bool}
theorem Cal.peG (c : Cal X.prog X.w X.K X.mg X.base (CXG X.prog X.w) j x sp) (hr : Room k X.A) (tk : TakesG X V) (ha : PA X (e :: es) t) (hjk : j ≤ k := by first | decide | omega) (hg : Gl X x := by rfl) (hdb : (x == ("__debug__" : Str)) = false := by decide)
    (he : starEach (e :: es) X.env = (false, eval e X.env) :: starEach es X.env := by rfl) (hpl : (backTo pos (starEach es X.env)).any (·.1) = false := by rfl) :
    PE X (.Call (.Name x q) (e :: es) [] pos) (tCallS sp (WE V) t) :=
  let ⟨_, _, _, F, m, kp, b⟩ := c.ex
  pe_callS F (hr.mono hjk) hg m kp b (fun σ => passAtG tk σ) ha hdb he hpl
theorem CalM.peG (c : CalM X.prog X.w X.K X.mg X.base (CXG X.prog X.w) j C x sp) (hr : Room k X.A) (tk : TakesG X V) (ho : PE X o ta) (ha : PA X (e :: es) t) (hjk : j ≤ k := by first | decide | omega)
    (hst : starEach (e :: es) X.env = (false, eval e X.env) :: starEach es X.env := by rfl) (hpl : (backTo pos (starEach es X.env)).any (·.1) = false := by rfl)
    (ht : eval (.Call (.Attribute o x apos) (e :: es) [] pos) X.env = (do
      let ov ← eval o X.env
      standAt apos.atName
      let (f, first) ← holding [ov] (getMethod ov x pl)
      callWith pos f first (backTo pos (starEach (e :: es) X.env)) (backToKw pos (keywordEach [] X.env))) := by rfl) :
    PE X (.Call (.Attribute o x apos) (e :: es) [] pos) (tMethV C x sp (WE V) ta t) := by
  obtain ⟨f, fd, ps, F, M, b⟩ := c.ex
  refine ⟨fun held s σ H Q I pre => PySem.W.methodCall_KW (pl := pl) (thn (ho.run held s σ H _ I pre) fun u s1 gives => ?_) ht⟩
  obtain ⟨v, H1, I1, rel, p, dx, fs, rfl, isIns, noField, args⟩ := gives
  cases (show u = Value.ref p from rel)
  refine getmeth_ok I1 isIns c.cl M noField (PySem.W.callWith_K (first := [.ref p]) (h₀ := X.base) I.ok.mod.kin M.kp (thn (ha.run pos held s1 σ H1 _ I1 args) fun us s2 told => ?_) hst hpl)
  obtain ⟨vs, H2, I2, rels, q⟩ := told
  exact ⟨I2.kIn, run_fnS (us := .ref p :: us) (vs := .ref p :: vs) F (hr.mono hjk) b (passAtG tk σ) I2 (.cons rfl rels) q⟩
end
/-! ### instances whose __init__ may let such errors out -/
def tMakeV (C : Addr) (sp : Sp) (E : L2.St → XK) (t : TA) : TE := fun σ H Q => t σ H fun vs H1 => ∀ x dx, H1 x = none → H1 dx = none → dx ≠ x → sp (.ref x :: vs) (upd (upd H1 dx (.own x)) x (.ins C dx [])) (fun v H2 => v = .non ∧ Q (.ref x) H2) (E σ)
section
variable {X : Cx} {x : Str} {p pos : Pos} {e : Expr} {es : List Expr} {t : TA} {sp : Sp} {j k : Nat} {CX : CXT} {E : XK} {C : Addr} {U : WX}
theorem CalK.pex (c : CalK X.prog X.w X.K X.mg X.base CX j C x sp) (hr : Room k X.A) (hx : Passes CX X E) (ha : PA X (e :: es) t) (hjk : j + 1 ≤ k := by first | decide | omega) (hg : Gl X x := by rfl) (hdb : (x == ("__debug__" : Str)) = false := by decide)
    (he : starEach (e :: es) X.env = (false, eval e X.env) :: starEach es X.env := by rfl) (hpl : (backTo pos (starEach es X.env)).any (·.1) = false := by rfl) :
    PE X (.Call (.Name x p) (e :: es) [] pos) (tMake C sp [] E t) :=
  let ⟨_, _, _, F, m, b⟩ := c.ex
  pe_make m F (hr.mono hjk) hg c.mg b .nil hx ha hdb he hpl
theorem make_at {f : Addr} {fd : FuncData} {ps : List Str} {held : List (Addr × Obj)} {σ : L2.St} {H : Hp} {s : Shared} {Q : VK} {us : List Value} {vs : List V} {W : L2.St → XK} (M : Mk X.K C f) (F : FnOk X.prog X.w X.K X.mg X.base CX j f fd ps sp) (hr : Room (j + 1) X.A) (hb : Binds X.K fd ps [])
    (passes : PassesAt CX X σ (W σ)) (I : Inv X held σ H s) (rel : Vals vs us) (wish : ∀ x dx, H x = none → H dx = none → dx ≠ x → sp (.ref x :: vs) (upd (upd H dx (.own x)) x (.ins C dx [])) (fun v H2 => v = .non ∧ Q (.ref x) H2) (W σ)) :
    wpAny (model X.prog X.w) X.A (call (.ref C) us) (EP X held σ Q) X.xe s := by
  have init := wish (s.heap.objs.size + 1) s.heap.objs.size (I.hok.fresh (Nat.le_succ _)) (I.hok.fresh (Nat.le_refl _)) (Nat.ne_of_lt (Nat.lt_succ_self _))
  have born := Inv.made (C := C) I
  have rels : Vals (V.ref (s.heap.objs.size + 1) :: vs) (Value.ref (s.heap.objs.size + 1) :: us) := .cons rfl rel
  have count : (Value.ref (s.heap.objs.size + 1) :: us ++ []).length = ps.length := by
    rw [List.append_nil, ← rels.length]
    exact F.len _ _ _ _ init
  have binds := hb _ (Value.ref (s.heap.objs.size + 1) :: us) born.kIn count
  rw [List.append_nil] at binds
  refine wpAny_call (make_map (f := f) I.kIn M.makes M.init (beq_iff_eq.mp M.fn) (codeAny_mono (F.run _ X.stack _ _ ⟨_ :: us, []⟩ (_ :: us) _ _ (W σ) (hr.make C us []) (born.env0.make C us []) binds rels init) fun res t ended => ?_))
  match res, ended with
  | .error _, z => exact passes held _ _ _ t born z
  | .ok .next, z => exact False.elim z
  | .ok .brk, z => exact False.elim z
  | .ok .cont, z => exact False.elim z
  | .ok (.ret u), z =>
    obtain ⟨v, H2, I3, rv, ev, q3⟩ := born.after z
    subst ev
    exact ⟨rv, ⟨V.ref (s.heap.objs.size + 1), H2, I3, rfl, q3⟩⟩
theorem CalK.peG (c : CalK X.prog X.w X.K X.mg X.base (CXG X.prog X.w) j C x sp) (hr : Room k X.A) (tk : TakesG X U) (ha : PA X (e :: es) t) (hjk : j + 1 ≤ k := by first | decide | omega) (hg : Gl X x := by rfl) (hdb : (x == ("__debug__" : Str)) = false := by decide)
    (he : starEach (e :: es) X.env = (false, eval e X.env) :: starEach es X.env := by rfl) (hpl : (backTo pos (starEach es X.env)).any (·.1) = false := by rfl) :
    PE X (.Call (.Name x p) (e :: es) [] pos) (tMakeV C sp (WE U) t) := by
  obtain ⟨f, fd, ps, F, m, b⟩ := c.ex
  refine ⟨fun held s σ H Q I h => wpAny_Call_Name_kw (ld_glob I hg c.mg (PySem.W.callWith_K (h₀ := X.base) I.ok.mod.kin m.kp (thn (ha.run pos held s σ H _ I h) fun us s1 told => ?_) he hpl) hdb)⟩
  obtain ⟨vs, H1, I1, r, q⟩ := told
  exact ⟨I1.kIn, make_at m F (hr.mono hjk) b (passAtG tk σ) I1 r q⟩
end
theorem pg_tupK {X : Cx} {K : PySem.W.Frag} {es : List Expr} {k : Nat} {t : TGs} {n : Nat} {pos : Pos} (h : PGs X es t) (hc : X.calm = true) (hK : X.K = K)
    (hn : (assignEach es X.env).length = n := by rfl) (hst : (assignEach es X.env).findIdx? (·.1) = none := by rfl) : PG X (.Tuple es k pos) (gTup K n t) := by
  subst hK
  exact pg_tup hc h hn hst
end SC

namespace SC
open PySem L2
def top (i : Nat) : Stmt := PySem.Challenge.pw_sealchart_k35_making_a_trusted_set.main.body.getD i (.Pass ⟨0, 0, 0, 0⟩)
local macro_rules | `(tactic| walk_at "wp") => `(tactic| simp (config := { decide := false }) only [tFmtX, gCons, gNil, tSeq, tAsg, tIfS, tRet, tTest, tOp, tUn, tVar, tC, tCB, tCall, tCons, tNil, tLst, tTup, tAnd, tOr, tNot, tAndV, tOrV, tNotV, tB, tChain, tIf, tIsT, tSl, rSlS, tNoPart, tPart, tErr, tAug, ipI, tDrop, tM1, tBM, rAppend, tFld, sFld, sDPut, tDGet1, tDNewT, tDNewK, tDisp, tPairs, tDGet, tDIn, tDNotIn, tDPop1, tDPop2, tDGet2, sDDel, sFldAug, tMeth, tMake, gSub, gName, tNext, rI, rI0, rU, rEq, rNe, scal, rSetL, L2.start, List.map_cons, List.map_nil, List.length_cons, List.length_nil, List.replicate, List.cons_append, List.nil_append, List.append_nil, List.getElem?_cons_zero, List.getElem?_cons_succ, List.set_cons_zero, List.set_cons_succ, cxOf,
    Option.some.injEq, V.int.injEq, V.ref.injEq, V.str.injEq, V.bl.injEq, V.ty.injEq, HO.lst.injEq, HO.tup.injEq, List.cons.injEq, exists_eq_left, exists_eq_left', exists_eq_right, exists_and_left, exists_eq, and_true, true_and, and_assoc, reduceCtorEq, false_and, and_false, exists_false, or_false, false_or, decide_eq_true_eq, Bool.not_eq_true', decide_eq_false_iff_not, decide_true, decide_false, Bool.false_eq_true, upd_same, at0, at1, ixN_20, ixN_21, ixN_10, if_true, if_false, ite_true, ite_false, Nat.reduceAdd, Nat.reduceSub, tyN_non, tyN_bl, tyN_int, tyN_str, isaB_all])
local macro_rules | `(tactic| walk_at "wt") => `(tactic| simp (config := { decide := false }) only [tTest, tOp, tVar, tC, tCB, tCons, tNil, tSl, rSlS, tNoPart, tPart, tB, tAnd, tOr, tNot, tAndV, tOrV, tNotV, tChain, tIsT, rI, rI0, rU, rEq, rNe, scal, List.getElem?_cons_zero, List.getElem?_cons_succ,
    Option.some.injEq, V.int.injEq, V.ref.injEq, V.str.injEq, V.bl.injEq, V.ty.injEq, HO.lst.injEq, HO.tup.injEq, List.cons.injEq, exists_eq_left, exists_eq_left', exists_eq_right, exists_and_left, exists_eq, and_true, true_and, and_assoc, reduceCtorEq, false_and, and_false, exists_false, or_false, false_or, decide_eq_true_eq, Bool.not_eq_true', decide_eq_false_iff_not, decide_true, decide_false, Bool.false_eq_true, upd_same, at0, at1, ixN_20, ixN_21, ixN_10, if_true, if_false, ite_true, ite_false, Nat.reduceAdd, Nat.reduceSub, tyN_non, tyN_bl, tyN_int, tyN_str, isaB_all])
local macro_rules | `(tactic| walk_at "wq") => `(tactic| simp (config := { decide := false }) only [tFmtX, gCons, gNil, tSeq, tAsg, tIfS, tRet, tTest, tOp, tUn, tVar, tC, tCB, tCall, tCons, tNil, tLst, tTup, tAnd, tOr, tNot, tAndV, tOrV, tNotV, tB, tChain, tIf, tIsT, tSl, rSlS, tNoPart, tPart, tErr, tAug, ipI, tDrop, tM1, tBM, rAppend, tFld, sFld, sDPut, tDGet1, tDNewT, tMethV, WE, tDNewK, tDisp, tPairs, tDGet, tDIn, tDNotIn, tDPop1, tDPop2, tDGet2, sDDel, sFldAug, tMeth, tMake, gSub, gName, tNext, rI, rI0, rU, rEq, rNe, scal, rSetL, L2.start, List.map_cons, List.map_nil, List.length_cons, List.length_nil, List.replicate, List.cons_append, List.nil_append, List.append_nil, List.getElem?_cons_zero, List.getElem?_cons_succ, List.set_cons_zero, List.set_cons_succ, cxOf,
    Option.some.injEq, V.int.injEq, V.ref.injEq, V.str.injEq, V.bl.injEq, V.ty.injEq, HO.lst.injEq, HO.tup.injEq, List.cons.injEq, exists_eq_left, exists_eq_left', exists_eq_right, exists_and_left, exists_eq, and_true, true_and, and_assoc, reduceCtorEq, false_and, and_false, exists_false, or_false, false_or, decide_eq_true_eq, Bool.not_eq_true', decide_eq_false_iff_not, decide_true, decide_false, Bool.false_eq_true, upd_same, at0, at1, ixN_20, ixN_21, ixN_10, if_true, if_false, ite_true, ite_false, Nat.reduceAdd, Nat.reduceSub, tyN_non, tyN_bl, tyN_int, tyN_str, isaB_all])

/-! the law's own helpers: cell, stream, take, char, string -/
abbrev s_law_cell : Stmt := top 81
abbrev N_law_cell : List Str := ["script", "k"]
theorem sc_law_cell : FnScope N_law_cell ["script", "k"] (defScope s_law_cell) := ⟨rfl, rfl, rfl, by decide +kernel, rfl, by decide +kernel, by decide +kernel⟩
abbrev s_law_stream : Stmt := top 82
abbrev N_law_stream : List Str := ["cell"]
theorem sc_law_stream : FnScope N_law_stream ["cell"] (defScope s_law_stream) := ⟨rfl, rfl, rfl, by decide +kernel, rfl, by decide +kernel, by decide +kernel⟩
abbrev s_law_take : Stmt := top 83
abbrev N_law_take : List Str := ["stream", "many", "worth"]
theorem sc_law_take : FnScope N_law_take ["stream", "many"] (defScope s_law_take) := ⟨rfl, rfl, rfl, by decide +kernel, rfl, by decide +kernel, by decide +kernel⟩
def spCell (K : PySem.W.Frag) : Sp := fun vs H Q _ => ∃ (a : Addr) (ns : List Int) (k : Nat), vs = [.ref a, .int k] ∧ SqL K H a (ns.map V.int) ∧ Q (.int (ns.getD k 0)) H
def spStream : Sp := fun vs H Q _ => ∃ z : Int, vs = [.int z] ∧ ∀ s, H s = none → ∀ a b : Int, Q (.ref s) (upd H s (.lst [.int a, .int b]))
def spTake : Sp := fun vs H Q _ => ∃ (s : Addr) (m : Int), vs = [.ref s, .int m] ∧ Strm H s ∧ (0 < m ∧ m < 2 ^ 200) ∧
  ∀ (w : Int) (H' : Hp), 0 ≤ w → w < m → Kp [s] H H' → Strm H' s → Q (.int w) H'
/-- the 94 signs of the law's alphabet -/
def abc : List Nat := (List.range 95).map (· + 32) |>.filter (· != 37)
def spChar : Sp := fun vs H Q _ => ∃ k : Int, vs = [.int k] ∧ 0 ≤ k ∧ k < 94 ∧ Q (.str ⟨#[abc.getD k.toNat 0]⟩) H
def spString : Sp := fun vs H Q _ => ∃ (s : Addr) (m : Int), vs = [.ref s, .int m] ∧ Strm H s ∧ 0 ≤ m ∧ m < 1000 ∧
  ∀ (z : Str) (H' : Hp), z.length ≤ m.toNat → (∀ c ∈ z.cps.toList, c ∈ abc) → Kp [s] H H' → Strm H' s → Q (.str z) H'
section
variable {P : Program} {w : World} {K : PySem.W.Frag} {mg : Str → Option Value} {base : Heap} {f : Addr} {fd : FuncData}
theorem two200 {m : Int} (h0 : 0 < m) (h : m < 2 ^ 200) : CDivW a m := by
  refine wide_div (b := 200) h0 ?_ (by decide) (by decide)
  have : (2 : Int) ^ 200 = ((2 ^ 200 : Nat) : Int) := by decide +kernel
  rw [this] at h
  omega
theorem ok_cell (F : Fun K "_law_cell" "_law_cell" s_law_cell f fd) (B : Blt mg) : FnOk P w K mg base CX0 1 f fd ["script", "k"] (spCell K) := by
  refine F.ok sc_law_cell (fun vs H Q E h => ?_) (fun cdv A outer s H vs Q E hr h => ?_)
  · obtain ⟨a, ns, k, rfl, _⟩ := h; rfl
  obtain ⟨a, ns, k, rfl, hS, q⟩ := h
  refine ⟨_, (pss_cons (ps_if (pt_cmpR op_lt (pv 1) (B.len_q (pa_cons (pv 0) pa_nil)) (nomark _)) (pss_one (ps_ret (pe_ix ix_list (pv 0) (pv 1) (fun _ _ => rfl)))) pss_nil)
    (pss_one (ps_ret pe_int))), ?_⟩
  walk_at "wp"
  refine ⟨_, Or.inl hS, ?_⟩
  rw [List.length_map]
  by_cases c : k < ns.length
  · rw [if_pos (by omega)]
    rw [List.getD_eq_getElem?_getD, List.getElem?_eq_getElem c] at q
    exact ⟨a, _, (k : Int), V.int ns[k], rfl, rfl, hS, atI_nat (j := k) (by rw [List.getElem?_map, List.getElem?_eq_getElem c] <;> rfl), q⟩
  · rw [if_neg (by omega)]
    rw [List.getD_eq_getElem?_getD, List.getElem?_eq_none (by omega)] at q
    exact q
theorem ok_stream (F : Fun K "_law_stream" "_law_stream" s_law_stream f fd) (B : Blt mg) : FnOk P w K mg base CX0 1 f fd ["cell"] spStream := by
  refine F.ok sc_law_stream (fun vs H Q E h => ?_) (fun cdv A outer s H vs Q E hr h => ?_)
  · obtain ⟨z, rfl, _⟩ := h; rfl
  obtain ⟨z, rfl, q⟩ := h
  refine ⟨_, (pss_cons (ps_if (pt_cmpR op_ge (pv 0) (pe_op op_pow pe_int pe_int) (nomark _)) (pss_one (ps_ret (pe_lst (pa_cons (pv 0) (pa_cons pe_int pa_nil))))) pss_nil)
    (pss_one (ps_ret (pe_lst (pa_cons pe_int (pa_cons (pv 0) pa_nil)))))), ?_⟩
  walk_at "wp"
  have e2 : (2 : Nat) ≤ sizeLine := by decide
  refine ⟨by refine ⟨?_, ?_, ?_⟩ <;> decide, ?_⟩
  split
  · exact ⟨e2, fun p hp => q p hp _ _⟩
  · exact ⟨e2, fun p hp => q p hp _ _⟩
theorem ok_take (F : Fun K "_law_take" "_law_take" s_law_take f fd) (B : Blt mg) : FnOk P w K mg base CX0 1 f fd ["stream", "many"] spTake := by
  refine F.ok sc_law_take (fun vs H Q E h => ?_) (fun cdv A outer s H vs Q E hr h => ?_)
  · obtain ⟨s, m, rfl, _⟩ := h; rfl
  obtain ⟨p, m, rfl, ⟨a, b, hp⟩, ⟨m0, m1⟩, q⟩ := h
  refine ⟨_, (pss_cons (ps_if (pt_cmpR op_gt (pe_ix ix_lM (pv 0) pe_int (fun _ _ => rfl)) pe_int (nomark _)) (pss_cons (ps_set (i := 2) sc_law_take.nd rfl (Or.inl rfl) (pe_op op_mod (B.int_i (pa_cons (pe_ix ix_lM (pv 0) pe_int (fun _ _ => rfl)) pa_nil)) (pv 1)))
    (pss_cons (ps_asg (pe_op op_fdivW (pe_ix ix_lM (pv 0) pe_int (fun _ _ => rfl)) (pv 1)) (pg_sub (pv 0) pe_int set_list))
    (pss_one (ps_ret (pv 2))))) pss_nil)
    (pss_cons (ps_asg (pe_op op_mod (B.int_i (pa_cons (pe_op op_add (pe_op op_mul (pe_ix ix_lM (pv 0) pe_int (fun _ _ => rfl)) pe_int) pe_int) pa_nil)) pe_int) (pg_sub (pv 0) pe_int set_list))
    (pss_one (ps_ret (pe_op op_mod (B.int_i (pa_cons (pe_op op_add (pe_op op_fdivW (pe_op op_mul (pe_ix ix_lM (pv 0) pe_int (fun _ _ => rfl)) (pe_ix ix_lM (pv 0) pe_int (fun _ _ => rfl))) pe_int) (pe_op op_fdivW (pe_ix ix_lM (pv 0) pe_int (fun _ _ => rfl)) pe_int)) pa_nil)) (pv 1)))))), ?_⟩
  walk_at "wp"
  simp only [hp, Option.some.injEq, HO.lst.injEq, exists_eq_left', at0, at1, V.int.injEq, List.length_cons, List.length_nil, Nat.reduceAdd, ixN_20, ixN_21, List.set_cons_zero, List.set_cons_succ, upd_same]
  have kp : ∀ x y : Int, Kp [p] H (upd H p (.lst [.int x, .int y])) := fun x y => Kp.lst hp (List.mem_singleton.mpr rfl)
  split
  · exact ⟨m0, two200 m0 m1, q _ _ (Int.emod_nonneg _ (by omega)) (Int.emod_lt_of_pos _ m0) (kp _ _) Strm.mk⟩
  · have n0 := Int.emod_nonneg (b * 48271 + 69621) (show (2147483647 : Int) ≠ 0 by decide)
    have n1 := Int.emod_lt_of_pos (b * 48271 + 69621) (show (0 : Int) < 2147483647 by decide)
    have lit : ∀ {j : Int} {i : Int}, 0 < j → j < 2 ^ 200 → CDivW i j := fun h0 h1 => two200 h0 h1
    refine ⟨.inr (by decide), by decide, .inl ⟨by omega, by omega⟩, lit (by decide) (by decide), lit (by decide) (by decide), m0, ?_⟩
    exact q _ _ (Int.emod_nonneg _ (by omega)) (Int.emod_lt_of_pos _ m0) (kp _ _) Strm.mk
theorem abc_get : ∀ k : Nat, k < 94 → abc.getD k 0 ∈ abc := by decide +kernel
end

/-! the program's is_printable, is_integer; the law's says -/
abbrev s_is_printable : Stmt := top 36
abbrev N_is_printable : List Str := ["value"]
theorem sc_is_printable : FnScope N_is_printable ["value"] (defScope s_is_printable) := ⟨rfl, rfl, rfl, by decide +kernel, rfl, by decide +kernel, by decide +kernel⟩
abbrev s_is_integer : Stmt := top 37
abbrev N_is_integer : List Str := ["value", "least", "greatest"]
theorem sc_is_integer : FnScope N_is_integer ["value", "least", "greatest"] (defScope s_is_integer) := ⟨rfl, rfl, rfl, by decide +kernel, rfl, by decide +kernel, by decide +kernel⟩
def prV : V → Bool
  | .str z => prn z
  | _ => false
def inV (lo hi : Int) : V → Bool
  | .int i => decide (lo ≤ i) && decide (i ≤ hi)
  | _ => false
/-- is_printable(v), Pt the table of its code -/
def spPrn (Pt : Addr) : Sp := fun vs H Q _ => ∃ v : V, vs = [v] ∧ GxR.TabG H Pt ∧ (∃ t, tyN H v = some t) ∧ ∀ H', Kp [Pt] H H' → GxR.TabG H' Pt → Q (.bl (prV v)) H'
def spIntg : Sp := fun vs H Q _ => ∃ (v : V) (lo hi : Int), vs = [v, .int lo, .int hi] ∧ (∃ t, tyN H v = some t) ∧ Q (.bl (inV lo hi v)) H
section
variable {P : Program} {w : World} {K : PySem.W.Frag} {mg : Str → Option Value} {base : Heap} {f : Addr} {fd : FuncData}
theorem ok_printable {oc kV doc pm ct : Value} {od an : Option Addr} {osl : Array (Option Value)} {c Pt : Addr} {t37 : Tok} (B : Blt mg) (h37 : mg "_BARRED_CODE" = some (.int 37 t37)) (TB : GxR.TabB base mg c Pt)
    (lk : K.lookup f = some ⟨oc, od, .func (PySem.W.fnOf "is_printable" "is_printable" (defArgs s_is_printable) (defBody s_is_printable) (defScope s_is_printable) .none kV doc pm an (.ref c) ct), osl⟩) (hcd : PySem.W.codeIn K (.ref c) "is_printable" = true) :
    FnOk P w K mg base CX0 3 f (PySem.W.fnOf "is_printable" "is_printable" (defArgs s_is_printable) (defBody s_is_printable) (defScope s_is_printable) .none kV doc pm an (.ref c) ct) ["value"] (spPrn Pt) := by
  refine fn_of lk hcd sc_is_printable (fun vs H Q E h => ?_) (fun A outer s H vs Q E hr h => ?_)
  · obtain ⟨v, rfl, _⟩ := h; rfl
  obtain ⟨v, rfl, hG, ⟨t, ht⟩, q⟩ := h
  refine ⟨_, PSs.nox (pss_cons (ps_if (pt_not (pt_val (B.isT (pv 0) B.v_str))) (pss_one (ps_ret pe_bl)) pss_nil)
    (pss_one (ps_ret (pe_allX hr B TB rfl (gsOf (by decide +kernel) (by decide +kernel)) (pv 0) (elt_prn B h37 rfl rfl rfl rfl) (fun _ => rfl))))), ?_⟩
  walk_at "wp"
  refine ⟨t, ht, ?_⟩
  cases c1 : isaB t "str" with
  | true =>
    obtain ⟨z, rfl⟩ := isa_str ht c1
    rw [if_neg (by decide)]
    exact ⟨_, rfl, z, rfl, hG, fun H2 hT => q H2 (Kp.tab hG hT (List.mem_singleton.mpr rfl)) hT.1⟩
  | false =>
    rw [if_pos rfl]
    have e : prV v = false := by
      cases v with
      | str z => cases ht; exact absurd c1 (by decide)
      | _ => rfl
    have z := q H (Kp.refl _ _) hG
    rw [e] at z
    exact z
theorem ok_integer (F : Fun K "is_integer" "is_integer" s_is_integer f fd) (B : Blt mg) : FnOk P w K mg base CX0 1 f fd ["value", "least", "greatest"] spIntg := by
  refine F.ok sc_is_integer (fun vs H Q E h => ?_) (fun cdv A outer s H vs Q E hr h => ?_)
  · obtain ⟨v, lo, hi, rfl, _⟩ := h; rfl
  obtain ⟨v, lo, hi, rfl, ⟨t, ht⟩, q⟩ := h
  refine ⟨_, (pss_cons (ps_if (PW.pt (pw_or (pt_not (pt_val (B.isT (pv 0) B.v_int))) (pw_or1 (pt_val (B.isT (pv 0) B.v_bool))))) (pss_one (ps_ret pe_bl)) pss_nil)
    (pss_one (ps_ret (pe_chain op_le op_le (pv 1) (pv 0) (pv 2))))), ?_⟩
  walk_at "wp"
  refine ⟨t, ht, ?_⟩
  cases c1 : isaB t "int" with
  | false =>
    rw [if_pos rfl]
    have e : inV lo hi v = false := by
      cases v with
      | int z => cases ht; exact absurd c1 (by decide)
      | _ => rfl
    rw [e] at q
    exact q
  | true =>
    rw [if_neg (by decide)]
    refine ⟨t, ht, ?_⟩
    rcases isa_int ht c1 with ⟨z, rfl⟩ | ⟨b, rfl⟩
    · cases ht
      rw [if_neg (by decide)]
      have q : Q (.bl (decide (lo ≤ z) && decide (z ≤ hi))) H := q
      refine ⟨z, rfl, ?_⟩
      by_cases c2 : lo ≤ z
      · rw [if_pos c2]
        rw [decide_eq_true c2] at q
        exact ⟨z, rfl, q⟩
      · rw [if_neg c2]
        rw [decide_eq_false c2] at q
        exact q
    · cases ht
      rw [if_pos (by decide)]
      exact q
end

/-! list names and keys -/
abbrev s_consists_of : Stmt := top 32
abbrev N_consists_of : List Str := ["text", "marks"]
theorem sc_consists_of : FnScope N_consists_of ["text", "marks"] (defScope s_consists_of) := ⟨rfl, rfl, rfl, by decide +kernel, rfl, by decide +kernel, by decide +kernel⟩
abbrev s_is_list_name : Stmt := top 27
abbrev N_is_list_name : List Str := ["value"]
theorem sc_is_list_name : FnScope N_is_list_name ["value"] (defScope s_is_list_name) := ⟨rfl, rfl, rfl, by decide +kernel, rfl, by decide +kernel, by decide +kernel⟩
abbrev s_is_key : Stmt := top 28
abbrev N_is_key : List Str := ["value"]
theorem sc_is_key : FnScope N_is_key ["value"] (defScope s_is_key) := ⟨rfl, rfl, rfl, by decide +kernel, rfl, by decide +kernel, by decide +kernel⟩
structure NmC (mg : Str → Option Value) : Prop where
  c_DIGITS : ∃ t, mg "_DIGITS" = some (.str "0123456789" t)
  c_MOST_NAME : ∃ t, mg "_MOST_NAME" = some (.int 12 t)
def inT (m z : Str) : Bool := z.cps.toList.all fun c => decide (c ∈ m.cps.toList)
def lnS (z : Str) : Bool := decide (1 ≤ z.length) && decide (z.length ≤ 12) && inT (Str.ofString "abcdefghijklmnopqrstuvwxyz") z
def kyS (z : Str) : Bool := decide (2 ≤ z.length) && decide (z.length ≤ 12) && decide (z.cps.toList.head? = some 107) && inT (Str.ofString "0123456789") (cutS z (some 1) none)
def lnV : V → Bool
  | .str z => lnS z
  | _ => false
def kyV : V → Bool
  | .str z => kyS z
  | _ => false
def szV : V → Prop
  | .str z => z.length ≤ sizeLine
  | _ => True
/-- _consists_of(z, m), Pc the table of its code -/
def spCons (Pc : Addr) : Sp := fun vs H Q _ => ∃ z m : Str, vs = [.str z, .str m] ∧ GxR.TabG H Pc ∧ ∀ H', Kp [Pc] H H' → GxR.TabG H' Pc → Q (.bl (inT m z)) H'
def spNm (f : V → Bool) (Pc : Addr) : Sp := fun vs H Q _ => ∃ v : V, vs = [v] ∧ GxR.TabG H Pc ∧ (∃ t, tyN H v = some t) ∧ szV v ∧ ∀ H', Kp [Pc] H H' → GxR.TabG H' Pc → Q (.bl (f v)) H'
section
variable {P : Program} {w : World} {K : PySem.W.Frag} {mg : Str → Option Value} {base : Heap} {f : Addr} {fd : FuncData}
theorem ok_consists {oc kV doc pm ct : Value} {od an : Option Addr} {osl : Array (Option Value)} {c Pc : Addr} (B : Blt mg) (TB : GxR.TabB base mg c Pc)
    (lk : K.lookup f = some ⟨oc, od, .func (PySem.W.fnOf "_consists_of" "_consists_of" (defArgs s_consists_of) (defBody s_consists_of) (defScope s_consists_of) .none kV doc pm an (.ref c) ct), osl⟩) (hcd : PySem.W.codeIn K (.ref c) "_consists_of" = true) :
    FnOk P w K mg base CX0 3 f (PySem.W.fnOf "_consists_of" "_consists_of" (defArgs s_consists_of) (defBody s_consists_of) (defScope s_consists_of) .none kV doc pm an (.ref c) ct) ["text", "marks"] (spCons Pc) := by
  refine fn_of lk hcd sc_consists_of (fun vs H Q E h => ?_) (fun A outer s H vs Q E hr h => ?_)
  · obtain ⟨z, m, rfl, _⟩ := h; rfl
  obtain ⟨z, m, rfl, hG, q⟩ := h
  refine ⟨_, PSs.nox (pss_one (ps_ret (pe_allC (iy := 1) hr B TB rfl (gs0Of (by decide +kernel) (by decide +kernel)) (by show freeOk _ (defScope s_consists_of) = true; decide +kernel) (pv 0) (elt_in rfl rfl rfl) (by rfl) (by rfl) (fun _ => rfl) (fun _ => rfl)))), ?_⟩
  exact ⟨m, rfl, _, rfl, z, rfl, hG, fun H2 hT => q H2 (Kp.tab hG hT (List.mem_singleton.mpr rfl)) hT.1⟩
theorem cps_lenN (z : Str) : z.cps.toList.length = z.length := by
  show _ = z.cps.size
  exact Array.length_toList
theorem spNm_no {g : V → Bool} {v : V} {t : String} {H : Hp} {Pc : Addr} {Q : VK} (hg : ∀ v, (∀ z, v ≠ .str z) → g v = false) (ht : tyN H v = some t) (c1 : isaB t "str" = false) (hG : GxR.TabG H Pc) (q : ∀ H', Kp [Pc] H H' → GxR.TabG H' Pc → Q (.bl (g v)) H') : Q (.bl false) H := by
  have z := q H (Kp.refl _ _) hG
  rw [hg v (fun z e => by subst e; cases ht; exact absurd c1 (by decide))] at z
  exact z
theorem ok_list_name {Pc : Addr} (F : Fun K "is_list_name" "is_list_name" s_is_list_name f fd) (B : Blt mg) (D : NmC mg) (hL : ∃ t, mg "_LETTERS" = some (.str "abcdefghijklmnopqrstuvwxyz" t)) (c_consists_of : Cal P w K mg base CX0 3 "_consists_of" (spCons Pc)) : FnOk P w K mg base CX0 4 f fd ["value"] (spNm lnV Pc) := by
  refine F.ok sc_is_list_name (fun vs H Q E h => ?_) (fun cdv A outer s H vs Q E hr h => ?_)
  · obtain ⟨v, rfl, _⟩ := h; rfl
  obtain ⟨v, rfl, hG, ⟨t, ht⟩, hz, q⟩ := h
  refine ⟨_, (pss_cons (ps_if (PW.pt (pw_or (pt_not (pt_val (B.isT (pv 0) B.v_str))) (pw_or1 (pt_not (pt_chain op_le op_le pe_int (B.len_s (pa_cons (pv 0) pa_nil)) (pe_cE D.c_MOST_NAME)))))) (pss_one (ps_ret pe_bl)) pss_nil)
    (pss_one (ps_ret (c_consists_of.pe hr (pa_cons (pv 0) (pa_cons (pe_cSE hL) pa_nil)))))), ?_⟩
  walk_at "wp"
  refine ⟨t, ht, ?_⟩
  have off : ∀ z, v = .str z → lnV v = false → Q (.bl false) H := fun z e h => by
    have y := q H (Kp.refl _ _) hG
    rw [h] at y; exact y
  cases c1 : isaB t "str" with
  | false => rw [if_pos rfl]; exact spNm_no (fun v h => by cases v <;> first | rfl | exact absurd rfl (h _)) ht c1 hG q
  | true =>
    rw [if_neg (by decide)]
    obtain ⟨z, rfl⟩ := isa_str ht c1
    refine ⟨z, rfl, hz, ?_⟩
    split
    · rename_i h1
      split
      · rename_i h2
        refine off z rfl ?_
        show lnS z = false
        unfold lnS
        rw [decide_eq_false (show ¬ z.length ≤ 12 by omega), Bool.and_false, Bool.false_and]
      · rename_i h2
        refine ⟨z, _, rfl, hG, fun H' k g => ?_⟩
        have y := q H' k g
        rw [show lnV (.str z) = inT (Str.ofString "abcdefghijklmnopqrstuvwxyz") z by
          show lnS z = _
          unfold lnS
          rw [decide_eq_true (show 1 ≤ z.length by omega), decide_eq_true (show z.length ≤ 12 by omega), Bool.true_and, Bool.true_and]] at y
        exact y
    · rename_i h1
      refine off z rfl ?_
      show lnS z = false
      unfold lnS
      rw [decide_eq_false (show ¬ 1 ≤ z.length by omega), Bool.false_and, Bool.false_and]
theorem ok_key {Pc : Addr} (F : Fun K "is_key" "is_key" s_is_key f fd) (B : Blt mg) (D : NmC mg) (c_consists_of : Cal P w K mg base CX0 3 "_consists_of" (spCons Pc)) : FnOk P w K mg base CX0 4 f fd ["value"] (spNm kyV Pc) := by
  refine F.ok sc_is_key (fun vs H Q E h => ?_) (fun cdv A outer s H vs Q E hr h => ?_)
  · obtain ⟨v, rfl, _⟩ := h; rfl
  obtain ⟨v, rfl, hG, ⟨t, ht⟩, hz, q⟩ := h
  refine ⟨_, (pss_cons (ps_if (PW.pt (pw_or (pt_not (pt_val (B.isT (pv 0) B.v_str))) (pw_or1 (pt_not (pt_chain op_le op_le pe_int (B.len_s (pa_cons (pv 0) pa_nil)) (pe_cE D.c_MOST_NAME)))))) (pss_one (ps_ret pe_bl)) pss_nil)
    (pss_one (ps_ret (pe_and (pe_cmpR op_eq (pe_ix ix_str (pv 0) pe_int (fun _ _ => rfl)) pe_str (nomark _)) (pe_one (c_consists_of.pe hr (pa_cons (pe_slice sl_str (pv 0) (po_some pe_int) po_none) (pa_cons (pe_cSE D.c_DIGITS) pa_nil)))))))), ?_⟩
  walk_at "wp"
  refine ⟨t, ht, ?_⟩
  have off : ∀ z, v = .str z → kyV v = false → Q (.bl false) H := fun z e h => by
    have y := q H (Kp.refl _ _) hG
    rw [h] at y; exact y
  cases c1 : isaB t "str" with
  | false => rw [if_pos rfl]; exact spNm_no (fun v h => by cases v <;> first | rfl | exact absurd rfl (h _)) ht c1 hG q
  | true =>
    rw [if_neg (by decide)]
    obtain ⟨z, rfl⟩ := isa_str ht c1
    refine ⟨z, rfl, hz, ?_⟩
    split
    · rename_i h1
      split
      · rename_i h2
        refine off z rfl ?_
        show kyS z = false
        unfold kyS
        rw [decide_eq_false (show ¬ z.length ≤ 12 by omega), Bool.and_false, Bool.false_and, Bool.false_and]
      · rename_i h2
        have hl : z.cps.toList.length = z.length := cps_lenN z
        obtain ⟨c, r, ez⟩ : ∃ c r, z.cps.toList = c :: r := by
          cases e : z.cps.toList with
          | nil => rw [e] at hl; simp at hl; omega
          | cons c r => exact ⟨c, r, rfl⟩
        refine ⟨z, 0, c, rfl, rfl, hz, by rw [ez]; exact at0, rfl, ?_⟩
        have ek : (V.str ⟨#[c]⟩ = V.str (Str.ofString "k")) ↔ c = 107 := by
          constructor
          · intro h
            have h := congrArg (fun s : Str => s.cps.toList) (V.str.inj h)
            have h : [c] = [107] := h
            exact (List.cons.inj h).1
          · rintro rfl; rfl
        have eh : z.cps.toList.head? = some c := by rw [ez]; rfl
        by_cases h3 : c = 107
        · rw [if_pos (ek.mpr h3)]
          refine ⟨z, rfl, hz, _, _, rfl, hG, fun H' k g => ?_⟩
          have y := q H' k g
          rw [show kyV (.str z) = inT (Str.ofString "0123456789") (cutS z (some 1) none) by
            show kyS z = _
            unfold kyS
            rw [decide_eq_true (show 2 ≤ z.length by omega), decide_eq_true (show z.length ≤ 12 by omega), eh, decide_eq_true (by rw [h3]), Bool.true_and, Bool.true_and, Bool.true_and]] at y
          exact y
        · rw [if_neg (fun h => h3 (ek.mp h))]
          refine off z rfl ?_
          show kyS z = false
          unfold kyS
          rw [eh, decide_eq_false (fun h => h3 (Option.some.inj h)), Bool.and_false, Bool.false_and]
    · rename_i h1
      refine off z rfl ?_
      show kyS z = false
      unfold kyS
      rw [decide_eq_false (show ¬ 2 ≤ z.length by omega), Bool.false_and, Bool.false_and, Bool.false_and]
end

/-! paths and patterns -/
abbrev s_has_parts_of : Stmt := top 33
abbrev N_has_parts_of : List Str := ["value", "marks", "parts"]
theorem sc_has_parts_of : FnScope N_has_parts_of ["value", "marks"] (defScope s_has_parts_of) := ⟨rfl, rfl, rfl, by decide +kernel, rfl, by decide +kernel, by decide +kernel⟩
abbrev s_is_path : Stmt := top 29
abbrev N_is_path : List Str := ["value"]
theorem sc_is_path : FnScope N_is_path ["value"] (defScope s_is_path) := ⟨rfl, rfl, rfl, by decide +kernel, rfl, by decide +kernel, by decide +kernel⟩
abbrev s_is_pattern : Stmt := top 30
abbrev N_is_pattern : List Str := ["value"]
theorem sc_is_pattern : FnScope N_is_pattern ["value"] (defScope s_is_pattern) := ⟨rfl, rfl, rfl, by decide +kernel, rfl, by decide +kernel, by decide +kernel⟩
structure PaC (mg : Str → Option Value) : Prop where
  c_MOST_PATH : ∃ t, mg "MOST_PATH" = some (.int 60 t)
  c_MOST_PARTS : ∃ t, mg "_MOST_PARTS" = some (.int 6 t)
  c_PART_MARKS : ∃ t, mg "_PART_MARKS" = some (.str "abcdefghijklmnopqrstuvwxyz0123456789_-." t)
/-- the parts of a text, each of them some of the marks m -/
def hpS (m z : Str) : Bool := decide (z.length ≤ 60) && decide ((Txt.split z (Str.ofString "/")).length ≤ 6) && (Txt.split z (Str.ofString "/")).all fun p => decide (p ≠ Str.ofString "") && inT m p
def hpV (m : Str) : V → Bool
  | .str z => hpS m z
  | _ => false
def spPartsOf (Ts : List Addr) : Sp := fun vs H Q _ => ∃ (v : V) (m : Str), vs = [v, .str m] ∧ Tabs Ts H ∧ (∃ t, tyN H v = some t) ∧ szV v ∧ ∀ H', Kp Ts H H' → Tabs Ts H' → Q (.bl (hpV m v)) H'
def spPa (m : Str) (Ts : List Addr) : Sp := fun vs H Q _ => ∃ v : V, vs = [v] ∧ Tabs Ts H ∧ (∃ t, tyN H v = some t) ∧ szV v ∧ ∀ H', Kp Ts H H' → Tabs Ts H' → Q (.bl (hpV m v)) H'
/-- the marks of a path, of a pattern -/
def paM : Str := Str.ofString "abcdefghijklmnopqrstuvwxyz0123456789_-."
def ptM : Str := Str.ofString "abcdefghijklmnopqrstuvwxyz0123456789_-." ++ Str.ofString "*"
section
variable {P : Program} {w : World} {K : PySem.W.Frag} {mg : Str → Option Value} {base : Heap} {f : Addr} {fd : FuncData}
theorem hp_no {m : Str} {v : V} {t : String} {H : Hp} (ht : tyN H v = some t) (c1 : isaB t "str" = false) : hpV m v = false := by
  cases v <;> first | rfl | (cases ht; exact absurd c1 (by decide))
theorem ok_parts_of {oc kV doc pm ct : Value} {od an : Option Addr} {osl : Array (Option Value)} {c Pt Pc : Addr} {Ts : List Addr} (B : Blt mg) (TB : GxR.TabB base mg c Pt) (D : PaC mg) (mt : Pt ∈ Ts) (mc : Pc ∈ Ts)
    (lk : K.lookup f = some ⟨oc, od, .func (PySem.W.fnOf "_has_parts_of" "_has_parts_of" (defArgs s_has_parts_of) (defBody s_has_parts_of) (defScope s_has_parts_of) .none kV doc pm an (.ref c) ct), osl⟩) (hcd : PySem.W.codeIn K (.ref c) "_has_parts_of" = true)
    (c_consists_of : Cal P w K mg base CX0 3 "_consists_of" (spCons Pc)) :
    FnOk P w K mg base CX0 6 f (PySem.W.fnOf "_has_parts_of" "_has_parts_of" (defArgs s_has_parts_of) (defBody s_has_parts_of) (defScope s_has_parts_of) .none kV doc pm an (.ref c) ct) ["value", "marks"] (spPartsOf Ts) := by
  refine fn_of lk hcd sc_has_parts_of (fun vs H Q E h => ?_) (fun A outer s H vs Q E hr h => ?_)
  · obtain ⟨v, m, rfl, _⟩ := h; rfl
  obtain ⟨v, m, rfl, hG, ⟨t, ht⟩, hz, q⟩ := h
  refine ⟨_, PSs.nox (pss_cons (ps_if (PW.pt (pw_or (pt_not (pt_val (B.isT (pv 0) B.v_str))) (pw_or1 (pt_cmpR op_gt (B.len_s (pa_cons (pv 0) pa_nil)) (pe_cE D.c_MOST_PATH) (nomark _))))) (pss_one (ps_ret pe_bl)) pss_nil)
    (pss_cons (ps_set (i := 2) sc_has_parts_of.nd rfl (Or.inl rfl) (pe_m1 PySem.F.slot_str_split PySem.F.type_str_split mt_split (pv 0) pe_str))
    (pss_cons (ps_if (pt_cmpR op_gt (B.len_q (pa_cons (pv 2) pa_nil)) (pe_cE D.c_MOST_PARTS) (nomark _)) (pss_one (ps_ret pe_bl)) pss_nil)
    (pss_one (ps_ret (pe_allG (N := ["part", "marks"]) (nt := 1) (fr := [1]) rfl hr B TB rfl (gnOf (by decide +kernel)) (by show freeOk _ (defScope s_has_parts_of) = true; decide +kernel) (by show capOk _ _ _ N_has_parts_of _ (defScope s_has_parts_of) = true; decide +kernel)
      (pi_list (pv 2)) (fun _ _ _ _ _ hr => (pg_name (i := 0) (by show List.Nodup (["part", "marks"] : List Str); decide +kernel) rfl (Or.inl rfl))) (fun _ _ _ _ _ hr => pts_nil) (fun _ _ _ _ _ hr => (pe_and (pe_cmpR op_ne (pv 0) pe_str (nomark _)) (pe_one (c_consists_of.pe hr (pa_cons (pv 0) (pa_cons (pv 1) pa_nil)))))) (fun _ => rfl))))))), ?_⟩
  walk_at "wp"
  refine ⟨t, ht, ?_⟩
  have off : hpV m v = false → Q (.bl false) H := fun h => by
    have y := q H (Kp.refl _ _) hG
    rw [h] at y; exact y
  cases c1 : isaB t "str" with
  | false => rw [if_pos rfl]; exact off (hp_no ht c1)
  | true =>
    rw [if_neg (by decide)]
    obtain ⟨z, rfl⟩ := isa_str ht c1
    refine ⟨z, rfl, hz, ?_⟩
    have lim : sizeLine = 16777216 := sizeLine_eq
    split
    · rename_i h1
      refine off ?_
      show hpS m z = false
      unfold hpS
      rw [decide_eq_false (show ¬ z.length ≤ 60 by omega), Bool.false_and, Bool.false_and]
    · rename_i h1
      refine ⟨⟨_, rfl⟩, z, rfl, by decide +kernel, by omega, fun p hp => ⟨p, rfl, _, .inl (SqL.of upd_same), ?_⟩⟩
      rw [List.length_map]
      have k0 : Kp Ts H (upd H p (.lst ((Txt.split z (Str.ofString "/")).map V.str))) := Kp.new hp _
      have g0 := hG.new hp (.lst ((Txt.split z (Str.ofString "/")).map V.str))
      have fin : ∀ (b : Bool) (H' : Hp), Kp Ts H H' → Tabs Ts H' → hpV m (.str z) = b → Q (.bl b) H' := fun b H' k g e => by
        rw [← e]; exact q H' k g
      split
      · rename_i h2
        refine fin _ _ k0 g0 ?_
        show hpS m z = false
        unfold hpS
        rw [decide_eq_false (show ¬ (Txt.split z (Str.ofString "/")).length ≤ 6 by omega), Bool.and_false, Bool.false_and]
      · rename_i h2
        have ev : hpV m (.str z) = (Txt.split z (Str.ofString "/")).all fun p => decide (p ≠ Str.ofString "") && inT m p := by
          show hpS m z = _
          unfold hpS
          rw [decide_eq_true (show z.length ≤ 60 by omega), decide_eq_true (show (Txt.split z (Str.ofString "/")).length ≤ 6 by omega), Bool.true_and, Bool.true_and]
        have es : (upd H p (.lst ((Txt.split z (Str.ofString "/")).map V.str))) p = some (.lst ((Txt.split z (Str.ofString "/")).map V.str)) := upd_same
        generalize upd H p (.lst ((Txt.split z (Str.ofString "/")).map V.str)) = H1 at k0 g0 es ⊢
        generalize Txt.split z (Str.ofString "/") = ps at ev es h2 ⊢
        refine ⟨_, rfl, p, rfl, ⟨_, SqL.of es⟩, g0 _ mt, fun H2 hT => ?_⟩
        have g2 := g0.tab hT mt
        have k2 : Kp Ts H H2 := k0.trans (Kp.tab (g0 _ mt) hT mt)
        have e2 := (Kp.tab (g0 _ mt) hT mt).get g0 es
        refine for_list (K := K) (a := p) (xs := ps.map V.str) (fun i σ H' => (∃ o : Option V, σ = [o, some (.str m)]) ∧ Kp Ts H H' ∧ Tabs Ts H' ∧ H' p = some (.lst (ps.map V.str)) ∧ ((ps.take i).all fun p => decide (p ≠ Str.ofString "") && inT m p) = true)
          ⟨⟨_, rfl⟩, k2, g2, e2, rfl⟩ (fun i σ H' _ ⟨_, _, _, e, _⟩ => SqL.of e) (fun i x σ H' hx ⟨⟨o, hσ⟩, k3, g3, e3, ha⟩ => ?_) (fun σ H' ⟨⟨o, hσ⟩, k3, g3, e3, ha⟩ => ?_)
        · subst hσ
          rw [List.getElem?_map] at hx
          obtain ⟨y, hy, rfl⟩ := Option.map_eq_some_iff.mp hx
          have tk : ps.take (i + 1) = ps.take i ++ [y] := by rw [List.take_add_one, hy]; rfl
          have no : (decide (y ≠ Str.ofString "") && inT m y) = false → hpV m (.str z) = false := fun h => by
            rw [ev, List.all_eq_false]
            exact ⟨y, List.mem_of_getElem? hy, by rw [h]; decide⟩
          unfold tbAll
          simp only [tYes, if_true]
          walk_at "wp"
          by_cases h3 : y = Str.ofString ""
          · rw [if_neg (fun q => q h3)]
            exact fin _ _ k3 g3 (no (by rw [decide_eq_false (fun q => q h3), Bool.false_and]))
          · rw [if_pos h3]
            refine ⟨y, m, rfl, g3 _ mc, fun H4 k4 g4 => ⟨_, rfl, ?_⟩⟩
            have k5 := k3.trans (k4.in1 mc)
            have g5 := g3.kp1 k4 g4
            cases hb : inT m y with
            | true =>
              rw [if_pos rfl]
              refine ⟨⟨_, rfl⟩, k5, g5, (k4.in1 mc).get g3 e3, ?_⟩
              rw [tk, List.all_append, ha]
              show (true && ((decide (y ≠ Str.ofString "") && inT m y) && true)) = true
              rw [decide_eq_true h3, hb]; rfl
            | false =>
              rw [if_neg (by decide)]
              exact fin _ _ k5 g5 (no (by rw [hb, Bool.and_false]))
        · exact fin _ _ k3 g3 (by rw [ev, ← List.take_of_length_le (l := ps) (Nat.le_refl _)]; rw [List.length_map] at ha; exact ha)
theorem ok_path {Ts : List Addr} (F : Fun K "is_path" "is_path" s_is_path f fd) (B : Blt mg) (D : PaC mg) (c_has_parts_of : Cal P w K mg base CX0 6 "_has_parts_of" (spPartsOf Ts)) : FnOk P w K mg base CX0 7 f fd ["value"] (spPa paM Ts) := by
  refine F.ok sc_is_path (fun vs H Q E h => ?_) (fun cdv A outer s H vs Q E hr h => ?_)
  · obtain ⟨v, rfl, _⟩ := h; rfl
  obtain ⟨v, rfl, hG, ht, hz, q⟩ := h
  refine ⟨_, (pss_one (ps_ret (c_has_parts_of.pe hr (pa_cons (pv 0) (pa_cons (pe_cSE D.c_PART_MARKS) pa_nil))))), ?_⟩
  walk_at "wp"
  exact ⟨v, _, rfl, hG, ht, hz, q⟩
theorem ok_pattern {Ts : List Addr} (F : Fun K "is_pattern" "is_pattern" s_is_pattern f fd) (B : Blt mg) (D : PaC mg) (c_has_parts_of : Cal P w K mg base CX0 6 "_has_parts_of" (spPartsOf Ts)) : FnOk P w K mg base CX0 7 f fd ["value"] (spPa ptM Ts) := by
  refine F.ok sc_is_pattern (fun vs H Q E h => ?_) (fun cdv A outer s H vs Q E hr h => ?_)
  · obtain ⟨v, rfl, _⟩ := h; rfl
  obtain ⟨v, rfl, hG, ht, hz, q⟩ := h
  refine ⟨_, (pss_one (ps_ret (c_has_parts_of.pe hr (pa_cons (pv 0) (pa_cons (pe_op op_add_str (pe_cSE D.c_PART_MARKS) pe_str) pa_nil))))), ?_⟩
  walk_at "wp"
  exact ⟨by decide +kernel, v, _, rfl, hG, ht, hz, q⟩
end

/-! digest -/
abbrev s_digest : Stmt := top 5
abbrev N_digest : List Str := ["text", "number", "mark", "digits"]
theorem sc_digest : FnScope N_digest ["text"] (defScope s_digest) := ⟨rfl, rfl, rfl, by decide +kernel, rfl, by decide +kernel, by decide +kernel⟩
structure DgC (mg : Str → Option Value) : Prop where
  c_FACTOR : ∃ t, mg "_FACTOR" = some (.int 65599 t)
  c_DIVISOR : ∃ t, mg "_DIVISOR" = some (.int 2361183241434822606617 t)
  c_DIGEST_LENGTH : ∃ t, mg "DIGEST_LENGTH" = some (.int 18 t)
def spDigest : Sp := fun vs H Q _ => ∃ z : Str, vs = [.str z] ∧ z.length ≤ sizeLine ∧ Q (.str (dgs z)) H
section
variable {P : Program} {w : World} {K : PySem.W.Frag} {mg : Str → Option Value} {base : Heap} {f : Addr} {fd : FuncData}
theorem cps_len (z : Str) : z.cps.toList.length = z.length := by
  show _ = z.cps.size
  exact Array.length_toList
theorem take1 {l : List Nat} {i c : Nat} (h : l[i]? = some c) : l.take (i + 1) = l.take i ++ [c] := by
  rw [List.take_add_one, h]; rfl
theorem cps_at {z : Str} {i c : Nat} (h : z.cps[i]? = some c) : z.cps.toList[i]? = some c := by rw [Array.getElem?_toList]; exact h
theorem take_cps (z : Str) : z.cps.toList.take z.cps.size = z.cps.toList := List.take_of_length_le (by rw [Array.length_toList]; exact Nat.le_refl _)
theorem ok_digest (F : Fun K "digest" "digest" s_digest f fd) (B : Blt mg) (D : DgC mg) : FnOk P w K mg base CX0 1 f fd ["text"] spDigest := by
  refine F.ok sc_digest (fun vs H Q E h => ?_) (fun cdv A outer s H vs Q E hr h => ?_)
  · obtain ⟨z, rfl, _⟩ := h; rfl
  obtain ⟨z, rfl, hz, q⟩ := h
  refine ⟨_, (pss_cons (ps_set (i := 1) sc_digest.nd rfl (Or.inl rfl) (pe_op op_add (B.len_s (pa_cons (pv 0) pa_nil)) pe_int))
    (pss_cons (ps_for PassesOwn.never rfl (pi_str (pv 0)) (pg_name (i := 2) sc_digest.nd rfl (Or.inl rfl)) (pss_one (ps_set (i := 1) sc_digest.nd rfl (Or.inl rfl) (pe_op op_mod (pe_op op_add (pe_op op_mul (pv 1) (pe_cE D.c_FACTOR)) (B.ord_ (pa_cons (pv 2) pa_nil))) (pe_cE D.c_DIVISOR)))))
    (pss_cons (ps_set (i := 3) sc_digest.nd rfl (Or.inl rfl) (pe_joined1 (pe_fmtX (pv 1))))
    (pss_one (ps_ret (pe_m1 PySem.F.slot_str_zfill PySem.F.type_str_zfill mt_zfill (pv 3) (pe_cE D.c_DIGEST_LENGTH))))))), ?_⟩
  walk_at "wp"
  refine ⟨hz, _, rfl, z, rfl, ?_⟩
  refine for_it walk_str (fun i σ H' => H' = H ∧ ∃ o : Option V, σ = [some (.str z), some (.int (((z.cps.toList.take i).foldl dgF (z.length + 1) : Nat) : Int)), o, none]) ⟨rfl, _, rfl⟩ (fun _ _ _ _ _ => True.intro) (fun i x σ H1 H2 hi ⟨hH, o, hσ⟩ ⟨h2, c, hc, hx⟩ => ?_) (fun σ H1 ⟨hH, o, hσ⟩ => ?_)
  · subst hσ
    subst hx
    subst h2
    subst hH
    walk_at "wp"
    refine ⟨.inr ⟨by decide, by decide⟩, by rfl, by decide, ?_⟩
    rw [take1 (cps_at hc), List.foldl_append]
    generalize (z.cps.toList.take i).foldl dgF (z.length + 1) = a
    refine ⟨?_, _, rfl⟩
    show ((a : Int) * 65599 + (c : Int)) % 2361183241434822606617 = (((a * 65599 + c) % 2361183241434822606617 : Nat) : Int)
    rw [Int.natCast_emod, Int.natCast_add, Int.natCast_mul]
    rfl
  · subst hσ
    subst hH
    walk_at "wp"
    have hd := dgN_lt z.cps.toList
    rw [take_cps, show z.length = z.cps.toList.length from (cps_len z).symm]
    refine ⟨_, rfl, ?_, ?_⟩
    · have := hxT_len hd
      unfold hxT at this
      rw [List.length_map] at this
      exact Nat.le_trans this (by decide)
    rw [show (⟨((Nat.toDigits 16 (z.cps.toList.foldl dgF (z.cps.toList.length + 1))).map Char.toNat).toArray⟩ : Str) = ⟨(hxT (dgN z.cps.toList)).toArray⟩ from rfl, zfill_hx hd]
    exact ⟨⟨_, rfl⟩, by decide, q⟩
end

structure TxtC (K : PySem.W.Frag) (mg : Str → Option Value) (C : Addr) (td tz tt : Tok) : Prop where
  bad : Err K mg "BadText" C
  dg : mg "MOST_DIGITS" = some (.int 20 td)
  dp : mg "MOST_DEPTH" = some (.int 8 tz)
  mt : mg "MOST_TEXT" = some (.int 100000 tt)

/-! decode and its helpers -/
abbrev s_decode : Stmt := top 38
abbrev N_decode : List Str := ["text", "value", "end"]
theorem sc_decode : FnScope N_decode ["text"] (defScope s_decode) := ⟨rfl, rfl, rfl, by decide +kernel, rfl, by decide +kernel, by decide +kernel⟩
abbrev s_end_of_digits : Stmt := top 42
abbrev N_end_of_digits : List Str := ["text", "start", "end"]
theorem sc_end_of_digits : FnScope N_end_of_digits ["text", "start"] (defScope s_end_of_digits) := ⟨rfl, rfl, rfl, by decide +kernel, rfl, by decide +kernel, by decide +kernel⟩
abbrev s_number_of : Stmt := top 43
abbrev N_number_of : List Str := ["digits"]
theorem sc_number_of : FnScope N_number_of ["digits"] (defScope s_number_of) := ⟨rfl, rfl, rfl, by decide +kernel, rfl, by decide +kernel, by decide +kernel⟩
abbrev s_string_at : Stmt := top 41
abbrev N_string_at : List Str := ["text", "start", "length", "end"]
theorem sc_string_at : FnScope N_string_at ["text", "start", "length"] (defScope s_string_at) := ⟨rfl, rfl, rfl, by decide +kernel, rfl, by decide +kernel, by decide +kernel⟩
abbrev s_value_at : Stmt := top 39
abbrev N_value_at : List Str := ["text", "start", "levels", "end", "number", "sign"]
theorem sc_value_at : FnScope N_value_at ["text", "start", "levels"] (defScope s_value_at) := ⟨rfl, rfl, rfl, by decide +kernel, rfl, by decide +kernel, by decide +kernel⟩
abbrev s_tuple_at : Stmt := top 40
abbrev N_tuple_at : List Str := ["text", "start", "levels", "parts", "at", "part"]
theorem sc_tuple_at : FnScope N_tuple_at ["text", "start", "levels"] (defScope s_tuple_at) := ⟨rfl, rfl, rfl, by decide +kernel, rfl, by decide +kernel, by decide +kernel⟩
section
variable {P : Program} {w : World} {K : PySem.W.Frag} {mg : Str → Option Value} {base : Heap} {f : Addr} {fd : FuncData} {C Pt : Addr} {td tz tt : Tok}
def spEod : Sp := fun vs H Q _ => ∃ (z : Str) (s : Nat), vs = [.str z, .int s] ∧ z.length ≤ 1000000 ∧ s ≤ z.length ∧ Q (.int ((s + (((TL.tl z).drop s).takeWhile isD).length : Nat) : Int)) H
def spNum (C : Addr) : Sp := fun vs H Q E => ∃ d : Str, vs = [.str d] ∧ d.length ≤ 1000000 ∧ (∀ c ∈ TL.tl d, isD c = true) ∧ (goodD (TL.tl d) = true → Q (.int (val (TL.tl d))) H) ∧ (goodD (TL.tl d) = false → E (.ref C) none H)
def spStrAt (C : Addr) : Sp := fun vs H Q E => ∃ (z : Str) (s n : Nat), vs = [.str z, .int s, .int n] ∧ z.length ≤ 1000000 ∧ s ≤ z.length ∧
  (s + n ≤ z.length → ∀ p, H p = none → Q (.ref p) (upd H p (.tup [.str ⟨(((TL.tl z).drop s).take n).toArray⟩, .int ((s + n : Nat) : Int)]))) ∧ (¬ s + n ≤ z.length → E (.ref C) none H)
def spVal (C : Addr) (n : Nat) : Sp := fun vs H Q E => ∃ (z : Str) (s : Nat), vs = [.str z, .int s, .int n] ∧ z.length ≤ 100000 ∧ s ≤ z.length ∧
  (∀ t r, pval n ((TL.tl z).drop s) = some (t, r) → ∀ (p : Addr) (v : V) (e : Nat) (H' : Hp), Kp [] H H' → H' p = some (.tup [v, .int e]) → Rep H' v t → e ≤ z.length → (TL.tl z).drop e = r → Q (.ref p) H') ∧
  (pval n ((TL.tl z).drop s) = none → ∀ H', Kp [] H H' → E (.ref C) none H')
/-- _tuple_at behind its opening bracket -/
def spTupAt (C : Addr) (n : Nat) : Sp := fun vs H Q E => ∃ (z : Str) (s : Nat), vs = [.str z, .int s, .int n] ∧ z.length ≤ 100000 ∧ s ≤ z.length ∧
  (∀ t r, pval n (91 :: (TL.tl z).drop s) = some (t, r) → ∀ (p : Addr) (v : V) (e : Nat) (H' : Hp), Kp [] H H' → H' p = some (.tup [v, .int e]) → Rep H' v t → e ≤ z.length → (TL.tl z).drop e = r → Q (.ref p) H') ∧
  (pval n (91 :: (TL.tl z).drop s) = none → ∀ H', Kp [] H H' → E (.ref C) none H')
/-- decode(v): the tree whose text it is; or a BadText -/
def spDec (C Pt : Addr) : Sp := fun vs H Q E => ∃ v : V, vs = [v] ∧ (∃ t, tyN H v = some t) ∧ (∀ z, v = .str z → z.length ≤ 10000000) ∧ GxR.TabG H Pt ∧
  (∀ z t, v = .str z → z.length ≤ 100000 → prn z = true → pval 8 (TL.tl z) = some (t, []) → ∀ (u : V) (H' : Hp), Kp [Pt] H H' → GxR.TabG H' Pt → Rep H' u t → Q u H') ∧
  ((∀ z t, v = .str z → z.length ≤ 100000 → prn z = true → pval 8 (TL.tl z) ≠ some (t, [])) → ∀ H', Kp [Pt] H H' → GxR.TabG H' Pt → E (.ref C) none H')
theorem ok_eod (F : Fun K "_end_of_digits" "_end_of_digits" s_end_of_digits f fd) (B : Blt mg) : FnOk P w K mg base CX0 1 f fd ["text", "start"] spEod := by
  refine F.ok sc_end_of_digits (fun vs H Q E h => ?_) (fun cdv A outer s H vs Q E hr h => ?_)
  · obtain ⟨v, t, rfl, _⟩ := h; rfl
  obtain ⟨z, st, rfl, hz, hs, q⟩ := h
  refine ⟨_, (pss_cons (ps_set (i := 2) sc_end_of_digits.nd rfl (Or.inl rfl) (pv 1))
    (pss_cons (ps_while PassesOwn.never (pt_chain op_le_str op_le_str pe_str (pe_slice sl_str (pv 0) (po_some (pv 2)) (po_some (pe_op op_add (pv 2) pe_int))) pe_str) (pss_one (ps_aug (i := 2) sc_end_of_digits.nd rfl (Or.inl rfl) pe_int ip_add)))
    (pss_one (ps_ret (pv 2))))), ?_⟩
  walk_at "wp"
  refine ⟨fun m σ H' => H' = H ∧ ∃ k : Nat, k ≤ (((TL.tl z).drop st).takeWhile isD).length ∧ σ = [some (.str z), some (.int st), some (.int ((st + k : Nat) : Int))] ∧ m = (((TL.tl z).drop st).takeWhile isD).length - k, ⟨_, rfl, 0, Nat.zero_le _, rfl, rfl⟩, ?_⟩
  rintro m σ H' ⟨rfl, k, hk, rfl, rfl⟩
  walk_at "wp"
  have lim : sizeLine = 16777216 := sizeLine_eq
  refine ⟨by omega, ?_⟩
  have ct := cut_one z (st + k)
  rw [show (TL.tl z).drop (st + k) = ((TL.tl z).drop st).drop k by rw [List.drop_drop]] at ct
  rcases tw_next _ k hk with ⟨c, r, e, hc, hlt⟩ | ⟨he, e⟩
  · have hc := isD_iff.mp hc
    rw [e] at ct
    rw [if_pos (fun z => by
      rcases (lt48 ct).mp z with q | ⟨c', r', q, q2⟩
      · cases q
      · injection q with q _; omega), if_pos (fun z => by have := (lt57 ct).mp z; omega)]
    exact ⟨fun σ' H'' => H'' = H' ∧ σ' = [some (.str z), some (.int st), some (.int ((st + (k + 1) : Nat) : Int))], fun σ' H'' ⟨q1, q2⟩ => ⟨_, by omega, q1, k + 1, hlt, q2, rfl⟩, rfl, rfl⟩
  · rw [← he] at q
    rcases e with e | ⟨c, r, e, hc⟩
    · rw [e] at ct
      rw [if_neg (fun z => z ((lt48 ct).mpr (.inl rfl)))]
      exact q
    · rw [e] at ct
      by_cases c1 : c < 48
      · rw [if_neg (fun z => z ((lt48 ct).mpr (.inr ⟨c, r, rfl, c1⟩)))]
        exact q
      · rw [if_pos (fun z => by
          rcases (lt48 ct).mp z with q | ⟨c', r', q, q2⟩
          · cases q
          · injection q with q _; omega), if_neg (fun z => z ((lt57 ct).mpr (by
          rcases Nat.lt_or_ge 57 c with h | h
          · exact h
          · have := isD_iff.mpr ⟨Nat.not_lt.mp c1, h⟩; rw [hc] at this; cases this)))]
        exact q
theorem ok_number (F : Fun K "_number_of" "_number_of" s_number_of f fd) (B : Blt mg) (T : TxtC K mg C td tz tt) : FnOk P w K mg base (L2N.CX P w) 2 f fd ["digits"] (spNum C) := by
  refine F.okXN sc_number_of (fun vs H Q E h => ?_) (fun cdv A outer s H vs Q E hr h => ?_)
  · obtain ⟨v, rfl, _⟩ := h; rfl
  obtain ⟨d, rfl, hl, hd, q, qe⟩ := h
  refine ⟨_, (pss_cons (ps_if (PW.pt (pw_or (pt_cmpR op_eq (pv 0) pe_str (nomark _)) (pw_or1 (pt_cmpR op_gt (B.len_s (pa_cons (pv 0) pa_nil)) (pe_cI T.dg) (nomark _))))) (pss_one (T.bad.raiseN (L2N.takes_of rfl rfl rfl rfl))) pss_nil)
    (pss_cons (ps_if (PW.pt (pw_and (pt_cmpR op_eq (pe_ix ix_str (pv 0) pe_int (fun _ _ => rfl)) pe_str (nomark _)) (pw_and1 (pt_cmpR op_ne (pv 0) pe_str (nomark _))))) (pss_one (T.bad.raiseN (L2N.takes_of rfl rfl rfl rfl))) pss_nil)
    (pss_one (ps_ret (B.int_s (pa_cons (pv 0) pa_nil)))))), ?_⟩
  walk_at "wp"
  have lim : sizeLine = 16777216 := sizeLine_eq
  by_cases c0 : d = Str.ofString ""
  · rw [if_pos c0]
    exact qe (by rw [c0]; decide +kernel)
  · rw [if_neg c0]
    refine ⟨by omega, ?_⟩
    have dl : (TL.tl d).length = d.length := (TL.len_tl d).symm
    by_cases c1 : d.length ≤ 20
    · rw [if_neg (by omega)]
      have ne : TL.tl d ≠ [] := fun z => c0 (TL.ext_tl (by rw [z]; rfl))
      obtain ⟨a, r, ea⟩ := List.exists_cons_of_ne_nil ne
      refine ⟨d, 0, a, rfl, rfl, by omega, by rw [show d.cps.toList = a :: r from ea]; exact at0, ?_⟩
      have it : PySem.intText? d = some ((val (TL.tl d) : Nat) : Int) := intText_digits (fun c hc => by have := isD_iff.mp (hd c hc); exact ⟨by omega, by omega⟩) ne (by omega)
      have e48 : Str.ofString "0" = ⟨#[48]⟩ := by decide +kernel
      refine ⟨rfl, ?_⟩
      by_cases ha : a = 48
      · subst ha
        rw [if_pos (by rw [e48])]
        by_cases cd : d = Str.ofString "0"
        · rw [if_neg (by rw [cd]; simp)]
          exact ⟨_, it, by omega, q (by rw [cd]; decide +kernel)⟩
        · rw [if_pos (by simp [cd])]
          refine qe ?_
          unfold goodD
          have : (TL.tl d == [48]) = false := by
            simp only [beq_eq_false_iff_ne, ne_eq]
            intro z
            exact cd (TL.ext_tl (by rw [z]; decide +kernel))
          rw [this, ea]
          simp
      · rw [if_neg (by rw [e48]; intro z; injection z with z; injection z with z; injection z with z; injection z with z; exact ha z)]
        refine ⟨_, it, by omega, q ?_⟩
        unfold goodD
        rw [decide_eq_true (by omega), ea]
        simp [ha]
    · rw [if_pos (by omega)]
      refine qe ?_
      unfold goodD
      rw [decide_eq_false (by omega)]
      simp
theorem ok_string_at (F : Fun K "_string_at" "_string_at" s_string_at f fd) (B : Blt mg) (T : TxtC K mg C td tz tt) : FnOk P w K mg base (L2N.CX P w) 2 f fd ["text", "start", "length"] (spStrAt C) := by
  refine F.okXN sc_string_at (fun vs H Q E h => ?_) (fun cdv A outer s H vs Q E hr h => ?_)
  · obtain ⟨v, _, _, rfl, _⟩ := h; rfl
  obtain ⟨z, st, n, rfl, hz, hs, q, qe⟩ := h
  refine ⟨_, (pss_cons (ps_set (i := 3) sc_string_at.nd rfl (Or.inl rfl) (pe_op op_add (pv 1) (pv 2)))
    (pss_cons (ps_if (pt_cmpR op_gt (pv 3) (B.len_s (pa_cons (pv 0) pa_nil)) (nomark _)) (pss_one (T.bad.raiseN (L2N.takes_of rfl rfl rfl rfl))) pss_nil)
    (pss_one (ps_ret (pe_tup (pa_cons (pe_slice sl_str (pv 0) (po_some (pv 1)) (po_some (pv 3))) (pa_cons (pv 3) pa_nil))))))), ?_⟩
  walk_at "wp"
  have lim : sizeLine = 16777216 := sizeLine_eq
  refine ⟨by omega, ?_⟩
  by_cases c : st + n ≤ z.length
  · rw [if_neg (by omega)]
    refine ⟨by omega, by decide, fun p hp => ?_⟩
    have e : cutS z (some (st : Int)) (some ((st : Int) + (n : Int))) = ⟨(((TL.tl z).drop st).take n).toArray⟩ := by
      refine TL.ext_tl ?_
      have h := cut_nat z (a := st) (b := st + n) (by omega)
      rw [show st + n - st = n by omega] at h
      exact h
    rw [e]
    exact q c p hp
  · rw [if_pos (by omega)]
    exact qe c
theorem ok_value_at {n j : Nat} (hj : 4 ≤ j) (F : Fun K "_value_at" "_value_at" s_value_at f fd) (B : Blt mg) (T : TxtC K mg C td tz tt) (c_end_of_digits : Cal P w K mg base CX0 1 "_end_of_digits" spEod) (c_number_of : Cal P w K mg base (L2N.CX P w) 2 "_number_of" (spNum C))
    (c_string_at : Cal P w K mg base (L2N.CX P w) 2 "_string_at" (spStrAt C)) (c_tuple_at : Cal P w K mg base (L2N.CX P w) j "_tuple_at" (spTupAt C n)) : FnOk P w K mg base (L2N.CX P w) (j + 1) f fd ["text", "start", "levels"] (spVal C n) := by
  refine F.okXN sc_value_at (fun vs H Q E h => ?_) (fun cdv A outer s H vs Q E hr h => ?_)
  · obtain ⟨v, _, rfl, _⟩ := h; rfl
  obtain ⟨z, st, rfl, hz, hs, q, qe⟩ := h
  refine ⟨_, (pss_cons (ps_if (pt_cmpR op_eq (pe_slice sl_str (pv 0) (po_some (pv 1)) (po_some (pe_op op_add (pv 1) pe_int))) pe_str (nomark _)) (pss_one (ps_ret (c_tuple_at.pex hr (passXN (L2N.takes_of rfl rfl rfl rfl) fun _ _ _ _ h => h) (pa_cons (pv 0) (pa_cons (pe_op op_add (pv 1) pe_int) (pa_cons (pv 2) pa_nil)))))) pss_nil)
    (pss_cons (ps_set (i := 3) sc_value_at.nd rfl (Or.inl rfl) (c_end_of_digits.pe hr (pa_cons (pv 0) (pa_cons (pv 1) pa_nil))))
    (pss_cons (ps_set (i := 4) sc_value_at.nd rfl (Or.inl rfl) (c_number_of.pex hr (passXN (L2N.takes_of rfl rfl rfl rfl) fun _ _ _ _ h => h) (pa_cons (pe_slice sl_str (pv 0) (po_some (pv 1)) (po_some (pv 3))) pa_nil)))
    (pss_cons (ps_set (i := 5) sc_value_at.nd rfl (Or.inl rfl) (pe_slice sl_str (pv 0) (po_some (pv 3)) (po_some (pe_op op_add (pv 3) pe_int))))
    (pss_cons (ps_if (pt_cmpR op_eq (pv 5) pe_str (nomark _)) (pss_one (ps_ret (pe_tup (pa_cons (pv 4) (pa_cons (pe_op op_add (pv 3) pe_int) pa_nil))))) pss_nil)
    (pss_cons (ps_if (pt_cmpR op_eq (pv 5) pe_str (nomark _)) (pss_one (ps_ret (c_string_at.pex hr (passXN (L2N.takes_of rfl rfl rfl rfl) fun _ _ _ _ h => h) (pa_cons (pv 0) (pa_cons (pe_op op_add (pv 3) pe_int) (pa_cons (pv 4) pa_nil)))))) pss_nil)
    (pss_one (T.bad.raiseN (L2N.takes_of rfl rfl rfl rfl))))))))), ?_⟩
  walk_at "wp"
  have lim : sizeLine = 16777216 := sizeLine_eq
  have zl : (TL.tl z).length = z.length := (TL.len_tl z).symm
  have e1 : Str.ofString "[" = ⟨#[91]⟩ := by decide +kernel
  have e2 : Str.ofString "." = ⟨#[46]⟩ := by decide +kernel
  have e3 : Str.ofString ":" = ⟨#[58]⟩ := by decide +kernel
  rw [e1, e2, e3]
  refine ⟨by omega, ?_⟩
  have o1 := one_sign_eq (c := 91) (cut_one z st)
  by_cases c1 : cutS z (some (st : Int)) (some ((st : Int) + 1)) = ⟨#[91]⟩
  · rw [if_pos c1]
    have hd := o1.mp c1
    have lt : st < z.length := by
      rcases Nat.lt_or_ge st z.length with h | h
      · exact h
      · rw [List.drop_eq_nil_of_le (by omega)] at hd; cases hd
    obtain ⟨a, e⟩ := TL.getElem_drop_cons (L := TL.tl z) (a := st) (by omega)
    rw [e] at hd
    have ha : a = 91 := Option.some.inj hd
    subst ha
    rw [e] at q qe
    exact ⟨z, st + 1, rfl, hz, lt, q, qe⟩
  · rw [if_neg c1]
    have hd : ((TL.tl z).drop st).head? ≠ some 91 := fun h => c1 (o1.mpr h)
    have pl0 : pval n ((TL.tl z).drop st) = leaf ((TL.tl z).drop st) := pval_leaf fun r e => hd (by rw [e]; rfl)
    rw [pl0] at q qe
    obtain ⟨tk1, tk2⟩ := takeWhile_take ((TL.tl z).drop st)
    refine ⟨z, st, rfl, by omega, hs, _, rfl, by omega, ?_⟩
    have twl : (((TL.tl z).drop st).takeWhile isD).length ≤ z.length - st := by
      have := List.takeWhile_sublist isD (l := (TL.tl z).drop st) |>.length_le
      rw [List.length_drop] at this
      omega
    generalize hk : (((TL.tl z).drop st).takeWhile isD).length = k at tk1 tk2 twl ⊢
    have ed : (TL.tl z).drop (st + k) = ((TL.tl z).drop st).dropWhile isD := by rw [← tk2, List.drop_drop]
    have ec : TL.tl (cutS z (some (st : Int)) (some ((st + k : Nat) : Int))) = ((TL.tl z).drop st).takeWhile isD := by
      rw [cut_nat z (by omega), show st + k - st = k by omega, tk1]
    refine ⟨_, rfl, ?_, ?_, fun g => ?_, fun g => ?_⟩
    · rw [TL.len_tl, ec, hk]; omega
    · rw [ec]; exact takeD _
    · rw [ec] at g ⊢
      refine ⟨_, rfl, _, rfl, by omega, ?_⟩
      have lf : leaf ((TL.tl z).drop st) = match ((TL.tl z).drop st).dropWhile isD with
          | 46 :: r => some (.int (val (((TL.tl z).drop st).takeWhile isD)), r)
          | 58 :: r => if val (((TL.tl z).drop st).takeWhile isD) ≤ r.length then some (.str ⟨(r.take (val (((TL.tl z).drop st).takeWhile isD))).toArray⟩, r.drop (val (((TL.tl z).drop st).takeWhile isD))) else none
          | _ => none := by unfold leaf; rw [if_pos g]; try rfl
      generalize val (((TL.tl z).drop st).takeWhile isD) = vv at lf ⊢
      rw [← ed] at lf
      have o2 := one_sign_eq (c := 46) (cut_one z (st + k))
      have o3 := one_sign_eq (c := 58) (cut_one z (st + k))
      have lt : ∀ {c}, ((TL.tl z).drop (st + k)).head? = some c → st + k < z.length ∧ (TL.tl z).drop (st + k) = c :: (TL.tl z).drop (st + k + 1) := fun {c} h => by
        have l : st + k < z.length := by
          rcases Nat.lt_or_ge (st + k) z.length with h' | h'
          · exact h'
          · rw [List.drop_eq_nil_of_le (by omega)] at h; cases h
        obtain ⟨a, e⟩ := TL.getElem_drop_cons (L := TL.tl z) (a := st + k) (by omega)
        rw [e] at h
        rw [e, Option.some.inj h]
        exact ⟨l, rfl⟩
      by_cases c2 : cutS z (some ((st + k : Nat) : Int)) (some (((st + k : Nat) : Int) + 1)) = ⟨#[46]⟩
      · rw [if_pos c2]
        obtain ⟨l, e⟩ := lt (o2.mp c2)
        rw [e] at lf
        refine ⟨_, rfl, by decide, fun p hp => ?_⟩
        exact q _ _ lf p _ (st + k + 1) _ (Kp.new hp _) upd_same (.int _) (by omega) rfl
      · rw [if_neg c2]
        by_cases c3 : cutS z (some ((st + k : Nat) : Int)) (some (((st + k : Nat) : Int) + 1)) = ⟨#[58]⟩
        · rw [if_pos c3]
          obtain ⟨l, e⟩ := lt (o3.mp c3)
          rw [e] at lf
          have rl : ((TL.tl z).drop (st + k + 1)).length = z.length - (st + k + 1) := by rw [List.length_drop, zl]
          refine ⟨_, rfl, z, st + k + 1, vv, rfl, by omega, by omega, fun h p hp => ?_, fun h => ?_⟩
          · have lf : leaf _ = if vv ≤ ((TL.tl z).drop (st + k + 1)).length then _ else _ := lf
            rw [if_pos (by omega)] at lf
            exact q _ _ lf p _ (st + k + 1 + vv) _ (Kp.new hp _) upd_same (.str _) (by omega) (by rw [List.drop_drop])
          · have lf : leaf _ = if vv ≤ ((TL.tl z).drop (st + k + 1)).length then _ else _ := lf
            rw [if_neg (by omega)] at lf
            exact qe lf H (Kp.refl _ _)
        · rw [if_neg c3]
          refine qe ?_ H (Kp.refl _ _)
          rw [lf]
          split
          · rename_i r e; exact absurd (o2.mpr (by rw [e]; rfl)) c2
          · rename_i r e; exact absurd (o3.mpr (by rw [e]; rfl)) c3
          · rfl
    · rw [ec] at g
      refine qe ?_ H (Kp.refl _ _)
      unfold leaf
      rw [g, if_neg Bool.false_ne_true]
theorem ok_tuple_at0 (F : Fun K "_tuple_at" "_tuple_at" s_tuple_at f fd) (B : Blt mg) (T : TxtC K mg C td tz tt) : FnOk P w K mg base (L2N.CX P w) 4 f fd ["text", "start", "levels"] (spTupAt C 0) := by
  refine F.okXN sc_tuple_at (fun vs H Q E h => ?_) (fun cdv A outer s H vs Q E hr h => ?_)
  · obtain ⟨v, t, rfl, _⟩ := h; rfl
  obtain ⟨z, st, rfl, hz, hs, q, qe⟩ := h
  refine ⟨_, pss_cons (ps_if (pt_cmpR op_eq (pv 2) pe_int (nomark _)) (pss_one (T.bad.raiseN (L2N.takes_of rfl rfl rfl rfl))) pss_nil) pss_never, ?_⟩
  walk_at "wp"
  rw [if_pos (by rfl)]
  exact qe rfl H (Kp.refl _ _)
theorem ok_tuple_at {n j : Nat} (hj : 4 ≤ j) (F : Fun K "_tuple_at" "_tuple_at" s_tuple_at f fd) (B : Blt mg) (T : TxtC K mg C td tz tt) (c_value_at : Cal P w K mg base (L2N.CX P w) j "_value_at" (spVal C n)) : FnOk P w K mg base (L2N.CX P w) (j + 1) f fd ["text", "start", "levels"] (spTupAt C (n + 1)) := by
  refine F.okXN sc_tuple_at (fun vs H Q E h => ?_) (fun cdv A outer s H vs Q E hr h => ?_)
  · obtain ⟨v, t, rfl, _⟩ := h; rfl
  obtain ⟨z, st, rfl, hz, hs, q, qe⟩ := h
  refine ⟨_, (pss_cons (ps_if (pt_cmpR op_eq (pv 2) pe_int (nomark _)) (pss_one (T.bad.raiseN (L2N.takes_of rfl rfl rfl rfl))) pss_nil)
    (pss_cons (ps_set (i := 3) sc_tuple_at.nd rfl (Or.inl rfl) (pe_lst pa_nil))
    (pss_cons (ps_set (i := 4) sc_tuple_at.nd rfl (Or.inl rfl) (pv 1))
    (pss_cons (ps_while (passes_of rfl) (pt_cmpR op_ne (pe_slice sl_str (pv 0) (po_some (pv 4)) (po_some (pe_op op_add (pv 4) pe_int))) pe_str (nomark _)) (pss_cons (ps_asg (c_value_at.pex hr (passXN (L2N.takes_of rfl rfl rfl rfl) fun _ _ _ _ h => h) (pa_cons (pv 0) (pa_cons (pv 4) (pa_cons (pe_op op_sub (pv 2) pe_int) pa_nil)))) (pg_tup rfl (pgs_cons (pg_name (i := 5) sc_tuple_at.nd rfl (Or.inl rfl)) (pgs_cons (pg_name (i := 4) sc_tuple_at.nd rfl (Or.inl rfl)) pgs_nil))))
    (pss_one (ps_expr (pe_bm PySem.F.plainAttrs_list PySem.F.slot_list_append PySem.F.type_list_append mt_append (pv 3) (pa_cons (pv 5) pa_nil))))))
    (pss_one (ps_ret (pe_tup (pa_cons (B.tuple_l (pa_cons (pv 3) pa_nil)) (pa_cons (pe_op op_add (pv 4) pe_int) pa_nil))))))))), ?_⟩
  walk_at "wp"
  have lim : sizeLine = 16777216 := sizeLine_eq
  have zl : (TL.tl z).length = z.length := (TL.len_tl z).symm
  have e1 : Str.ofString "]" = ⟨#[93]⟩ := by decide +kernel
  rw [if_neg (by omega)]
  rw [pval_br] at q qe
  refine ⟨Nat.zero_le _, fun p hp => ⟨fun m σ H' => ∃ (b : Nat) (us : List V) (ts : List Tr) (o : Option V), σ = [some (.str z), some (.int st), some (.int ((n + 1 : Nat) : Int)), some (.ref p), some (.int b), o] ∧ b ≤ z.length ∧ m = z.length - b ∧ H' p = some (.lst us) ∧ RepAll H' us ts ∧ Kp [] H H' ∧ us.length ≤ b ∧
    itm n ((TL.tl z).drop st) = (itm n ((TL.tl z).drop b)).map (fun x => (ts ++ x.1, x.2)), ⟨_, st, [], [], none, rfl, hs, rfl, upd_same, .nil, Kp.new hp _, Nat.zero_le _, ?_⟩, ?_⟩⟩
  · cases itm n ((TL.tl z).drop st) with
    | none => rfl
    | some x => rfl
  rintro m σ H' ⟨b, us, ts, o, rfl, hb, rfl, hu, hR, k, hl, ev⟩
  rw [e1]
  have o1 := one_sign_eq (c := 93) (cut_one z b)
  walk_at "wt"
  refine ⟨by omega, ?_⟩
  by_cases c1 : cutS z (some (b : Int)) (some ((b : Int) + 1)) = ⟨#[93]⟩
  · rw [if_neg (by simp [c1])]
    have hd := o1.mp c1
    have lt : b < z.length := by
      rcases Nat.lt_or_ge b z.length with h | h
      · exact h
      · rw [List.drop_eq_nil_of_le (by omega)] at hd; cases hd
    obtain ⟨a, e⟩ := TL.getElem_drop_cons (L := TL.tl z) (a := b) (by omega)
    rw [e] at hd
    have ha : a = 93 := Option.some.inj hd
    subst ha
    rw [e, itm_close] at ev
    rw [ev] at q
    walk_at "wp"
    refine ⟨us, .inl ⟨SqL.of hu, fun l hl => ⟨by decide, fun p2 hp2 => ?_⟩⟩⟩
    have k2 : Kp [] H' (upd (upd H' l (.tup us)) p2 (.tup [.ref l, .int ((b : Int) + 1)])) := (Kp.new hl _).trans (Kp.new hp2 _)
    refine q _ _ rfl p2 (.ref l) (b + 1) _ (k.trans k2) upd_same ?_ lt rfl
    show Rep _ _ (.tup (ts ++ []))
    rw [List.append_nil]
    exact .tup (by rw [upd_ne (ne_of_none upd_same hp2)]; exact upd_same) (hR.kp0 k2)
  · rw [if_pos (by simp [c1])]
    have hd : ((TL.tl z).drop b).head? ≠ some 93 := fun h => c1 (o1.mpr h)
    have st1 := itm_step (n := n) hd
    refine ⟨_, fun σ' H'' h => h, ?_⟩
    walk_at "wp"
    refine ⟨z, b, by rw [show ((n + 1 : Nat) : Int) - 1 = n by omega], hz, hb, fun t r hv p2 v e H2 k2 hq hRv he hde => ?_, fun hn H2 k2 => ?_⟩
    · refine ⟨p2, [v, .int e], rfl, SqT.of hq, rfl, v, [.int e], rfl, .int e, [], rfl, rfl, ?_⟩
      have hu2 := k2.keep p _ (by simp) hu
      have dec := pval_dec hv
      rw [← hde, List.length_drop, List.length_drop] at dec
      refine ⟨_, rfl, .inl ⟨rfl, _, SqL.of hu2⟩, _, rfl, p, us, v, rfl, rfl, hu2, by omega, ?_⟩
      refine ⟨z.length - e, by omega, e, us ++ [v], ts ++ [t], some v, rfl, he, rfl, upd_same, ((hR.kp0 k2).updL hu2).app (.cons (hRv.updL hu2) .nil), (k.trans k2).upd hp hu2, by rw [List.length_append]; show us.length + 1 ≤ e; omega, ?_⟩
      rw [ev, st1, hv, hde]
      show Option.map _ ((itm n r).map _) = Option.map _ (itm n r)
      cases itm n r with
      | none => rfl
      | some x => show some (ts ++ (t :: x.1), x.2) = some ((ts ++ [t]) ++ x.1, x.2); rw [List.append_assoc]; rfl
    · refine qe ?_ H2 (k.trans k2)
      rw [ev, st1, hn]
      rfl
theorem ok_decode (F : Fun K "decode" "decode" s_decode f fd) (B : Blt mg) (T : TxtC K mg C td tz tt) (c_is_printable : Cal P w K mg base CX0 3 "is_printable" (spPrn Pt)) (c_value_at : Cal P w K mg base (L2N.CX P w) 22 "_value_at" (spVal C 8)) : FnOk P w K mg base (L2N.CX P w) 23 f fd ["text"] (spDec C Pt) := by
  refine F.okXN sc_decode (fun vs H Q E h => ?_) (fun cdv A outer s H vs Q E hr h => ?_)
  · obtain ⟨v, rfl, _⟩ := h; rfl
  obtain ⟨v, rfl, ⟨t, ht⟩, hz, hG, q, qe⟩ := h
  refine ⟨_, (pss_cons (ps_if (PW.pt (pw_or (pt_not (pt_val (B.isT (pv 0) B.v_str))) (pw_or1 (pt_cmpR op_gt (B.len_s (pa_cons (pv 0) pa_nil)) (pe_cI T.mt) (nomark _))))) (pss_one (T.bad.raiseN (L2N.takes_of rfl rfl rfl rfl))) pss_nil)
    (pss_cons (ps_if (pt_not (pt_val (c_is_printable.pe hr (pa_cons (pv 0) pa_nil)))) (pss_one (T.bad.raiseN (L2N.takes_of rfl rfl rfl rfl))) pss_nil)
    (pss_cons (ps_asg (c_value_at.pex hr (passXN (L2N.takes_of rfl rfl rfl rfl) fun _ _ _ _ h => h) (pa_cons (pv 0) (pa_cons pe_int (pa_cons (pe_cI T.dp) pa_nil)))) (pg_tup rfl (pgs_cons (pg_name (i := 1) sc_decode.nd rfl (Or.inl rfl)) (pgs_cons (pg_name (i := 2) sc_decode.nd rfl (Or.inl rfl)) pgs_nil))))
    (pss_cons (ps_if (pt_cmpR op_ne (pv 2) (B.len_s (pa_cons (pv 0) pa_nil)) (nomark _)) (pss_one (T.bad.raiseN (L2N.takes_of rfl rfl rfl rfl))) pss_nil)
    (pss_one (ps_ret (pv 1))))))), ?_⟩
  walk_at "wp"
  have lim : sizeLine = 16777216 := sizeLine_eq
  refine ⟨t, ht, ?_⟩
  cases c1 : isaB t "str" with
  | false =>
    rw [if_pos rfl]
    refine qe (fun z u e => ?_) H (Kp.refl _ _) hG
    subst e
    cases ht
    exact absurd c1 (by decide)
  | true =>
    rw [if_neg (by decide)]
    obtain ⟨z, rfl⟩ := isa_str ht c1
    have hz := hz z rfl
    refine ⟨z, rfl, by omega, ?_⟩
    by_cases c2 : z.length ≤ 100000
    · rw [if_neg (by omega)]
      refine ⟨_, rfl, hG, ⟨_, rfl⟩, fun H1 k1 g1 => ⟨_, rfl, ?_⟩⟩
      cases hp : prn z with
      | false =>
        rw [if_pos (show prV (.str z) = false from hp)]
        exact qe (fun z' u e _ hp' => by cases e; rw [hp] at hp'; cases hp') H1 k1 g1
      | true =>
        rw [if_neg (by rw [show prV (.str z) = true from hp]; decide)]
        refine ⟨z, 0, rfl, c2, Nat.zero_le _, fun u r hv p v e H2 k2 hq hR he hd => ?_, fun hv H2 k2 => ?_⟩
        · have zl : (TL.tl z).length = z.length := (TL.len_tl z).symm
          have kk : Kp [Pt] H H2 := k1.trans (k2.mono fun b hb => absurd hb (by simp))
          have gg := tabG_kp g1 k2 (by simp)
          refine ⟨p, [v, .int e], rfl, SqT.of hq, rfl, v, [.int e], rfl, .int e, [], rfl, rfl, ?_⟩
          walk_at "wp"
          refine ⟨by omega, ?_⟩
          rw [List.drop_zero] at hv
          by_cases c3 : e = z.length
          · rw [if_neg (by omega)]
            refine q z u rfl c2 hp ?_ v H2 kk gg hR
            rw [hv, ← hd, List.drop_eq_nil_of_le (by omega)]
          · rw [if_pos (by omega)]
            refine qe (fun z' u' ez _ _ hv' => ?_) H2 kk gg
            cases ez
            rw [hv] at hv'
            injection hv' with hv'
            injection hv' with _ hr
            have := congrArg List.length hr
            rw [← hd, List.length_drop, List.length_nil] at this
            omega
        · refine qe (fun z' u e _ _ hv' => ?_) H2 (k1.trans (k2.mono fun b hb => absurd hb (by simp))) (tabG_kp g1 k2 (by simp))
          cases e
          rw [List.drop_zero] at hv
          rw [hv] at hv'
          cases hv'
    · rw [if_pos (by omega)]
      exact qe (fun z' u e h => by cases e; exact absurd h c2) H (Kp.refl _ _) hG
end

/-! the office -/
abbrev s_Seals___init : Stmt := inClass (top 79) 0
abbrev N_Seals___init : List Str := ["self"]
theorem sc_Seals___init : FnScope N_Seals___init ["self"] (defScope s_Seals___init) := ⟨rfl, rfl, rfl, by decide +kernel, rfl, by decide +kernel, by decide +kernel⟩
abbrev s_Seals_make : Stmt := inClass (top 79) 1
abbrev N_Seals_make : List Str := ["self", "key", "text", "mark"]
theorem sc_Seals_make : FnScope N_Seals_make ["self", "key", "text"] (defScope s_Seals_make) := ⟨rfl, rfl, rfl, by decide +kernel, rfl, by decide +kernel, by decide +kernel⟩
abbrev s_Seals_holds : Stmt := inClass (top 79) 2
abbrev N_Seals_holds : List Str := ["self", "key", "text", "mark"]
theorem sc_Seals_holds : FnScope N_Seals_holds ["self", "key", "text", "mark"] (defScope s_Seals_holds) := ⟨rfl, rfl, rfl, by decide +kernel, rfl, by decide +kernel, by decide +kernel⟩
/-- the mark of a key and a text -/
def mkS (k t : Str) : Str := dgs (k ++ Str.ofString " " ++ t)
def mkO (made : List (Str × Str)) : List (List Key × V) := made.map fun p => ([Sum.inr p.1, Sum.inr p.2], V.str (mkS p.1 p.2))
/-- made with one pair more, if it is a new one -/
def addP (made : List (Str × Str)) (p : Str × Str) : List (Str × Str) := if p ∈ made then made else made ++ [p]
/-- an office at o, its dict at dm, made the pairs that signed -/
structure Ofc (C o dm : Addr) (made : List (Str × Str)) (H : Hp) : Prop where
  ob : ∃ dx, H o = some (.ins C dx [("_marks", .ref dm)])
  dc : H dm = some (.dT (mkO made))
theorem mkO_val (k t : Str) : ∀ made : List (Str × Str), valV (mkO made) ([Sum.inr k, Sum.inr t] : List Key) = if (k, t) ∈ made then some (.str (mkS k t)) else none
  | [] => rfl
  | p :: r => by
    have ih := mkO_val k t r
    show valV (([Sum.inr p.1, Sum.inr p.2], V.str (mkS p.1 p.2)) :: mkO r) _ = _
    by_cases e : (k, t) = p
    · subst e
      rw [if_pos List.mem_cons_self]
      exact valV_pos rfl
    · rw [valV_neg (fun z => e (by
        have z : ([Sum.inr p.1, Sum.inr p.2] : List Key) = [Sum.inr k, Sum.inr t] := z
        simp only [List.cons.injEq, Sum.inr.injEq, and_true] at z
        exact Prod.ext z.1.symm z.2.symm)), ih]
      by_cases m : (k, t) ∈ r
      · rw [if_pos m, if_pos (List.mem_cons_of_mem _ m)]
      · rw [if_neg m, if_neg (fun z => by
          rcases List.mem_cons.mp z with z | z
          · exact e z
          · exact m z)]
theorem mkO_put (k t : Str) (made : List (Str × Str)) : putK (mkO made) ([Sum.inr k, Sum.inr t] : List Key) (.str (mkS k t)) = mkO (addP made (k, t)) := by
  have v := mkO_val k t made
  unfold addP
  by_cases m : (k, t) ∈ made
  · rw [if_pos m] at v ⊢
    unfold putK
    rw [valV_any, v]
    rw [if_pos (show (some (V.str (mkS k t))).isSome = true from rfl)]
    unfold mkO
    rw [List.map_map]
    refine List.map_congr_left fun p hp => ?_
    show (if ([Sum.inr p.1, Sum.inr p.2] : List Key) = [Sum.inr k, Sum.inr t] then (([Sum.inr p.1, Sum.inr p.2] : List Key), V.str (mkS k t)) else ([Sum.inr p.1, Sum.inr p.2], V.str (mkS p.1 p.2))) = _
    split
    · rename_i z
      simp only [List.cons.injEq, Sum.inr.injEq, and_true] at z
      rw [z.1, z.2]
    · rfl
  · rw [if_neg m] at v ⊢
    rw [putK_new _ v]
    unfold mkO
    rw [List.map_append]
    rfl
theorem addP_len (made : List (Str × Str)) (p : Str × Str) : (addP made p).length ≤ made.length + 1 := by
  unfold addP
  split
  · omega
  · rw [List.length_append]; exact Nat.le_refl _
theorem mkO_len (made : List (Str × Str)) : (mkO made).length = made.length := List.length_map ..
/-- what can be asked of the office -/
def hoV (made : List (Str × Str)) : V → V → V → Bool
  | .str k, .str t, .str m => decide ((k, t) ∈ made) && decide (m = mkS k t)
  | _, _, _ => false
def spInit (C : Addr) : Sp := fun vs H Q _ => ∃ (o dx : Addr), vs = [.ref o] ∧ H o = some (.ins C dx []) ∧ ∀ (dm : Addr) (H' : Hp), H dm = none → dm ≠ o → Ofc C o dm [] H' → Kp [o] H H' → Q .non H'
def spMake (C CK CT : Addr) (Ts : List Addr) : Sp := fun vs H Q E => ∃ (o dm : Addr) (made : List (Str × Str)) (kv tv : V), vs = [.ref o, kv, tv] ∧ Ofc C o dm made H ∧ made.length ≤ 1000 ∧ Tabs Ts H ∧ (∃ t, tyN H kv = some t) ∧ (∃ t, tyN H tv = some t) ∧ szV kv ∧ (∀ z, tv = .str z → z.length ≤ 10000000) ∧
  (kyV kv = false → ∀ H', Kp Ts H H' → Tabs Ts H' → E (.ref CK) none H') ∧ (kyV kv = true → prV tv = false → ∀ H', Kp Ts H H' → Tabs Ts H' → E (.ref CT) none H') ∧
  ∀ k t : Str, kv = .str k → tv = .str t → kyS k = true → prn t = true → ∀ H', Kp (dm :: Ts) H H' → Tabs Ts H' → Ofc C o dm (addP made (k, t)) H' → Q (.str (mkS k t)) H'
def spHolds (C : Addr) : Sp := fun vs H Q _ => ∃ (o dm : Addr) (made : List (Str × Str)) (a b c : V), vs = [.ref o, a, b, c] ∧ Ofc C o dm made H ∧ (∃ t, tyN H a = some t) ∧ (∃ t, tyN H b = some t) ∧ (∃ t, tyN H c = some t) ∧ ∀ H', Kp [] H H' → Q (.bl (hoV made a b c)) H'
def spCount (C : Addr) : Sp := fun vs H Q _ => ∃ (o dm : Addr) (made : List (Str × Str)), vs = [.ref o] ∧ Ofc C o dm made H ∧ Q (.int made.length) H
structure SlC (K : PySem.W.Frag) (mg : Str → Option Value) (C CK CT : Addr) : Prop where
  cl : Cls K C
  nM : NoAttr K C "_marks"
  BadKey : Err K mg "BadKey" CK
  bad : Err K mg "BadText" CT
section
variable {P : Program} {w : World} {K : PySem.W.Frag} {mg : Str → Option Value} {base : Heap} {f : Addr} {fd : FuncData} {C CK CT : Addr}
theorem Ofc.kp {S : List Addr} {o dm : Addr} {made : List (Str × Str)} {H H' : Hp} (h : Ofc C o dm made H) (k : Kp S H H') (n1 : o ∉ S) (n2 : dm ∉ S) : Ofc C o dm made H' :=
  let ⟨dx, e⟩ := h.ob
  ⟨⟨dx, k.keep _ _ n1 e⟩, k.keep _ _ n2 h.dc⟩
theorem Ofc.tabs {Ts : List Addr} {o dm : Addr} {made : List (Str × Str)} {H H' : Hp} (h : Ofc C o dm made H) (k : Kp Ts H H') (g : Tabs Ts H) : Ofc C o dm made H' :=
  let ⟨dx, e⟩ := h.ob
  h.kp k (g.ne e) (g.ne h.dc)
theorem mk_kp {x dx : Addr} {H H1 : Hp} {o : HO} (n1 : H x = none) (n2 : H dx = none) (n3 : dx ≠ x) (k : Kp [x] (upd (upd H dx (.own x)) x o) H1) : Kp [] H H1 :=
  Kp.drop n1 (((Kp.new n2 (.own x) : Kp [x] _ _).trans (Kp.new (by rw [upd_ne n3.symm]; exact n1) o)).trans k)
theorem mk_none {x dx d : Addr} {H : Hp} {o : HO} (h : upd (upd H dx (.own x)) x o d = none) : H d = none := by
  have n1 : d ≠ x := fun e => by rw [e, upd_same] at h; cases h
  rw [upd_ne n1] at h
  have n2 : d ≠ dx := fun e => by rw [e, upd_same] at h; cases h
  rw [upd_ne n2] at h
  exact h
theorem ok_sinit (F : Fun K "__init__" "Seals.__init__" s_Seals___init f fd) (T : SlC K mg C CK CT) : FnOk P w K mg base CX0 1 f fd ["self"] (spInit C) := by
  refine F.ok sc_Seals___init (fun vs H Q E h => ?_) (fun cdv A outer s H vs Q E hr h => ?_)
  · obtain ⟨o, dx, rfl, _⟩ := h; rfl
  obtain ⟨o, dx, rfl, ho, q⟩ := h
  refine ⟨_, (pss_one (ps_fld (pv 0) pe_dnewT rfl)), ?_⟩
  intro d hd
  have nod : o ≠ d := ne_of_none ho hd
  refine ⟨_, rfl, o, C, dx, [], rfl, (by rw [upd_ne nod]; exact ho), T.cl, T.nM, (by show 0 < 1000; decide), ?_⟩
  refine q d _ hd nod.symm ⟨⟨dx, upd_same⟩, by rw [upd_ne nod.symm, upd_same]; rfl⟩ ⟨fun b u hb e => ?_, fun b xs e => ?_⟩
  · rw [upd_ne (fun z => hb (by rw [z]; exact List.mem_singleton.mpr rfl)), upd_ne (ne_of_none e hd)]; exact e
  · rw [upd_ne (ne_of e ho (by intro z; cases z)), upd_ne (ne_of_none e hd)]; exact e
theorem ok_smake {Pt Pc : Addr} {Ts : List Addr} (F : Fun K "make" "Seals.make" s_Seals_make f fd) (B : Blt mg) (T : SlC K mg C CK CT) (mt : Pt ∈ Ts) (mc : Pc ∈ Ts) (c_is_key : Cal P w K mg base CX0 4 "is_key" (spNm kyV Pc)) (c_is_printable : Cal P w K mg base CX0 3 "is_printable" (spPrn Pt)) (c_digest : Cal P w K mg base CX0 1 "digest" spDigest) :
    FnOk P w K mg base (L2.CX P w) 5 f fd ["self", "key", "text"] (spMake C CK CT Ts) := by
  refine F.okX sc_Seals_make (fun vs H Q E h => ?_) (fun cdv A outer s H vs Q E hr h => ?_)
  · obtain ⟨o, dm, made, kv, tv, rfl, _⟩ := h; rfl
  obtain ⟨o, dm, made, kv, tv, rfl, hO, hm, hG, ⟨t1, h1⟩, ⟨t2, h2⟩, z1, z2, e1, e2, q⟩ := h
  refine ⟨_, (pss_cons (ps_if (pt_not (pt_val (c_is_key.pe hr (pa_cons (pv 1) pa_nil)))) (pss_one (T.BadKey.raise (takes_of rfl rfl rfl rfl))) pss_nil)
    (pss_cons (ps_if (pt_not (pt_val (c_is_printable.pe hr (pa_cons (pv 2) pa_nil)))) (pss_one (T.bad.raise (takes_of rfl rfl rfl rfl))) pss_nil)
    (pss_cons (ps_set (i := 3) sc_Seals_make.nd rfl (Or.inl rfl) (c_digest.pe hr (pa_cons (pe_op op_add_str (pe_op op_add_str (pv 1) pe_str) (pv 2)) pa_nil)))
    (pss_cons (ps_dput (hu_of hr) (pe_fld (pv 0) rfl) (pe_tup (pa_cons (pv 1) (pa_cons (pv 2) pa_nil))) (pv 3) rfl)
    (pss_one (ps_ret (pv 3))))))), ?_⟩
  walk_at "wp"
  have off : ∀ {v : V} {t : String}, tyN H v = some t → kyV v = true → ∃ k, v = .str k ∧ kyS k = true := fun {v t} h e => by
    cases v <;> first | exact ⟨_, rfl, e⟩ | cases e
  have offT : ∀ {v : V}, prV v = true → ∃ k, v = .str k ∧ prn k = true := fun {v} e => by
    cases v <;> first | exact ⟨_, rfl, e⟩ | cases e
  refine ⟨kv, rfl, hG _ mc, ⟨t1, h1⟩, z1, fun H1 k1 g1 => ⟨_, rfl, ?_⟩⟩
  have G1 := hG.kp1 k1 g1
  have K1 : Kp Ts H H1 := k1.in1 mc
  cases ek : kyV kv with
  | false => rw [if_pos rfl]; exact e1 ek _ K1 G1
  | true =>
    rw [if_neg (by decide)]
    refine ⟨tv, rfl, G1 _ mt, ⟨t2, K1.tys hG h2⟩, fun H2 k2 g2 => ⟨_, rfl, ?_⟩⟩
    have G2 := G1.kp1 k2 g2
    have K2 : Kp Ts H H2 := K1.trans (k2.in1 mt)
    cases et : prV tv with
    | false => rw [if_pos rfl]; exact e2 ek et _ K2 G2
    | true =>
      rw [if_neg (by decide)]
      obtain ⟨k, rfl, hk⟩ := off h1 ek
      obtain ⟨t, rfl, hp⟩ := offT et
      have lk : k.length ≤ 12 := by
        have h := hk
        unfold kyS at h
        simp only [Bool.and_eq_true, decide_eq_true_eq] at h
        omega
      have lim : sizeLine = 16777216 := sizeLine_eq
      have lt : t.length ≤ 10000000 := z2 t rfl
      have l1 : (Str.ofString " ").length = 1 := by decide +kernel
      have la : ∀ x y : Str, (x ++ y).length = x.length + y.length := fun x y => by rw [TL.len_tl, TL.tl_append, List.length_append, ← TL.len_tl, ← TL.len_tl]
      have O2 := hO.tabs K2 hG
      obtain ⟨dx, ho⟩ := O2.ob
      refine ⟨k, rfl, by omega, t, rfl, by rw [la]; omega, _, rfl, by rw [la, la]; omega, C, dx, _, ho, T.cl, T.nM, _, rfl, by rw [lim]; decide, fun p hp2 => ⟨dm, rfl, upd (upd H2 p (.tup [.str k, .str t])) dm (.dT (mkO (addP made (k, t)))), ?_, ?_⟩⟩
      · have e1 : upd H2 p (.tup [.str k, .str t]) dm = some (.dT (mkO made)) := by rw [upd_ne (ne_of_none O2.dc hp2)]; exact O2.dc
        have z := DPut.t (v := .str (mkS k t)) (k := [Sum.inr k, Sum.inr t]) e1 upd_same (by rw [mkO_len]; omega)
        rw [mkO_put] at z
        exact z
      · have kp : Kp (dm :: Ts) H2 (upd (upd H2 p (.tup [.str k, .str t])) dm (.dT (mkO (addP made (k, t))))) := by
          refine ⟨fun b u n q => ?_, fun b xs q => ?_⟩
          · rw [upd_ne (fun z => n (by rw [z]; exact List.mem_cons_self)), upd_ne (ne_of_none q hp2)]; exact q
          · rw [upd_ne (ne_of q O2.dc (by intro z; cases z)), upd_ne (ne_of_none q hp2)]; exact q
        have nd : dm ∉ Ts := G2.ne O2.dc
        have nod : o ≠ dm := ne_of ho O2.dc (by intro z; cases z)
        refine q k t rfl rfl hk hp _ ((K2.mono fun b hb => List.mem_cons_of_mem _ hb).trans kp) (fun P m => ?_) ⟨⟨dx, ?_⟩, upd_same⟩
        · obtain ⟨a, e, z⟩ := G2 P m
          exact ⟨a, by rw [upd_ne (fun z => nd (by rw [← z]; exact m)), upd_ne (ne_of_none e hp2)]; exact e, z⟩
        · rw [upd_ne nod, upd_ne (ne_of_none ho hp2)]; exact ho
theorem ok_sholds (F : Fun K "holds" "Seals.holds" s_Seals_holds f fd) (B : Blt mg) (T : SlC K mg C CK CT) : FnOk P w K mg base CX0 1 f fd ["self", "key", "text", "mark"] (spHolds C) := by
  refine F.ok sc_Seals_holds (fun vs H Q E h => ?_) (fun cdv A outer s H vs Q E hr h => ?_)
  · obtain ⟨o, dm, made, a, b, c, rfl, _⟩ := h; rfl
  obtain ⟨o, dm, made, a, b, c, rfl, hO, ⟨t1, h1⟩, ⟨t2, h2⟩, ⟨t3, h3⟩, q⟩ := h
  refine ⟨_, (pss_cons (ps_if (PW.pt (pw_or (pt_not (pt_val (B.isT (pv 1) B.v_str))) (pw_or (pt_not (pt_val (B.isT (pv 2) B.v_str))) (pw_or1 (pt_not (pt_val (B.isT (pv 3) B.v_str))))))) (pss_one (ps_ret pe_bl)) pss_nil)
    (pss_one (ps_ret (pe_cmpR op_eq (pe_dget1 (hu_of hr) (pe_fld (pv 0) rfl) (pe_tup (pa_cons (pv 1) (pa_cons (pv 2) pa_nil))) ⟨rfl, rfl, rfl, rfl⟩) (pv 3) (nomark _))))), ?_⟩
  walk_at "wp"
  have off : hoV made a b c = false → Q (.bl false) H := fun h => by
    have y := q H (Kp.refl _ _)
    rw [h] at y; exact y
  have no1 : isaB t1 "str" = false → hoV made a b c = false := fun c1 => by
    cases a <;> first | rfl | (cases h1; exact absurd c1 (by decide))
  refine ⟨t1, h1, ?_⟩
  cases c1 : isaB t1 "str" with
  | false => rw [if_pos rfl]; exact off (no1 c1)
  | true =>
    rw [if_neg (by decide)]
    obtain ⟨k, rfl⟩ := isa_str h1 c1
    refine ⟨t2, h2, ?_⟩
    cases c2 : isaB t2 "str" with
    | false =>
      rw [if_pos rfl]
      exact off (by cases b <;> first | rfl | (cases h2; exact absurd c2 (by decide)))
    | true =>
      rw [if_neg (by decide)]
      obtain ⟨t, rfl⟩ := isa_str h2 c2
      refine ⟨t3, h3, ?_⟩
      cases c3 : isaB t3 "str" with
      | false =>
        rw [if_pos rfl]
        exact off (by cases c <;> first | rfl | (cases h3; exact absurd c3 (by decide)))
      | true =>
        rw [if_neg (by decide)]
        obtain ⟨m, rfl⟩ := isa_str h3 c3
        obtain ⟨dx, ho⟩ := hO.ob
        have lim : sizeLine = 16777216 := sizeLine_eq
        refine ⟨C, dx, _, ho, T.cl, T.nM, _, rfl, dm, rfl, .inr ⟨_, .inl hO.dc⟩, by rw [lim]; decide, fun p hp => ⟨_, DGet.t (k := [Sum.inr k, Sum.inr t]) (by rw [upd_ne (ne_of_none hO.dc hp)]; exact hO.dc) upd_same, ?_⟩⟩
        rw [mkO_val]
        have y := q _ (Kp.new hp (.tup [.str k, .str t]))
        have e : hoV made (.str k) (.str t) (.str m) = (decide ((k, t) ∈ made) && decide (m = mkS k t)) := rfl
        rw [e] at y
        by_cases h : (k, t) ∈ made
        · rw [if_pos h]
          rw [decide_eq_true h, Bool.true_and] at y
          refine ⟨rfl, ?_⟩
          show Q (V.bl (decide (V.str (mkS k t) = V.str m))) _
          rw [show decide (V.str (mkS k t) = V.str m) = decide (m = mkS k t) from decide_eq_decide.mpr ⟨fun z => (V.str.inj z).symm, fun z => by rw [z]⟩]
          exact y
        · rw [if_neg h]
          rw [decide_eq_false h, Bool.false_and] at y
          exact ⟨rfl, y⟩
end

/-! ''.join([S[_law_take(stream, m)] for k in range(n)]) -/
section
variable {K : PySem.W.Frag}
theorem cps_lenP (z : Str) : z.cps.toList.length = z.length := by
  show _ = z.cps.size
  exact Array.length_toList
/-- the new list of one-sign texts -/
structure Picked (S : Str) (n : Nat) (st : Addr) (H : Hp) (D : Addr) (cs : List Nat) (H' : Hp) : Prop where
  at_ : H' D = some (.lst ((sgs cs).map V.str))
  len : cs.length = n
  mem : ∀ c ∈ cs, c ∈ S.cps.toList
  kp : Kp [st] H H'
  st : Strm H' st
theorem Picked.sum {S : Str} {n : Nat} {st : Addr} {H : Hp} {D : Addr} {cs : List Nat} {H' : Hp} (p : Picked S n st H D cs H') (hn : n ≤ 16000000) : (List.map (fun x => x.length) (sgs cs)).sum + (sgs cs).length * (Str.ofString "").length ≤ 16777216 := by
  rw [sgs_sum, sgs_len, p.len]
  show n + n * 0 ≤ _
  omega
theorem join_len (cs : List Nat) : (Txt.join (Str.ofString "") (sgs cs)).length = cs.length := by rw [TL.len_tl, tl_sgs]
theorem join_cps (cs : List Nat) : (Txt.join (Str.ofString "") (sgs cs)).cps.toList = cs := tl_sgs cs
theorem pick_lst {σ : St} {H : Hp} {R : VK} {ta : TA} {tm : TE} {ks is js : Nat} {S : Str} {m n : Int} {st : Addr}
    (ha : ∀ R, R [V.int n] H → ta σ H R) (n0 : 0 ≤ n) (n1 : n ≤ 1000) (hst : Strm H st)
    (hS : ∀ x, ((wipe σ [ks]).set ks (some x))[is]? = some (some (.str S))) (hj : ∀ x, ((wipe σ [ks]).set ks (some x))[js]? = some (some (.ref st)))
    (hw : ∀ x : V, wipe ((wipe σ [ks]).set ks (some x)) [ks] = wipe σ [ks])
    (hm : ∀ x H2 R, R (V.int m) H2 → tm ((wipe σ [ks]).set ks (some x)) H2 R) (m0 : 0 < m) (m1 : m ≤ S.length) (hSl : S.length ≤ 1000)
    (q : ∀ (D : Addr) (cs : List Nat) (H' : Hp), Picked S n.toNat st H D cs H' → R (.ref D) H') :
    tLc (iRng1 ta) (gName ks) tYes (tOp rIxS (tVar is) (tCall spTake [] E0 (tCons (tVar js) (tCons tm tNil)))) [ks] σ H R := by
  refine ha _ ⟨n, rfl, by omega, by omega, fun D hD => ?_⟩
  have lim : sizeLine = 16777216 := sizeLine_eq
  have nD : D ≠ st := by obtain ⟨a, b, e⟩ := hst; exact (ne_of_none e hD).symm
  refine lc_range (lo := 0) (n := n.toNat) (fun i H' => ∃ cs : List Nat, H' D = some (.lst ((sgs cs).map V.str)) ∧ cs.length = i ∧ (∀ c ∈ cs, c ∈ S.cps.toList) ∧ Kp [st] H H' ∧ Strm H' st)
    ⟨[], upd_same, rfl, fun c h => absurd h (by simp), Kp.new hD _, hst.kp (Kp.new hD _ : Kp [] _ _) (by simp)⟩ (fun i H2 hi ⟨cs, hcD, hcl, hca, k2, s2⟩ => ?_) (fun H2 ⟨cs, hcD, hcl, hca, k2, s2⟩ => ?_)
  · refine ⟨hw _, ?_⟩
    simp only [tYes, if_true]
    refine ⟨_, hS _, _, hj _, hm _ _ _ ⟨st, m, rfl, s2, ⟨m0, by omega⟩, fun v H3 v0 v1 k3 s3 => ?_⟩⟩
    obtain ⟨c, hc⟩ : ∃ c, S.cps.toList[v.toNat]? = some c := ⟨_, List.getElem?_eq_getElem (by rw [cps_lenP]; omega)⟩
    have hcD3 := k3.keep D _ (by simpa using nD) hcD
    refine ⟨S, v, c, rfl, rfl, by omega, ?_, _, hcD3, by rw [List.length_map, sgs_len]; omega, cs ++ [c], by rw [upd_same, sgs_add], by rw [List.length_append, hcl]; rfl, fun d h => ?_, (k2.trans k3).upd hD hcD3, ?_⟩
    · have ev : v = ((v.toNat : Nat) : Int) := by omega
      rw [ev]
      exact atI_nat hc
    · rcases List.mem_append.mp h with h | h
      · exact hca d h
      · rw [List.mem_singleton.mp h]; exact List.mem_of_getElem? hc
    · obtain ⟨a, b, e⟩ := s3
      exact ⟨a, b, by rw [upd_ne (Ne.symm nD)]; exact e⟩
  · exact q D cs H2 ⟨hcD, hcl, hca, k2, s2⟩
end

/-! ''.join([S[_law_take(stream, m)] for k in range(n)]), S any reading -/
section
variable {K : PySem.W.Frag}
theorem pick_lstG {σ : St} {H0 : Hp} {R : VK} {ta : TA} {tm ts : TE} {ks js : Nat} {S : Str} {m : Int} {st : Addr} (Pn : Int → Hp → Prop)
    (ha : ∀ R, (∀ n H, Pn n H → R [V.int n] H) → ta σ H0 R) (hP : ∀ n H, Pn n H → 0 ≤ n ∧ n ≤ 1000 ∧ Strm H st)
    (hS : ∀ x H2 R, R (V.str S) H2 → ts ((wipe σ [ks]).set ks (some x)) H2 R) (hj : ∀ x, ((wipe σ [ks]).set ks (some x))[js]? = some (some (.ref st)))
    (hw : ∀ x : V, wipe ((wipe σ [ks]).set ks (some x)) [ks] = wipe σ [ks])
    (hm : ∀ x H2 R, R (V.int m) H2 → tm ((wipe σ [ks]).set ks (some x)) H2 R) (m0 : 0 < m) (m1 : m ≤ S.length) (hSl : S.length ≤ 1000)
    (q : ∀ (n : Int) (H : Hp) (D : Addr) (cs : List Nat) (H' : Hp), Pn n H → Picked S n.toNat st H D cs H' → R (.ref D) H') :
    tLc (iRng1 ta) (gName ks) tYes (tOp rIxS ts (tCall spTake [] E0 (tCons (tVar js) (tCons tm tNil)))) [ks] σ H0 R := by
  refine ha _ fun n H hn => ?_
  obtain ⟨n0, n1, hst⟩ := hP n H hn
  refine ⟨n, rfl, by omega, by omega, fun D hD => ?_⟩
  have lim : sizeLine = 16777216 := sizeLine_eq
  have nD : D ≠ st := by obtain ⟨a, b, e⟩ := hst; exact (ne_of_none e hD).symm
  refine lc_range (lo := 0) (n := n.toNat) (fun i H' => ∃ cs : List Nat, H' D = some (.lst ((sgs cs).map V.str)) ∧ cs.length = i ∧ (∀ c ∈ cs, c ∈ S.cps.toList) ∧ Kp [st] H H' ∧ Strm H' st)
    ⟨[], upd_same, rfl, fun c h => absurd h (by simp), Kp.new hD _, hst.kp (Kp.new hD _ : Kp [] _ _) (by simp)⟩ (fun i H2 hi ⟨cs, hcD, hcl, hca, k2, s2⟩ => ?_) (fun H2 ⟨cs, hcD, hcl, hca, k2, s2⟩ => ?_)
  · refine ⟨hw _, ?_⟩
    simp only [tYes, if_true]
    refine hS _ _ _ ?_
    refine ⟨_, hj _, hm _ _ _ ⟨st, m, rfl, s2, ⟨m0, by omega⟩, fun v H3 v0 v1 k3 s3 => ?_⟩⟩
    obtain ⟨c, hc⟩ : ∃ c, S.cps.toList[v.toNat]? = some c := ⟨_, List.getElem?_eq_getElem (by rw [cps_lenP]; omega)⟩
    have hcD3 := k3.keep D _ (by simpa using nD) hcD
    refine ⟨S, v, c, rfl, rfl, by omega, ?_, _, hcD3, by rw [List.length_map, sgs_len]; omega, cs ++ [c], by rw [upd_same, sgs_add], by rw [List.length_append, hcl]; rfl, fun d h => ?_, (k2.trans k3).upd hD hcD3, ?_⟩
    · have ev : v = ((v.toNat : Nat) : Int) := by omega
      rw [ev]
      exact atI_nat hc
    · rcases List.mem_append.mp h with h | h
      · exact hca d h
      · rw [List.mem_singleton.mp h]; exact List.mem_of_getElem? hc
    · obtain ⟨a, b, e⟩ := s3
      exact ⟨a, b, by rw [upd_ne (Ne.symm nD)]; exact e⟩
  · exact q n H D cs H2 hn ⟨hcD, hcl, hca, k2, s2⟩
/-- [f(stream) for k in range(n)], f draws a text -/
theorem draw_lst {σ : St} {H0 : Hp} {R : VK} {ta : TA} {te : TE} {ks : Nat} {st : Addr} (Pn : Int → Hp → Prop) (Pk : Str → Prop)
    (ha : ∀ R, (∀ n H, Pn n H → R [V.int n] H) → ta σ H0 R) (hP : ∀ n H, Pn n H → 0 ≤ n ∧ n ≤ 1000 ∧ Strm H st)
    (hw : ∀ x : V, wipe ((wipe σ [ks]).set ks (some x)) [ks] = wipe σ [ks])
    (he : ∀ (x : V) (H2 : Hp) (R : VK), Strm H2 st → (∀ (k : Str) (H3 : Hp), Pk k → Kp [st] H2 H3 → Strm H3 st → R (.str k) H3) → te ((wipe σ [ks]).set ks (some x)) H2 R)
    (q : ∀ (n : Int) (H : Hp) (D : Addr) (cs : List Str) (H' : Hp), Pn n H → H' D = some (.lst (cs.map V.str)) → cs.length = n.toNat → (∀ c ∈ cs, Pk c) → Kp [st] H H' → Strm H' st → H D = none → R (.ref D) H') :
    tLc (iRng1 ta) (gName ks) tYes te [ks] σ H0 R := by
  refine ha _ fun n H hn => ?_
  obtain ⟨n0, n1, hst⟩ := hP n H hn
  refine ⟨n, rfl, by omega, by omega, fun D hD => ?_⟩
  have lim : sizeLine = 16777216 := sizeLine_eq
  have nD : D ≠ st := by obtain ⟨a, b, e⟩ := hst; exact (ne_of_none e hD).symm
  refine lc_range (lo := 0) (n := n.toNat) (fun i H' => ∃ cs : List Str, H' D = some (.lst (cs.map V.str)) ∧ cs.length = i ∧ (∀ c ∈ cs, Pk c) ∧ Kp [st] H H' ∧ Strm H' st)
    ⟨[], upd_same, rfl, fun c h => absurd h (by simp), Kp.new hD _, hst.kp (Kp.new hD _ : Kp [] _ _) (by simp)⟩ (fun i H2 hi ⟨cs, hcD, hcl, hca, k2, s2⟩ => ?_) (fun H2 ⟨cs, hcD, hcl, hca, k2, s2⟩ => ?_)
  · refine ⟨hw _, ?_⟩
    simp only [tYes, if_true]
    refine he _ _ _ s2 fun k H3 pk k3 s3 => ?_
    have hcD3 := k3.keep D _ (by simpa using nD) hcD
    refine ⟨cs.map V.str, hcD3, by rw [List.length_map]; omega, cs ++ [k], by rw [upd_same, List.map_append]; rfl, by rw [List.length_append, hcl]; rfl, fun d h => ?_, (k2.trans k3).upd hD hcD3, ?_⟩
    · rcases List.mem_append.mp h with h | h
      · exact hca d h
      · rw [List.mem_singleton.mp h]; exact pk
    · obtain ⟨a, b, e⟩ := s3
      exact ⟨a, b, by rw [upd_ne (Ne.symm nD)]; exact e⟩
  · exact q n H D cs H2 hn hcD hcl hca k2 s2 hD
end

/-! joined parts, matched -/
theorem join_le (m : Nat) : ∀ (ps : List (List Nat)), (∀ p ∈ ps, p.length ≤ m) → (TL.joinL [47] ps).length ≤ ps.length * (m + 1)
  | [], _ => by simp [TL.joinL]
  | [p], h => by
    have := h p List.mem_cons_self
    show p.length ≤ 1 * (m + 1)
    omega
  | p :: p2 :: r, h => by
    have h1 := h p List.mem_cons_self
    have h2 := join_le m (p2 :: r) (fun q hq => h q (List.mem_cons_of_mem _ hq))
    show (p ++ ([47] ++ TL.joinL [47] (p2 :: r))).length ≤ (r.length + 1 + 1) * (m + 1)
    rw [List.length_append, List.length_append, Nat.succ_mul]
    have h2 : (TL.joinL [47] (p2 :: r)).length ≤ (r.length + 1) * (m + 1) := h2
    show p.length + (1 + _) ≤ _
    omega
theorem join_snoc (S x : List Nat) : ∀ (ps : List (List Nat)), ps ≠ [] → TL.joinL S (ps ++ [x]) = TL.joinL S ps ++ (S ++ x)
  | [], h => absurd rfl h
  | [p], _ => rfl
  | p :: p2 :: r, _ => by
    show p ++ (S ++ TL.joinL S (p2 :: r ++ [x])) = (p ++ (S ++ TL.joinL S (p2 :: r))) ++ (S ++ x)
    rw [join_snoc S x (p2 :: r) (by simp)]
    simp
theorem jlen {m : Nat} {ps : List Str} (h : ∀ p ∈ ps, p.length ≤ m) : (Txt.join (Str.ofString "/") ps).length ≤ ps.length * (m + 1) := by
  rw [TL.len_tl, TL.join_eq, TL.tl_join]
  have := join_le m (ps.map TL.tl) (fun q hq => by
    obtain ⟨z, hz, rfl⟩ := List.mem_map.mp hq
    rw [← TL.len_tl]; exact h z hz)
  rw [List.length_map] at this
  exact this
theorem jsnoc {ps : List Str} (h : ps ≠ []) (x : Str) : Txt.join (Str.ofString "/") ps ++ (Str.ofString "/" ++ x) = Txt.join (Str.ofString "/") (ps ++ [x]) := by
  refine TL.ext_tl ?_
  rw [TL.tl_append, TL.tl_append, TL.join_eq, TL.join_eq, TL.tl_join, TL.tl_join, List.map_append]
  exact (join_snoc _ _ _ (fun e => h (List.map_eq_nil_iff.mp e))).symm

mutual
theorem sml_of : ∀ (n : Nat) (t : Tr), pl n t = true → (txt t).length ≤ 1000000 → sml t = true
  | _, .int _, _, _ => rfl
  | _, .str z, _, h => by
    have h : (dig z.length ++ 58 :: TL.tl z).length ≤ 1000000 := h
    rw [List.length_append, List.length_cons, ← TL.len_tl] at h
    show decide (z.length ≤ 10000000) = true
    exact decide_eq_true (by omega)
  | 0, .tup _, hp, _ => by cases hp
  | n + 1, .tup ts, hp, h => by
    have h : (91 :: (txts ts ++ [93])).length ≤ 1000000 := h
    rw [List.length_cons, List.length_append] at h
    obtain ⟨a, b⟩ := smls_of n ts hp (by omega)
    show (smls ts && decide (ts.length ≤ 1000000)) = true
    rw [a, decide_eq_true (by omega)]; rfl
  | _, .oth _, hp, _ => by cases hp
theorem smls_of : ∀ (n : Nat) (ts : List Tr), pls n ts = true → (txts ts).length ≤ 1000000 → smls ts = true ∧ ts.length ≤ (txts ts).length
  | _, [], _, _ => ⟨rfl, Nat.le_refl _⟩
  | n, t :: ts, hp, h => by
    have hp : (pl n t && pls n ts) = true := hp
    rw [Bool.and_eq_true] at hp
    have h : (txt t ++ txts ts).length ≤ 1000000 := h
    rw [List.length_append] at h
    obtain ⟨a, b⟩ := smls_of n ts hp.2 (by omega)
    have c := sml_of n t hp.1 (by omega)
    have d : 1 ≤ (txt t).length := txt_pos n t hp.1
    exact ⟨by show (sml t && smls ts) = true; rw [a, c]; rfl, by show ts.length + 1 ≤ (txt t ++ txts ts).length; rw [List.length_append]; omega⟩
theorem txt_pos : ∀ (n : Nat) (t : Tr), pl n t = true → 1 ≤ (txt t).length
  | _, .int i, _ => by show 1 ≤ (dig i.toNat ++ [46]).length; rw [List.length_append]; exact Nat.le_add_left _ _
  | _, .str z, _ => by show 1 ≤ (dig z.length ++ 58 :: TL.tl z).length; rw [List.length_append, List.length_cons]; omega
  | _, .tup ts, _ => by show 1 ≤ (91 :: (txts ts ++ [93])).length; rw [List.length_cons]; omega
  | _, .oth _, hp => by cases hp
end
theorem txt_nil {n : Nat} {t : Tr} (h : pl n t = true) : txt t ≠ [] := fun e => by
  have := txt_pos n t h
  rw [e] at this
  exact absurd this (by decide)
theorem Cal.peS {X : Cx} {j k : Nat} {sp : Sp} {x : Str} {W : WX} {p pos : Pos} {e : Expr} {es : List Expr} {t : TA} (c : Cal X.prog X.w X.K X.mg X.base (L2.CX X.prog X.w) j x sp) (hr : Room k X.A) (tk : Takes X W) (ha : PA X (e :: es) t) (hjk : j ≤ k := by first | decide | omega) (hg : Gl X x := by rfl) (hdb : (x == ("__debug__" : Str)) = false := by decide)
    (he : starEach (e :: es) X.env = (false, eval e X.env) :: starEach es X.env := by rfl) (hpl : (backTo pos (starEach es X.env)).any (·.1) = false := by rfl) :
    PE X (.Call (.Name x p) (e :: es) [] pos) (tCallS sp (WE W) t) :=
  let ⟨_, _, _, F, m, kp, b⟩ := c.ex
  pe_callS F (hr.mono hjk) hg m kp b (fun σ => passAt tk σ) ha hdb he hpl

/-! texts of proper signs -/
theorem u65 {A : PySem.Around} {k : Nat} (hr : Room k A) : A.units + 65 < cLine := by have := Room.un hr; omega
theorem ky_len {k : Str} (h : kyS k = true) : k.length ≤ 12 := by
  unfold kyS at h
  simp only [Bool.and_eq_true, decide_eq_true_eq] at h
  omega
theorem strOk_of {z : Str} (h : ∀ c ∈ TL.tl z, c < 1114112) : PyData.strOk z = true := by
  unfold PyData.strOk
  rw [← Array.all_toList, List.all_eq_true]
  exact fun c hc => decide_eq_true (h c hc)
theorem strOk_prn {z : Str} (h : prn z = true) : PyData.strOk z = true := strOk_of fun c hc => by
  unfold prn at h
  rw [List.all_eq_true] at h
  have := h c hc
  unfold prc at this
  simp only [Bool.and_eq_true, decide_eq_true_eq] at this
  omega
theorem strOk_ky {z : Str} (h : kyS z = true) : PyData.strOk z = true := strOk_of fun c hc => by
  unfold kyS at h
  simp only [Bool.and_eq_true, decide_eq_true_eq] at h
  obtain ⟨⟨⟨h1, h2⟩, h3⟩, h4⟩ := h
  have hl : z.cps.toList.length = z.length := cps_lenP z
  cases e : z.cps.toList with
  | nil => rw [e] at hl; simp at hl; omega
  | cons d r =>
    have hc : c ∈ d :: r := by rw [← e]; exact hc
    rw [e] at h3
    have h3 : d = 107 := Option.some.inj h3
    rcases List.mem_cons.mp hc with hc | hc
    · omega
    · unfold inT at h4
      rw [List.all_eq_true] at h4
      have hm : c ∈ (cutS z (some 1) none).cps.toList := by
        show c ∈ (z.cps.toList.drop (HT.sIx z.length 0 (some ((1 : Nat) : Int)))).take (HT.sIx z.length z.length none - HT.sIx z.length 0 (some ((1 : Nat) : Int)))
        rw [HT.sIx_nat, HT.sIx_none, e, show min 1 z.length = 1 by omega, List.take_of_length_le (by rw [List.length_drop, ← e, hl]; exact Nat.le_refl _)]
        exact hc
      have := of_decide_eq_true (h4 c hm)
      exact (by decide +kernel : ∀ c ∈ (Str.ofString "0123456789").cps.toList, c < 1114112) c this
theorem strOk_app {x y : Str} (h1 : PyData.strOk x = true) (h2 : PyData.strOk y = true) : PyData.strOk (x ++ y) = true := by
  unfold PyData.strOk at h1 h2
  rw [← Array.all_toList, List.all_eq_true] at h1 h2
  refine strOk_of fun c hc => ?_
  rw [TL.tl_append] at hc
  rcases List.mem_append.mp hc with hc | hc
  · exact of_decide_eq_true (h1 c hc)
  · exact of_decide_eq_true (h2 c hc)

/-! opened -/
abbrev s_ascends : Stmt := top 31
abbrev N_ascends : List Str := ["names"]
theorem sc_ascends : FnScope N_ascends ["names"] (defScope s_ascends) := ⟨rfl, rfl, rfl, by decide +kernel, rfl, by decide +kernel, by decide +kernel⟩
abbrev s_is_seal : Stmt := top 71
abbrev N_is_seal : List Str := ["value", "key", "mark"]
theorem sc_is_seal : FnScope N_is_seal ["value"] (defScope s_is_seal) := ⟨rfl, rfl, rfl, by decide +kernel, rfl, by decide +kernel, by decide +kernel⟩
abbrev s_is_content : Stmt := top 70
abbrev N_is_content : List Str := ["value", "text", "seals", "key", "_"]
theorem sc_is_content : FnScope N_is_content ["value"] (defScope s_is_content) := ⟨rfl, rfl, rfl, by decide +kernel, rfl, by decide +kernel, by decide +kernel⟩
abbrev s_opened : Stmt := top 68
abbrev N_opened : List Str := ["sealed", "value"]
theorem sc_opened : FnScope N_opened ["sealed"] (defScope s_opened) := ⟨rfl, rfl, rfl, by decide +kernel, rfl, by decide +kernel, by decide +kernel⟩
/-- a seal, as a tree -/
def isSl : Tr → Bool
  | .tup [.str k, .str m] => kyS k && decide (m.length ≤ 40)
  | _ => false
def keyT : Tr → Str
  | .tup (.str k :: _) => k
  | _ => Str.empty
/-- the content of a sealed text -/
def isCo : Tr → Bool
  | .tup [.str _, .tup ss] => decide (ss.length ≤ 32) && ss.all isSl && asc (ss.map keyT)
  | _ => false
def spAsc (K : PySem.W.Frag) : Sp := fun vs H Q _ => ∃ (p : Addr) (xs : List Str), vs = [.ref p] ∧ SqL K H p (xs.map V.str) ∧ xs.length ≤ 100 ∧ (∀ z ∈ xs, PyData.strOk z = true) ∧ ∀ H', Kp [] H H' → Q (.bl (asc xs)) H'
def spSeal (Pc : Addr) : Sp := fun vs H Q _ => ∃ (v : V) (t : Tr), vs = [v] ∧ Rep H v t ∧ sml t = true ∧ GxR.TabG H Pc ∧ ∀ H', Kp [Pc] H H' → GxR.TabG H' Pc → Q (.bl (isSl t)) H'
def spCont (Ts : List Addr) : Sp := fun vs H Q _ => ∃ (v : V) (t : Tr), vs = [v] ∧ Rep H v t ∧ sml t = true ∧ Tabs Ts H ∧ ∀ H', Kp Ts H H' → Tabs Ts H' → Q (.bl (isCo t)) H'
/-- what opened gives: the content that the text is the text of -/
def opn (z : Str) (t : Tr) : Prop := z.length ≤ 100000 ∧ prn z = true ∧ pval 8 (TL.tl z) = some (t, []) ∧ isCo t = true
def spOpen (C : Addr) (Ts : List Addr) : Sp := fun vs H Q E => ∃ v : V, vs = [v] ∧ (∃ t, tyN H v = some t) ∧ (∀ z, v = .str z → z.length ≤ 10000000) ∧ Tabs Ts H ∧
  (∀ z t, v = .str z → opn z t → ∀ (u : V) (H' : Hp), Kp Ts H H' → Tabs Ts H' → Rep H' u t → Q u H') ∧ ((∀ z t, v = .str z → ¬ opn z t) → ∀ H', Kp Ts H H' → Tabs Ts H' → E (.ref C) none H')
structure OpC (mg : Str → Option Value) : Prop where
  c_MOST_MARK : ∃ t, mg "_MOST_MARK" = some (.int 40 t)
  c_MOST_SEALS : ∃ t, mg "MOST_SEALS" = some (.int 32 t)
structure OpT (K : PySem.W.Frag) (mg : Str → Option Value) (C : Addr) : Prop where
  bad : Err K mg "BadText" C
theorem strs_dp {K : PySem.W.Frag} {H : Hp} : ∀ xs : List Str, DpAll K H (xs.map V.str) (xs.map PyData.str)
  | [] => .nil
  | x :: r => .cons (.str x) (strs_dp r)
theorem strs_shaped {xs : List Str} (h : ∀ z ∈ xs, PyData.strOk z = true) : SeqAt.shaped (.list (xs.map PyData.str)) = true := by
  have g : ∀ ys : List Str, (∀ z ∈ ys, PyData.strOk z = true) → PyData.canLayAll0 (ys.map PyData.str) = true ∧ PyData.depthAll (ys.map PyData.str) ≤ 0 := fun ys => by
    induction ys with
    | nil => exact fun _ => ⟨by simp [PyData.canLayAll0], by simp [PyData.depthAll]⟩
    | cons y r ih =>
      intro h
      have ih := ih fun z hz => h z (List.mem_cons_of_mem _ hz)
      exact ⟨by simp [PyData.canLayAll0, PyData.canLay0, ih.1, h y List.mem_cons_self], by
        have := ih.2
        simp only [List.map_cons, PyData.depthAll, PyData.depth]
        omega⟩
  obtain ⟨h1, h2⟩ := g xs h
  unfold SeqAt.shaped
  rw [Bool.and_eq_true]
  exact ⟨by simp [PyData.canLay0, h1], decide_eq_true (by simp only [PyData.depth]; omega)⟩
theorem strs_eqv : ∀ xs ys : List Str, PyData.eqvAll (xs.map PyData.str) (ys.map PyData.str) = decide (xs = ys)
  | [], [] => rfl
  | [], _ :: _ => rfl
  | _ :: _, [] => rfl
  | x :: xs, y :: ys => by
    show (x == y && PyData.eqvAll (xs.map PyData.str) (ys.map PyData.str)) = _
    rw [strs_eqv xs ys, Bool.eq_iff_iff, Bool.and_eq_true, beq_iff_eq, decide_eq_true_eq, decide_eq_true_eq, List.cons.injEq]
mutual
theorem Rep.tabs {Ts : List Addr} {H H' : Hp} (k : Kp Ts H H') (g : Tabs Ts H) : ∀ {v : V} {t : Tr}, Rep H v t → Rep H' v t
  | _, _, .int i => .int i
  | _, _, .str z => .str z
  | _, _, .tup e r => .tup (k.tup _ _ e) (r.tabs k g)
  | _, _, .oth e a b c => .oth (k.tys g e) a b c
theorem RepAll.tabs {Ts : List Addr} {H H' : Hp} (k : Kp Ts H H') (g : Tabs Ts H) : ∀ {vs : List V} {ts : List Tr}, RepAll H vs ts → RepAll H' vs ts
  | _, _, .nil => .nil
  | _, _, .cons a b => .cons (a.tabs k g) (b.tabs k g)
end
theorem rep_tup {H : Hp} {v : V} {t : Tr} {ty : String} (h : Rep H v t) (e : tyN H v = some ty) (b : isaB ty "tuple" = true) : ∃ (a : Addr) (xs : List V) (ts : List Tr), v = .ref a ∧ H a = some (.tup xs) ∧ t = .tup ts ∧ RepAll H xs ts := by
  cases h with
  | int => cases e; exact absurd b (by decide)
  | str => cases e; exact absurd b (by decide)
  | oth e' n1 n2 n3 =>
    rw [e'] at e; cases e
    unfold isaB at b
    simp only [Bool.or_eq_true, Bool.and_eq_true, beq_iff_eq] at b
    rcases b with b | b
    · exact absurd b n3
    · exact absurd b.2 (by decide)
  | tup e' r => exact ⟨_, _, _, rfl, e', rfl, r⟩
theorem rep_str {H : Hp} {v : V} {t : Tr} {ty : String} (h : Rep H v t) (e : tyN H v = some ty) (b : isaB ty "str" = true) : ∃ z : Str, v = .str z ∧ t = .str z := by
  cases h with
  | int => cases e; exact absurd b (by decide)
  | tup e' r => rw [tyN_tup e'] at e; cases e; exact absurd b (by decide)
  | oth e' n1 n2 n3 =>
    rw [e'] at e; cases e
    unfold isaB at b
    simp only [Bool.or_eq_true, Bool.and_eq_true, beq_iff_eq] at b
    rcases b with b | b
    · exact absurd b n2
    · exact absurd b.2 (by decide)
  | str z => exact ⟨_, rfl, rfl⟩
theorem rep_ntup {H : Hp} {v : V} {ts : List Tr} {ty : String} (h : Rep H v (.tup ts)) (e : tyN H v = some ty) : isaB ty "tuple" = true := by
  cases h with
  | tup e' r => rw [tyN_tup e'] at e; cases e; decide
theorem rep_nstr {H : Hp} {v : V} {z : Str} {ty : String} (h : Rep H v (.str z)) (e : tyN H v = some ty) : isaB ty "str" = true := by
  cases h with
  | str => cases e; decide
theorem rep_sz {H : Hp} {v : V} {t : Tr} (h : Rep H v t) (hs : sml t = true) : szV v := by
  cases h with
  | str z =>
    have : z.length ≤ 10000000 := of_decide_eq_true hs
    show z.length ≤ sizeLine
    rw [sizeLine_eq]; omega
  | int => exact True.intro
  | tup => exact True.intro
  | @oth v t e n1 n2 n3 => cases v <;> first | exact True.intro | (cases e; exact absurd rfl n2)
theorem rep_ky {H : Hp} {v : V} {t : Tr} (h : Rep H v t) (k : kyV v = true) : ∃ z : Str, v = .str z ∧ t = .str z ∧ kyS z = true := by
  cases h with
  | str z => exact ⟨z, rfl, rfl, k⟩
  | int => cases k
  | tup => cases k
  | @oth v t e n1 n2 n3 => cases v <;> first | (cases k; done) | (cases e; exact absurd rfl n2)
theorem rep_nky {H : Hp} {v : V} {z : Str} (h : Rep H v (.str z)) (k : kyS z = true) : kyV v = true := by
  cases h with
  | str => exact k
theorem two_or {H : Hp} {xs : List V} {ts : List Tr} (r : RepAll H xs ts) : (xs.length ≠ 2 ∧ ts.length ≠ 2) ∨ ∃ (x1 x2 : V) (t1 t2 : Tr), xs = [x1, x2] ∧ ts = [t1, t2] ∧ Rep H x1 t1 ∧ Rep H x2 t2 := by
  by_cases l : xs.length = 2
  · cases r with
    | nil => cases l
    | cons a r =>
      cases r with
      | nil => cases l
      | cons b r =>
        cases r with
        | nil => exact .inr ⟨_, _, _, _, rfl, rfl, a, b⟩
        | cons c r => simp at l
  · exact .inl ⟨l, by rw [← r.len]; exact l⟩
theorem isSl_two {t : Tr} (h : isSl t = true) : ∃ k m : Str, t = .tup [.str k, .str m] ∧ kyS k = true ∧ m.length ≤ 40 := by
  unfold isSl at h
  split at h
  · rw [Bool.and_eq_true, decide_eq_true_eq] at h; exact ⟨_, _, rfl, h.1, h.2⟩
  · cases h
theorem isCo_two {t : Tr} (h : isCo t = true) : ∃ (z : Str) (ss : List Tr), t = .tup [.str z, .tup ss] ∧ ss.length ≤ 32 ∧ (∀ s ∈ ss, isSl s = true) ∧ asc (ss.map keyT) = true := by
  unfold isCo at h
  split at h
  · simp only [Bool.and_eq_true, decide_eq_true_eq, List.all_eq_true] at h; exact ⟨_, _, rfl, h.1.1, h.1.2, h.2⟩
  · cases h
section
variable {P : Program} {w : World} {K : PySem.W.Frag} {mg : Str → Option Value} {base : Heap} {f : Addr} {fd : FuncData}
theorem ok_asc (F : Fun K "ascends" "ascends" s_ascends f fd) (B : Blt mg) (z1 : mg "sorted" = none) (z2 : mg "set" = none) : FnOk P w K mg base CX0 1 f fd ["names"] (spAsc K) := by
  refine F.ok sc_ascends (fun vs H Q E h => ?_) (fun cdv A outer s H vs Q E hr h => ?_)
  · obtain ⟨p, xs, rfl, _⟩ := h; rfl
  obtain ⟨p, xs, rfl, hp, hl, ho, q⟩ := h
  refine ⟨_, (pss_one (ps_ret (pe_cmpR (op_eqD hr.units) (pv 0) (pe_sortSet rfl rfl z1 rfl z2 (pv 0)) (nomark _)))), ?_⟩
  walk_at "wp"
  refine ⟨_, rfl, p, xs, rfl, hp, by omega, fun ys r ha mem hr2 => ?_⟩
  have n0 : Kp [] H (upd H r (.lst (ys.map V.str))) := Kp.new hr2 _
  refine ⟨.list (xs.map PyData.str), .list (ys.map PyData.str), .lst (n0.seqL List.not_mem_nil hp) (strs_dp xs), .lst (SqL.of upd_same) (strs_dp ys), strs_shaped ho, strs_shaped fun z hz => ho z ((mem z).mp hz), ?_⟩
  have y := q _ n0
  rw [show PyData.eqv (.list (xs.map PyData.str)) (.list (ys.map PyData.str)) = decide (xs = ys) from strs_eqv xs ys]
  have e : decide (xs = ys) = asc xs := by
    cases c : asc xs with
    | true => exact decide_eq_true (asc_eq c ha fun z => (mem z).symm)
    | false => exact decide_eq_false fun e => by rw [e, ha] at c; cases c
  rw [e]; exact y
theorem ok_seal {Pc : Addr} (F : Fun K "_is_seal" "_is_seal" s_is_seal f fd) (B : Blt mg) (D : OpC mg) (c_is_key : Cal P w K mg base CX0 4 "is_key" (spNm kyV Pc)) : FnOk P w K mg base CX0 5 f fd ["value"] (spSeal Pc) := by
  refine F.ok sc_is_seal (fun vs H Q E h => ?_) (fun cdv A outer s H vs Q E hr h => ?_)
  · obtain ⟨v, t, rfl, _⟩ := h; rfl
  obtain ⟨v, t, rfl, hR, hs, hG, q⟩ := h
  refine ⟨_, (pss_cons (ps_if (PW.pt (pw_or (pt_not (pt_val (B.isT (pv 0) B.v_tuple))) (pw_or1 (pt_cmpR op_ne (B.len_q (pa_cons (pv 0) pa_nil)) pe_int (nomark _))))) (pss_one (ps_ret pe_bl)) pss_nil)
    (pss_cons (ps_asg (pv 0) (pg_tup rfl (pgs_cons (pg_name (i := 1) sc_is_seal.nd rfl (Or.inl rfl)) (pgs_cons (pg_name (i := 2) sc_is_seal.nd rfl (Or.inl rfl)) pgs_nil))))
    (pss_one (ps_ret (pe_and (c_is_key.pe hr (pa_cons (pv 1) pa_nil)) (pe_and (B.isT (pv 2) B.v_str) (pe_one (pe_cmpR op_le (B.len_s (pa_cons (pv 2) pa_nil)) (pe_cE D.c_MOST_MARK) (nomark _))))))))), ?_⟩
  walk_at "wp"
  obtain ⟨ty, hty⟩ := hR.ty
  refine ⟨ty, hty, ?_⟩
  have off : isSl t = false → Q (.bl false) H := fun h => by
    have y := q H (Kp.refl _ _) hG
    rw [h] at y; exact y
  have no : (∀ k m : Str, t = .tup [.str k, .str m] → kyS k = true → m.length ≤ 40 → False) → isSl t = false := fun h => by
    cases e : isSl t with
    | false => rfl
    | true => obtain ⟨k, m, e1, e2, e3⟩ := isSl_two e; exact (h k m e1 e2 e3).elim
  split
  · rename_i c
    exact off (no fun k m e _ _ => by subst e; rw [rep_ntup hR hty] at c; cases c)
  · rename_i c
    obtain ⟨a, xs, ts, rfl, ea, rfl, r⟩ := rep_tup hR hty (by simpa using c)
    refine ⟨a, rfl, xs, .inr (SqT.of ea), ?_⟩
    rcases two_or r with ⟨l1, l2⟩ | ⟨x1, x2, t1, t2, rfl, rfl, R1, R2⟩
    · rw [if_pos (by omega)]
      exact off (no fun k m e _ _ => by cases e; exact l2 rfl)
    · rw [if_neg (by simp)]
      refine ⟨a, _, rfl, SqT.of ea, rfl, x1, _, rfl, x2, _, rfl, rfl, ?_⟩
      have hs1 : sml t1 = true := smls_mem (ts := [t1, t2]) (by unfold sml at hs; rw [Bool.and_eq_true] at hs; exact hs.1) List.mem_cons_self
      have hs2 : sml t2 = true := smls_mem (ts := [t1, t2]) (by unfold sml at hs; rw [Bool.and_eq_true] at hs; exact hs.1) (List.mem_cons_of_mem _ List.mem_cons_self)
      walk_at "wp"
      refine ⟨x1, rfl, hG, R1.ty, rep_sz R1 hs1, fun H1 k1 g1 => ⟨_, rfl, ?_⟩⟩
      have R2' := R2.tabs (Ts := [Pc]) k1 (fun p hp => by rw [List.mem_singleton.mp hp]; exact hG)
      obtain ⟨t2y, ht2⟩ := R2'.ty
      have off1 : isSl (.tup [t1, t2]) = false → Q (.bl false) H1 := fun h => by
        have y := q H1 k1 g1
        rw [h] at y; exact y
      split
      · rename_i c1
        obtain ⟨z, rfl, rfl, ck⟩ := rep_ky R1 c1
        refine ⟨t2y, ht2, ?_⟩
        split
        · rename_i c2
          obtain ⟨m, rfl, rfl⟩ := rep_str R2' ht2 c2
          have hm : m.length ≤ 10000000 := of_decide_eq_true hs2
          refine ⟨m, rfl, by rw [sizeLine_eq]; omega, ?_⟩
          have y := q H1 k1 g1
          rw [show isSl (.tup [.str z, .str m]) = (kyS z && decide (m.length ≤ 40)) from rfl, ck, Bool.true_and] at y
          rw [show decide ((m.length : Int) ≤ 40) = decide (m.length ≤ 40) from decide_eq_decide.mpr (by omega)]
          exact y
        · rename_i c2
          exact off1 (no fun k m e _ _ => by cases e; exact c2 (rep_nstr R2' ht2))
      · rename_i c1
        exact off1 (no fun k m e ek _ => by cases e; exact c1 (rep_nky R1 ek))
theorem ok_content {oc kV doc pm ct : Value} {od an : Option Addr} {osl : Array (Option Value)} {c Pt Pc : Addr} {Ts : List Addr} (B : Blt mg) (TB : GxR.TabB base mg c Pt) (D : OpC mg) (mt : Pt ∈ Ts) (mc : Pc ∈ Ts)
    (lk : K.lookup f = some ⟨oc, od, .func (PySem.W.fnOf "_is_content" "_is_content" (defArgs s_is_content) (defBody s_is_content) (defScope s_is_content) .none kV doc pm an (.ref c) ct), osl⟩) (hcd : PySem.W.codeIn K (.ref c) "_is_content" = true)
    (c_is_seal : Cal P w K mg base CX0 5 "_is_seal" (spSeal Pc)) (c_ascends : Cal P w K mg base CX0 1 "ascends" (spAsc K)) :
    FnOk P w K mg base CX0 8 f (PySem.W.fnOf "_is_content" "_is_content" (defArgs s_is_content) (defBody s_is_content) (defScope s_is_content) .none kV doc pm an (.ref c) ct) ["value"] (spCont Ts) := by
  refine fn_of lk hcd sc_is_content (fun vs H Q E h => ?_) (fun A outer s H vs Q E hr h => ?_)
  · obtain ⟨v, t, rfl, _⟩ := h; rfl
  obtain ⟨v, t, rfl, hR, hs, hG, q⟩ := h
  refine ⟨_, PSs.nox (pss_cons (ps_if (PW.pt (pw_or (pt_not (pt_val (B.isT (pv 0) B.v_tuple))) (pw_or1 (pt_cmpR op_ne (B.len_q (pa_cons (pv 0) pa_nil)) pe_int (nomark _))))) (pss_one (ps_ret pe_bl)) pss_nil)
    (pss_cons (ps_asg (pv 0) (pg_tup rfl (pgs_cons (pg_name (i := 1) sc_is_content.nd rfl (Or.inl rfl)) (pgs_cons (pg_name (i := 2) sc_is_content.nd rfl (Or.inl rfl)) pgs_nil))))
    (pss_cons (ps_if (PW.pt (pw_or (pt_not (pt_val (B.isT (pv 1) B.v_str))) (pw_or (pt_not (pt_val (B.isT (pv 2) B.v_tuple))) (pw_or1 (pt_cmpR op_gt (B.len_q (pa_cons (pv 2) pa_nil)) (pe_cE D.c_MOST_SEALS) (nomark _)))))) (pss_one (ps_ret pe_bl)) pss_nil)
    (pss_cons (ps_if (pt_not (pt_val (pe_allG (N := ["pair"]) (nt := 1) (fr := []) rfl hr B TB rfl (gnOf (by decide +kernel)) (by show freeOk _ (defScope s_is_content) = true; decide +kernel) (by show capOk _ _ _ N_is_content _ (defScope s_is_content) = true; decide +kernel)
      (pi_tup (pv 2)) (fun _ _ _ _ _ hr => (pg_name (i := 0) (by show List.Nodup (["pair"] : List Str); decide +kernel) rfl (Or.inl rfl))) (fun _ _ _ _ _ hr => pts_nil) (fun _ _ _ _ _ hr => (c_is_seal.pe hr (pa_cons (pv 0) pa_nil))) (fun _ => rfl)))) (pss_one (ps_ret pe_bl)) pss_nil)
    (pss_one (ps_ret (c_ascends.pe hr (pa_cons (pe_lc (own := [("key", 3), ("_", 4)]) (g := gTup _ 2 (gCons (gName 3) (gCons (gName 4) (gNil)))) (tt := tYes) rfl sc_is_content.nd (pi_tup (pv 2)) (blkOk_by (own := [("key", 3), ("_", 4)]) (N := N_is_content) (sc := defScope s_is_content) (by decide +kernel)) (fun _ _ _ _ _ => (pg_tup rfl (pgs_cons (pg_name (i := 3) sc_is_content.nd rfl (Or.inl rfl)) (pgs_cons (pg_name (i := 4) sc_is_content.nd rfl (Or.inl rfl)) pgs_nil)))) (fun _ _ _ _ _ => pts_nil) (fun _ _ _ _ _ => (pv 3))) pa_nil)))))))), ?_⟩
  walk_at "wp"
  obtain ⟨ty, hty⟩ := hR.ty
  refine ⟨ty, hty, ?_⟩
  have off : ∀ H', Kp Ts H H' → Tabs Ts H' → isCo t = false → Q (.bl false) H' := fun H' k g h => by
    have y := q H' k g
    rw [h] at y; exact y
  have no : (∀ (z : Str) (ss : List Tr), t = .tup [.str z, .tup ss] → ss.length ≤ 32 → (∀ s ∈ ss, isSl s = true) → asc (ss.map keyT) = true → False) → isCo t = false := fun h => by
    cases e : isCo t with
    | false => rfl
    | true => obtain ⟨k, m, e1, e2, e3, e4⟩ := isCo_two e; exact (h k m e1 e2 e3 e4).elim
  split
  · rename_i c
    exact off _ (Kp.refl _ _) hG (no fun k m e _ _ _ => by subst e; rw [rep_ntup hR hty] at c; cases c)
  · rename_i c
    obtain ⟨a, xs, ts, rfl, ea, rfl, r⟩ := rep_tup hR hty (by simpa using c)
    refine ⟨a, rfl, xs, .inr (SqT.of ea), ?_⟩
    rcases two_or r with ⟨l1, l2⟩ | ⟨x1, x2, t1, t2, rfl, rfl, R1, R2⟩
    · rw [if_pos (by omega)]
      exact off _ (Kp.refl _ _) hG (no fun k m e _ _ _ => by cases e; exact l2 rfl)
    · rw [if_neg (by simp)]
      refine ⟨a, _, rfl, SqT.of ea, rfl, x1, _, rfl, x2, _, rfl, rfl, ?_⟩
      have hs1 : sml t1 = true := smls_mem (ts := [t1, t2]) (by unfold sml at hs; rw [Bool.and_eq_true] at hs; exact hs.1) List.mem_cons_self
      have hs2 : sml t2 = true := smls_mem (ts := [t1, t2]) (by unfold sml at hs; rw [Bool.and_eq_true] at hs; exact hs.1) (List.mem_cons_of_mem _ List.mem_cons_self)
      walk_at "wp"
      obtain ⟨ty1, hty1⟩ := R1.ty
      obtain ⟨ty2, hty2⟩ := R2.ty
      refine ⟨ty1, hty1, ?_⟩
      split
      · rename_i c1
        exact off _ (Kp.refl _ _) hG (no fun k m e _ _ _ => by cases e; rw [rep_nstr R1 hty1] at c1; cases c1)
      rename_i c1
      obtain ⟨z, rfl, rfl⟩ := rep_str R1 hty1 (by simpa using c1)
      refine ⟨ty2, hty2, ?_⟩
      split
      · rename_i c2
        exact off _ (Kp.refl _ _) hG (no fun k m e _ _ _ => by cases e; rw [rep_ntup R2 hty2] at c2; cases c2)
      rename_i c2
      obtain ⟨b, ys, us, rfl, eb, rfl, rr⟩ := rep_tup R2 hty2 (by simpa using c2)
      refine ⟨b, rfl, ys, .inr (SqT.of eb), ?_⟩
      split
      · rename_i c3
        exact off _ (Kp.refl _ _) hG (no fun k m e l _ _ => by cases e; rw [rr.len] at c3; omega)
      rename_i c3
      have ly : ys.length ≤ 32 := by omega
      refine ⟨_, rfl, b, rfl, ⟨ys, SqT.of eb⟩, hG _ mt, fun H2 hT => ?_⟩
      have g2 := hG.tab hT mt
      have k2 : Kp Ts H H2 := Kp.tab (hG _ mt) hT mt
      have e2 := k2.get hG eb
      have hsu : smls us = true := by
        unfold sml at hs2
        rw [Bool.and_eq_true] at hs2; exact hs2.1
      refine for_tup (K := K) (a := b) (xs := ys) (fun i σ H' => (∃ o : Option V, σ = [o]) ∧ Kp Ts H H' ∧ Tabs Ts H' ∧ ((us.take i).all isSl) = true)
        ⟨⟨_, rfl⟩, k2, g2, rfl⟩ (fun i σ H' _ ⟨_, k, _, _⟩ => SqT.of (k.get hG eb)) (fun i x σ H' hx ⟨⟨o, hσ⟩, k3, g3, ha⟩ => ?_) (fun σ H' ⟨⟨o, hσ⟩, k3, g3, ha⟩ => ?_)
      · subst hσ
        obtain ⟨u, hu, Ru⟩ := rr.get hx
        have tk : us.take (i + 1) = us.take i ++ [u] := by rw [List.take_add_one, hu]; rfl
        unfold tbAll
        simp only [tYes, if_true]
        walk_at "wp"
        refine ⟨x, u, rfl, Ru.tabs k3 hG, smls_mem hsu (List.mem_of_getElem? hu), g3 _ mc, fun H4 k4 g4 => ⟨_, rfl, ?_⟩⟩
        have k5 := k3.trans (k4.in1 mc)
        have g5 := g3.kp1 k4 g4
        cases hb : isSl u with
        | true =>
          rw [if_pos rfl]
          exact ⟨⟨_, rfl⟩, k5, g5, by rw [tk, List.all_append, ha]; simp [hb]⟩
        | false =>
          rw [if_neg (by decide)]
          exact off _ k5 g5 (no fun k m e _ al _ => by cases e; rw [al u (List.mem_of_getElem? hu)] at hb; cases hb)
      · refine ⟨_, rfl, ?_⟩
        rw [if_neg (by decide)]
        rw [rr.len, List.take_length] at ha
        have al : ∀ u ∈ us, isSl u = true := List.all_eq_true.mp ha
        have e3 := k3.get hG eb
        refine ⟨_, rfl, b, rfl, ⟨ys, SqT.of e3⟩, fun D hD => ?_⟩
        have nD : ∀ P ∈ Ts, P ∉ [D] := fun P m e => g3.ne0 hD (List.mem_singleton.mp e ▸ m)
        refine lc_tup (K := K) (a := b) (xs := ys) (fun i Hx => Kp Ts H' Hx ∧ Tabs Ts Hx ∧ Hx D = some (.lst (((us.take i).map keyT).map V.str)))
          ⟨Kp.new hD _, g3.new hD _, upd_same⟩ (fun i Hx _ ⟨k, _, _⟩ => SqT.of (k.get g3 e3)) (fun i x Hx hx ⟨k4, g4, a4⟩ => ?_) (fun Hx ⟨k4, g4, a4⟩ => ?_)
        · obtain ⟨u, hu, Ru⟩ := rr.get hx
          obtain ⟨ky, mk, rfl, _, _⟩ := isSl_two (al u (List.mem_of_getElem? hu))
          have Ru := (Ru.tabs k3 hG).tabs k4 g3
          cases Ru with
          | @tup p xs ts e5 r5 =>
            cases r5 with
            | cons r6 r7 =>
              cases r7 with
              | cons r8 r9 =>
                cases r6; cases r8; cases r9
                refine ⟨p, _, rfl, SqT.of e5, rfl, _, _, rfl, _, _, rfl, rfl, rfl, ?_⟩
                simp only [tYes, if_true]
                refine ⟨_, rfl, _, a4, by rw [List.length_map, List.length_map, List.length_take, sizeLine_eq, ← rr.len]; omega, Kp.upd k4 hD a4, g4.kp (Kp.lst a4 (List.mem_singleton.mpr rfl)) nD, ?_⟩
                rw [upd_same, List.take_add_one, hu]
                simp [keyT]
        · rw [rr.len, List.take_length] at a4
          refine ⟨D, us.map keyT, rfl, SqL.of a4, by rw [List.length_map, ← rr.len]; omega, fun z hz => ?_, fun H5 k5 => ?_⟩
          · obtain ⟨u, hu, rfl⟩ := List.mem_map.mp hz
            obtain ⟨ky, mk, rfl, h1, _⟩ := isSl_two (al u hu)
            exact strOk_ky h1
          · have y := q H5 ((k3.trans k4).trans k5.in0) (g4.kp0 k5)
            rw [show isCo (.tup [.str z, .tup us]) = (decide (us.length ≤ 32) && us.all isSl && asc (us.map keyT)) from rfl, ha, decide_eq_true (by rw [← rr.len]; exact ly), Bool.true_and, Bool.true_and] at y
            exact y
theorem ok_opened {C Pp : Addr} {Ts : List Addr} (F : Fun K "opened" "opened" s_opened f fd) (B : Blt mg) (T : Err K mg "BadText" C) (mp : Pp ∈ Ts) (c_decode : Cal P w K mg base (L2N.CX P w) 23 "decode" (spDec C Pp)) (c_is_content : Cal P w K mg base CX0 8 "_is_content" (spCont Ts)) :
    FnOk P w K mg base (L2N.CX P w) 24 f fd ["sealed"] (spOpen C Ts) := by
  refine F.okXN sc_opened (fun vs H Q E h => ?_) (fun cdv A outer s H vs Q E hr h => ?_)
  · obtain ⟨v, rfl, _⟩ := h; rfl
  obtain ⟨v, rfl, ht, hz, hG, q, qe⟩ := h
  have T : OpT K mg C := ⟨T⟩
  refine ⟨_, (pss_cons (ps_set (i := 1) sc_opened.nd rfl (Or.inl rfl) (c_decode.pex hr (passXN (L2N.takes_of rfl rfl rfl rfl) fun _ _ _ _ h => h) (pa_cons (pv 0) pa_nil)))
    (pss_cons (ps_if (pt_not (pt_val (c_is_content.pe hr (pa_cons (pv 1) pa_nil)))) (pss_one (T.bad.raiseN (L2N.takes_of rfl rfl rfl rfl))) pss_nil)
    (pss_one (ps_ret (pv 1))))), ?_⟩
  walk_at "wp"
  refine ⟨v, rfl, ht, hz, hG _ mp, fun z t e l1 l2 l3 u H' k1 g1 R => ?_, fun n H' k1 g1 => qe (fun z t e o => n z t e o.1 o.2.1 o.2.2.1) H' (k1.in1 mp) (hG.kp1 k1 g1)⟩
  have k2 := k1.in1 mp
  have g2 := hG.kp1 k1 g1
  have ⟨pe, pb⟩ := pval_back 8 _ _ _ l3
  have hp : pl 8 t = true := pb (by
    unfold prn at l2
    rw [List.all_eq_true] at l2; exact l2)
  have hl : (txt t).length ≤ 1000000 := by
    have := congrArg List.length pe
    rw [List.append_nil, ← TL.len_tl] at this
    omega
  refine ⟨u, t, rfl, R, sml_of 8 t hp hl, g2, fun H2 k3 g3 => ⟨_, rfl, ?_⟩⟩
  split
  · rename_i c
    refine qe (fun z' t' e' o => ?_) H2 (k2.trans k3) g3
    rw [e] at e'; cases e'
    obtain ⟨_, _, o3, o4⟩ := o
    rw [l3] at o3; cases o3
    rw [c] at o4; cases o4
  · rename_i c
    exact q z t e ⟨l1, l2, l3, by simpa using c⟩ u H2 (k2.trans k3) g3 (R.tabs k3 g2)
end

/-! support -/
abbrev s_support : Stmt := top 69
abbrev N_support : List Str := ["office", "sealed", "keys", "text", "seals"]
theorem sc_support : FnScope N_support ["office", "sealed", "keys"] (defScope s_support) := ⟨rfl, rfl, rfl, by decide +kernel, rfl, by decide +kernel, by decide +kernel⟩
/-- the mark of a seal -/
def markT : Tr → Str
  | .tup (_ :: .str m :: _) => m
  | _ => Str.empty
/-- the seals that count -/
def suC (made : List (Str × Str)) (keys : List Str) (z : Str) (s : Tr) : Bool := decide (keyT s ∈ keys) && hoV made (.str (keyT s)) (.str z) (.str (markT s))
def suN (made : List (Str × Str)) (keys : List Str) (z : Str) (ss : List Tr) : Nat := ss.countP (suC made keys z)
def spSupp (C C0 : Addr) (Ts : List Addr) (K : PySem.W.Frag) : Sp := fun vs H Q E => ∃ (o dm ks : Addr) (made : List (Str × Str)) (v : V) (keys : List Str), vs = [.ref o, v, .ref ks] ∧ Ofc C o dm made H ∧ (∃ t, tyN H v = some t) ∧ (∀ z, v = .str z → z.length ≤ 10000000) ∧ Tabs Ts H ∧
  (SqL K H ks (keys.map V.str) ∨ SqT K H ks (keys.map V.str)) ∧
  (∀ x z ss, v = .str x → opn x (.tup [.str z, .tup ss]) → ∀ H', Kp Ts H H' → Tabs Ts H' → Q (.int (suN made keys z ss)) H') ∧ ((∀ x t, v = .str x → ¬ opn x t) → ∀ H', Kp Ts H H' → Tabs Ts H' → E (.ref C0) none H')
theorem Kp.seqT {K : PySem.W.Frag} {Ts : List Addr} {H H' : Hp} {a : Addr} {xs : List V} (k : Kp Ts H H') (g : Tabs Ts H) (h : SqT K H a xs) : SqT K H' a xs := by
  rcases h with (h | ⟨o, h⟩) | h
  · exact .inl (.inl (k.get g h))
  · exact .inl (.inr ⟨o, k.get g h⟩)
  · exact .inr h
theorem flat_strs : ∀ keys : List Str, (keys.map V.str).all flatV = true
  | [] => rfl
  | _ :: r => flat_strs r
theorem inV_strs (k : Str) : ∀ keys : List Str, L2.inV (V.str k) (keys.map V.str) = decide (k ∈ keys)
  | [] => rfl
  | y :: r => by
    show (eqV (.str y) (.str k) || L2.inV (V.str k) (r.map V.str)) = _
    rw [inV_strs k r, Bool.eq_iff_iff, Bool.or_eq_true, decide_eq_true_eq, decide_eq_true_eq, List.mem_cons, show eqV (V.str y) (.str k) = (y == k) from rfl, beq_iff_eq]
    exact or_congr_left eq_comm
section
variable {P : Program} {w : World} {K : PySem.W.Frag} {mg : Str → Option Value} {base : Heap} {f : Addr} {fd : FuncData} {C C0 : Addr} {Ts : List Addr}
theorem ok_support {oc kV doc pm ct : Value} {od an : Option Addr} {osl : Array (Option Value)} {c Pt : Addr} (B : Blt mg) (zsum : mg "sum" = none) (TB : GxR.TabB base mg c Pt) (mt : Pt ∈ Ts)
    (lk : K.lookup f = some ⟨oc, od, .func (PySem.W.fnOf "support" "support" (defArgs s_support) (defBody s_support) (defScope s_support) .none kV doc pm an (.ref c) ct), osl⟩) (hcd : PySem.W.codeIn K (.ref c) "support" = true)
    (c_opened : Cal P w K mg base (L2.CX P w) 24 "opened" (spOpen C0 Ts)) (m_holds : CalM P w K mg base CX0 1 C "holds" (spHolds C)) :
    FnOk P w K mg base (L2.CX P w) 25 f (PySem.W.fnOf "support" "support" (defArgs s_support) (defBody s_support) (defScope s_support) .none kV doc pm an (.ref c) ct) ["office", "sealed", "keys"] (spSupp C C0 Ts K) := by
  refine fn_of (CX := L2.CX P w) lk hcd sc_support (fun vs H Q E h => ?_) (fun A outer s H vs Q E hr h => ?_)
  · obtain ⟨o, dm, ks, made, v, keys, rfl, _⟩ := h; rfl
  obtain ⟨o, dm, ks, made, v, keys, rfl, hO, ht, hz, hG, hk, q, qe⟩ := h
  refine ⟨_, (pss_cons (ps_asg (c_opened.pex hr (passX (takes_of rfl rfl rfl rfl) fun _ _ _ _ h => h) (pa_cons (pv 1) pa_nil)) (pg_tup rfl (pgs_cons (pg_name (i := 3) sc_support.nd rfl (Or.inr rfl)) (pgs_cons (pg_name (i := 4) sc_support.nd rfl (Or.inl rfl)) pgs_nil))))
    (pss_one (ps_ret (pe_sumG (N := ["key", "mark", "keys", "text", "office"]) (nt := 2) (fr := [2, 3, 0]) (g := gTup _ 2 (gCons (gName 0) (gCons (gName 1) (gNil)))) rfl hr zsum TB rfl (gnOf (by decide +kernel)) (by show freeOk _ (defScope s_support) = true; decide +kernel) (by show capOk _ _ _ N_support _ (defScope s_support) = true; decide +kernel)
      (pi_tup (pv 4)) (fun _ _ _ _ _ hr => (pg_tup rfl (pgs_cons (pg_name (i := 0) (by show List.Nodup (["key", "mark", "keys", "text", "office"] : List Str); decide +kernel) rfl (Or.inl rfl)) (pgs_cons (pg_name (i := 1) (by show List.Nodup (["key", "mark", "keys", "text", "office"] : List Str); decide +kernel) rfl (Or.inl rfl)) pgs_nil)))) (fun _ _ _ _ _ hr => pts_one (PW.pt (pw_and (pt_cmpR (show OpR _ _ (rIn K false) from op_in_seq) (pv 0) (pv 2) (by rfl)) (pw_and1 (pt_val (m_holds.pe hr (pv 4) (pa_cons (pv 0) (pa_cons (pv 3) (pa_cons (pv 1) pa_nil))))))))) (fun _ _ _ _ _ hr => pe_int) (fun _ => rfl))))), ?_⟩
  walk_at "wp"
  refine ⟨v, rfl, ht, hz, hG, fun x t e o1 u H1 k1 g1 hR => ?_, fun n H1 k1 g1 => qe n H1 k1 g1⟩
  obtain ⟨z, ss, rfl, c1, c2, c3⟩ := isCo_two o1.2.2.2
  obtain ⟨a, xs, eu, ea, r⟩ : ∃ a xs, u = .ref a ∧ H1 a = some (.tup xs) ∧ RepAll H1 xs [.str z, .tup ss] := by
    cases hR with
    | tup e r => exact ⟨_, _, rfl, e, r⟩
  subst eu
  cases r with
  | cons r1 r =>
  cases r with
  | cons r2 r =>
  cases r
  cases r1
  cases r2 with
  | @tup b ys _ eb rr =>
  have l8 : pl 8 (.tup [.str z, .tup ss]) = true := (pval_back 8 _ _ _ o1.2.2.1).2 (by have := o1.2.1; unfold prn at this; exact List.all_eq_true.mp this)
  refine ⟨a, _, rfl, SqT.of ea, rfl, _, _, rfl, _, _, rfl, rfl, ?_⟩
  refine ⟨_, rfl, b, rfl, ⟨ys, SqT.of eb⟩, g1 _ mt, fun H2 hT => ?_⟩
  have g2 := g1.tab hT mt
  have k2 : Kp Ts H1 H2 := Kp.tab (g1 _ mt) hT mt
  refine sum_tup (K := K) (a := b) (xs := ys) (fun i n σ H' => n = (suN made keys z (ss.take i) : Nat) ∧ (∃ q1 q2 : Option V, σ = [q1, q2, some (.ref ks), some (.str z), some (.ref o)]) ∧ Kp Ts H1 H' ∧ Tabs Ts H')
    ⟨rfl, ⟨_, _, rfl⟩, k2, g2⟩ (fun i n σ H' _ ⟨_, _, k, _⟩ => SqT.of (k.get g1 eb)) (fun i n y σ H' hy ⟨hn, ⟨q1, q2, hσ⟩, k3, g3⟩ => ?_) (fun n σ H' ⟨hn, ⟨q1, q2, hσ⟩, k3, g3⟩ => ?_)
  · subst hσ
    obtain ⟨s1, hs1, Rs⟩ := rr.get hy
    have tk : ss.take (i + 1) = ss.take i ++ [s1] := by rw [List.take_add_one, hs1]; rfl
    obtain ⟨ky, mk, rfl, _, _⟩ := isSl_two (c2 s1 (List.mem_of_getElem? hs1))
    have li : i < ss.length := (List.getElem?_eq_some_iff.mp hs1).1
    have le : suN made keys z (ss.take i) ≤ 32 := Nat.le_trans (List.countP_le_length) (by rw [List.length_take]; omega)
    have Rs := Rs.tabs k3 g1
    cases Rs with
    | @tup d _ _ ed rs =>
    cases rs with
    | cons q1 rs =>
    cases rs with
    | cons q2 rs =>
    cases rs; cases q1; cases q2
    refine ⟨d, _, rfl, SqT.of ed, rfl, _, _, rfl, _, _, rfl, rfl, ?_⟩
    walk_at "wp"
    have hk' : SqL K H' ks (keys.map V.str) ∨ SqT K H' ks (keys.map V.str) := hk.imp (fun h => (k1.trans k3).seqs hG h) fun h => (k1.trans k3).seqT hG h
    have ad : suN made keys z (ss.take (i + 1)) = suN made keys z (ss.take i) + if suC made keys z (.tup [.str ky, .str mk]) = true then 1 else 0 := by
      rw [tk]; unfold suN; rw [List.countP_append, List.countP_singleton]
    refine ⟨ks, _, rfl, hk', rfl, flat_strs keys, _, rfl, ?_⟩
    rw [if_neg Bool.false_ne_true, inV_strs]
    have ec : suC made keys z (.tup [.str ky, .str mk]) = (decide (ky ∈ keys) && hoV made (.str ky) (.str z) (.str mk)) := rfl
    split
    · rename_i h1
      obtain ⟨⟨dx, ho⟩, hd⟩ := hO
      have ho' := k3.get g1 (k1.get hG ho)
      have hd' := k3.get g1 (k1.get hG hd)
      refine ⟨dx, _, ho', rfl, o, dm, made, _, _, _, rfl, ⟨⟨dx, ho'⟩, hd'⟩, ⟨_, rfl⟩, ⟨_, rfl⟩, ⟨_, rfl⟩, fun H4 k4 => ⟨_, rfl, ?_⟩⟩
      rw [h1, Bool.true_and] at ec
      split
      · rename_i h2
        rw [ec, h2, if_pos rfl] at ad
        exact ⟨⟨by decide, by decide⟩, ⟨by omega, by omega⟩, by rw [ad, hn]; rfl, ⟨_, rfl⟩, k3.trans k4.in0, g3.kp0 k4⟩
      · rename_i h2
        rw [ec, if_neg h2] at ad
        exact ⟨by rw [ad, hn]; rfl, ⟨_, rfl⟩, k3.trans k4.in0, g3.kp0 k4⟩
    · rename_i h1
      have h1 : decide (ky ∈ keys) = false := by simpa using h1
      rw [ec, h1, Bool.false_and, if_neg (by decide)] at ad
      exact ⟨by rw [ad, hn]; rfl, ⟨_, rfl⟩, k3, g3⟩
  · subst hσ
    rw [hn, rr.len, List.take_length]
    exact q x z ss e o1 H' (k1.trans k3) g3
end

/-! k14, k17: each key once -/
abbrev s_law_once : Stmt := top 84
abbrev N_law_once : List Str := ["keys", "names", "key"]
theorem sc_law_once : FnScope N_law_once ["keys"] (defScope s_law_once) := ⟨rfl, rfl, rfl, by decide +kernel, rfl, by decide +kernel, by decide +kernel⟩
def spOnce (K : PySem.W.Frag) : Sp := fun vs H Q _ => ∃ (a : Addr) (xs : List Str), vs = [.ref a] ∧ SqL K H a (xs.map V.str) ∧ xs.length ≤ 1000 ∧ (∀ z ∈ xs, PyData.strOk z = true) ∧
  ∀ (ys : List Str) (p : Addr) (H' : Hp), asc ys = true → (∀ z, z ∈ ys ↔ z ∈ xs) → ys.length ≤ xs.length → H p = none → H' p = some (.lst (ys.map V.str)) → Kp [] H H' → Q (.ref p) H'
def lstS (l : List Str) : Str := l.getLast?.getD (Str.ofString "")
theorem asc_snocN {k : Str} : ∀ l : List Str, l ≠ [] → asc (l ++ [k]) = (asc l && lt (lstS l) k)
  | [], h => absurd rfl h
  | [x], _ => by
    show (lt x k && (true && true)) = ((true && true) && lt x k)
    cases lt x k <;> rfl
  | x :: y :: r, _ => by
    have ih := asc_snocN (k := k) (y :: r) (by simp)
    show (lt x y && asc ((y :: r) ++ [k])) = ((lt x y && asc (y :: r)) && lt (lstS (x :: y :: r)) k)
    rw [ih, show lstS (x :: y :: r) = lstS (y :: r) from rfl, Bool.and_assoc]
theorem rise_next : ∀ (p : Str) (l : List Str) (j : Nat) (x y : Str), PyProof.Rows.risingS p l = true → (p :: l)[j]? = some x → (p :: l)[j + 1]? = some y → lt y x = false
  | p, [], j, x, y, _, _, h => by cases j <;> cases h
  | p, z :: r, 0, x, y, h, hx, hy => by
    have h : (!PySem.Spec.ltCps z.cps.toList p.cps.toList && PyProof.Rows.risingS z r) = true := h
    rw [Bool.and_eq_true] at h
    cases hx; cases hy
    simpa [lt, TL.tl] using h.1
  | p, z :: r, j + 1, x, y, h, hx, hy => by
    have h : (!PySem.Spec.ltCps z.cps.toList p.cps.toList && PyProof.Rows.risingS z r) = true := h
    rw [Bool.and_eq_true] at h
    exact rise_next z r j x y h.2 hx hy
theorem sorted_next {l : List Str} {j : Nat} {x y : Str} (h : PyProof.Rows.sortedS l = true) (hx : l[j]? = some x) (hy : l[j + 1]? = some y) : lt y x = false := by
  cases l with
  | nil => cases hx
  | cons p r => exact rise_next p r j x y h hx hy
/-- what is kept of the first i -/
structure Kept (ys : List Str) (i : Nat) (zs : List Str) : Prop where
  a : asc zs = true
  m : ∀ z, z ∈ zs ↔ z ∈ ys.take i
  n : zs.length ≤ i
  l : (zs = [] ∧ i = 0) ∨ ∃ j, i = j + 1 ∧ zs ≠ [] ∧ ys[j]? = some (lstS zs)
theorem Kept.step {ys zs : List Str} {i : Nat} {y : Str} (k : Kept ys i zs) (s : PyProof.Rows.sortedS ys = true) (h : ys[i]? = some y) (d : zs = [] ∨ lstS zs ≠ y) : Kept ys (i + 1) (zs ++ [y]) := by
  have tk : ys.take (i + 1) = ys.take i ++ [y] := by rw [List.take_add_one, h]; rfl
  refine ⟨?_, fun z => ?_, by rw [List.length_append, List.length_singleton]; exact Nat.succ_le_succ k.n, .inr ⟨i, rfl, by simp, by unfold lstS; rw [List.getLast?_append]; simpa using h⟩⟩
  · rcases k.l with ⟨e, _⟩ | ⟨j, rfl, ne, hj⟩
    · rw [e]; rfl
    · rw [asc_snocN zs ne, k.a, Bool.true_and]
      rcases lt_tri (lstS zs) y with e | e | e
      · rcases d with d | d
        · exact absurd d ne
        · exact absurd e d
      · exact e
      · rw [sorted_next s hj h] at e; cases e
  · rw [tk, List.mem_append, List.mem_append, k.m]
theorem Kept.same {ys zs : List Str} {i : Nat} {y : Str} (k : Kept ys i zs) (h : ys[i]? = some y) (ne : zs ≠ []) (e : lstS zs = y) : Kept ys (i + 1) zs := by
  have tk : ys.take (i + 1) = ys.take i ++ [y] := by rw [List.take_add_one, h]; rfl
  have my : y ∈ zs := by
    rw [← e]
    unfold lstS
    cases hh : zs.getLast? with
    | none => exact absurd (List.getLast?_eq_none_iff.mp hh) ne
    | some q => exact List.mem_of_getLast? hh
  refine ⟨k.a, fun z => ?_, Nat.le_succ_of_le k.n, .inr ⟨i, rfl, ne, by rw [e]; exact h⟩⟩
  rw [tk, List.mem_append, ← k.m, List.mem_singleton]
  exact ⟨.inl, fun q => q.elim id fun q => by rw [q]; exact my⟩
section
variable {P : Program} {w : World} {K : PySem.W.Frag} {mg : Str → Option Value} {base : Heap} {f : Addr} {fd : FuncData}
theorem ok_once (F : Fun K "_law_once" "_law_once" s_law_once f fd) (B : Blt mg) (z1 : mg "sorted" = none) : FnOk P w K mg base CX0 1 f fd ["keys"] (spOnce K) := by
  refine F.ok sc_law_once (fun vs H Q E h => ?_) (fun cdv A outer s H vs Q E hr h => ?_)
  · obtain ⟨a, xs, rfl, _⟩ := h; rfl
  obtain ⟨a, xs, rfl, hS, hl, ho, q⟩ := h
  refine ⟨_, (pss_cons (ps_set (i := 1) sc_law_once.nd rfl (Or.inl rfl) (pe_lst pa_nil))
    (pss_cons (ps_for PassesOwn.never rfl (pi_list (pe_callB cr_sortedA rfl z1 (by decide +kernel) (pa_cons (pv 0) pa_nil))) (pg_name (i := 2) sc_law_once.nd rfl (Or.inl rfl)) (pss_one (ps_if (PW.pt (pw_or (pt_cmpR (op_eqD hr.units) (pv 1) (pe_lst pa_nil) (nomark _)) (pw_or1 (pt_cmpR op_ne (pe_ix ix_lM (pv 1) (pe_op op_sub (B.len_q (pa_cons (pv 1) pa_nil)) pe_int) (fun _ _ => rfl)) (pv 2) (nomark _))))) (pss_one (ps_expr (pe_bm PySem.F.plainAttrs_list PySem.F.slot_list_append PySem.F.type_list_append mt_append (pv 1) (pa_cons (pv 2) pa_nil)))) pss_nil)))
    (pss_one (ps_ret (pv 1))))), ?_⟩
  walk_at "wp"
  have lim : sizeLine = 16777216 := sizeLine_eq
  refine ⟨by omega, fun p hp => ?_⟩
  have hS1 : SqL K (upd H p (.lst [])) a (xs.map V.str) := (Kp.new hp _ : Kp [] _ _).seqL List.not_mem_nil hS
  refine ⟨_, rfl, a, xs, rfl, hS1, fun ys r perm srt hr2 => ⟨r, rfl, ⟨_, SqL.of upd_same⟩, ?_⟩⟩
  have hpr : p ≠ r := fun e => by rw [← e, upd_same] at hr2; cases hr2
  have lys : ys.length = xs.length := perm.length_eq
  refine for_list (K := K) (a := r) (xs := ys.map V.str) (fun i σ H' => ∃ zs : List Str, (∃ o : Option V, σ = [some (.ref a), some (.ref p), o]) ∧ Kept ys i zs ∧ H' p = some (.lst (zs.map V.str)) ∧ H' r = some (.lst (ys.map V.str)) ∧ Kp [] H H')
    ⟨[], ⟨_, rfl⟩, ⟨rfl, fun z => by simp, Nat.le_refl _, .inl ⟨rfl, rfl⟩⟩, by rw [upd_ne hpr]; exact upd_same, upd_same, (Kp.new hp _).trans (Kp.new hr2 _)⟩ (fun i σ H' _ ⟨_, _, _, _, e, _⟩ => SqL.of e) (fun i x σ H' hx ⟨zs, ⟨o, hσ⟩, kp, e1, e2, k⟩ => ?_) (fun σ H' ⟨zs, ⟨o, hσ⟩, kp, e1, e2, k⟩ => ?_)
  · subst hσ
    rw [List.getElem?_map] at hx
    obtain ⟨y, hy, rfl⟩ := Option.map_eq_some_iff.mp hx
    have li := (List.getElem?_eq_some_iff.mp hy).1
    have zn := kp.n
    walk_at "wp"
    have pn : p ∉ ([] : List Addr) := List.not_mem_nil
    have npr : p ≠ r := hpr
    have add : ∀ H2 : Hp, Kp [] H' H2 → (zs = [] ∨ lstS zs ≠ y) → tyV K "list" (V.ref p) H2 ∧ ∃ x, H2 p = some (HO.lst x) ∧ x.length < sizeLine ∧ (∃ o, some (V.str y) = o) ∧ ∃ x_1, Kept ys (i + 1) x_1 ∧ x ++ [V.str y] = List.map V.str x_1 ∧
        upd H2 p (HO.lst (x ++ [V.str y])) r = some (HO.lst (List.map V.str ys)) ∧ Kp [] H (upd H2 p (HO.lst (x ++ [V.str y]))) := fun H2 k2 d => by
      have f1 := k2.keep p _ pn e1
      have f2 := k2.keep r _ List.not_mem_nil e2
      exact ⟨.inl ⟨rfl, _, SqL.of f1⟩, _, f1, by rw [List.length_map]; omega, ⟨_, rfl⟩, _, kp.step srt hy d, by rw [List.map_append]; rfl, by rw [upd_ne (Ne.symm npr)]; exact f2, (k.trans k2).upd hp f1⟩
    refine ⟨by omega, fun p1 h1 => ?_⟩
    have k1 : Kp [] H' (upd H' p1 (.lst [])) := Kp.new h1 _
    have sok : ∀ z ∈ zs, PyData.strOk z = true := fun z hz => ho z (perm.mem_iff.mp (List.mem_of_mem_take ((kp.m z).mp hz)))
    refine ⟨.list (zs.map PyData.str), .list (([] : List Str).map PyData.str), .lst (SqL.of (k1.keep p _ pn e1)) (strs_dp zs), .lst (SqL.of upd_same) (strs_dp []), strs_shaped sok, strs_shaped (fun z hz => absurd hz List.not_mem_nil), _, rfl, ?_⟩
    rw [show PyData.eqv (.list (zs.map PyData.str)) (.list (([] : List Str).map PyData.str)) = decide (zs = []) from strs_eqv zs []]
    split
    · rename_i c
      exact add _ k1 (.inl (of_decide_eq_true c))
    · rename_i c
      have ne : zs ≠ [] := fun e => c (decide_eq_true e)
      have f1 := k1.keep p _ pn e1
      have lz : 0 < zs.length := List.length_pos_iff.mpr ne
      have ex : atI (zs.map V.str) (((zs.map V.str).length : Nat) - 1 : Int) = some (V.str (lstS zs)) := by
        rw [List.length_map, show ((zs.length : Nat) - 1 : Int) = ((zs.length - 1 : Nat) : Int) by omega]
        refine atI_nat ?_
        rw [List.getElem?_map]
        unfold lstS
        rw [List.getLast?_eq_getElem?, List.getElem?_eq_getElem (by omega)]
        rfl
      refine ⟨_, .inl (SqL.of f1), _, f1, _, ex, rfl, ?_⟩
      split
      · rename_i d
        exact add _ k1 (.inr fun e => d (by rw [e]))
      · rename_i d
        have d : V.str (lstS zs) = V.str y := Decidable.not_not.mp d
        exact ⟨⟨_, rfl⟩, zs, kp.same hy ne (V.str.inj d), f1, k1.keep r _ List.not_mem_nil e2, k.trans k1⟩
  · subst hσ
    walk_at "wp"
    rw [List.length_map] at kp
    have zn := kp.n
    exact q zs p H' kp.a (fun z => by rw [kp.m, List.take_length]; exact perm.mem_iff) (by omega) hp e1 k
end

/-! the law's own text and comparison -/
abbrev s_law_text : Stmt := top 87
abbrev N_law_text : List Str := ["value", "item"]
theorem sc_law_text : FnScope N_law_text ["value"] (defScope s_law_text) := ⟨rfl, rfl, rfl, by decide +kernel, rfl, by decide +kernel, by decide +kernel⟩
abbrev s_law_same : Stmt := top 88
abbrev N_law_same : List Str := ["actual", "expected", "k"]
theorem sc_law_same : FnScope N_law_same ["actual", "expected"] (defScope s_law_same) := ⟨rfl, rfl, rfl, by decide +kernel, rfl, by decide +kernel, by decide +kernel⟩
def spLText (n : Nat) : Sp := fun vs H Q _ => ∃ (v : V) (t : Tr), vs = [v] ∧ Rep H v t ∧ pl n t = true ∧ sml t = true ∧ (txt t).length ≤ 1000000 ∧ ∀ H', Kp [] H H' → Q (.str ⟨(txt t).toArray⟩) H'
def spLTextR : Nat → Sp
  | 0 => fun _ _ _ _ => False
  | n + 1 => spLText n
def spSame (n : Nat) : Sp := fun vs H Q _ => ∃ (u v : V) (a b : Tr), vs = [u, v] ∧ Rep H u a ∧ Rep H v b ∧ pl n b = true ∧ sml b = true ∧ (Q (.bl (same a b)) H)
def spSameR : Nat → Sp
  | 0 => fun _ _ _ _ => False
  | n + 1 => spSame n
section
variable {P : Program} {w : World} {K : PySem.W.Frag} {mg : Str → Option Value} {base : Heap} {f : Addr} {fd : FuncData}
theorem ok_ltext {n j : Nat} (F : Fun K "_law_text" "_law_text" s_law_text f fd) (B : Blt mg) (c_law_text : Cal P w K mg base CX0 j "_law_text" (spLTextR n)) : FnOk P w K mg base CX0 (j + 1) f fd ["value"] (spLText n) := by
  refine F.ok sc_law_text (fun vs H Q E h => ?_) (fun cdv A outer s H vs Q E hr h => ?_)
  · obtain ⟨_, _, rfl, _⟩ := h; rfl
  obtain ⟨v, t, rfl, hR, hp, hs, hl, q⟩ := h
  refine ⟨_, (pss_cons (ps_if (pt_val (B.isT (pv 0) B.v_tuple)) (pss_one (ps_ret (pe_op op_add_str (pe_op op_add_str pe_str (pe_join pe_str (pe_lc (own := [("item", 1)]) (g := gName 1) (tt := tYes) rfl sc_law_text.nd (pi_tup (pv 0)) (blkOk_by (own := [("item", 1)]) (N := N_law_text) (sc := defScope s_law_text) (by decide +kernel)) (fun _ _ _ _ _ => pg_name (i := 1) sc_law_text.nd rfl (Or.inl rfl)) (fun _ _ _ _ _ => pts_nil) (fun _ _ _ _ _ => (c_law_text.pe hr (pa_cons (pv 1) pa_nil)))))) pe_str))) pss_nil)
    (pss_cons (ps_if (pt_val (B.isT (pv 0) B.v_str)) (pss_one (ps_ret (pe_op op_add_str (pe_op op_add_str (B.str_i (pa_cons (B.len_s (pa_cons (pv 0) pa_nil)) pa_nil)) pe_str) (pv 0)))) pss_nil)
    (pss_one (ps_ret (pe_op op_add_str (B.str_i (pa_cons (pv 0) pa_nil)) pe_str))))), ?_⟩
  walk_at "wp"
  have lim : sizeLine = 16777216 := sizeLine_eq
  cases hR with
  | str z =>
    obtain ⟨a1, a2, a3, a4, a5⟩ := strT (of_decide_eq_true (show decide (z.length ≤ 10000000) = true from hs))
    refine ⟨_, rfl, ?_⟩
    rw [if_neg (by decide)]
    refine ⟨_, rfl, ?_⟩
    rw [if_pos (by decide)]
    refine ⟨z, rfl, a1, a2, a3, z, rfl, a4, ?_⟩
    rw [a5]
    exact q H (Kp.refl _ _)
  | int i =>
    have h : (decide (0 ≤ i) && decide (i ≤ 99999999999999999999)) = true := hp
    rw [Bool.and_eq_true, decide_eq_true_eq, decide_eq_true_eq] at h
    obtain ⟨a1, a2, a3⟩ := intT h.1 h.2
    refine ⟨_, rfl, ?_⟩
    rw [if_neg (by decide)]
    refine ⟨_, rfl, ?_⟩
    rw [if_neg (by decide)]
    refine ⟨i, rfl, a1, a2, ?_⟩
    rw [a3]
    exact q H (Kp.refl _ _)
  | oth _ _ _ _ => cases hp
  | tup e hA =>
    rename_i a xs ts
    cases n with
    | zero => cases hp
    | succ m =>
    have hp : pls m ts = true := hp
    have hs : (smls ts && decide (ts.length ≤ 1000000)) = true := hs
    rw [Bool.and_eq_true, decide_eq_true_eq] at hs
    have hl : (91 :: (txts ts ++ [93])).length ≤ 1000000 := hl
    rw [List.length_cons, List.length_append] at hl
    have hl : (txts ts).length + 1 + 1 ≤ 1000000 := hl
    have xl := hA.len
    refine ⟨_, tyN_tup e, ?_⟩
    rw [if_pos (by decide)]
    refine ⟨⟨_, rfl⟩, _, rfl, a, rfl, ⟨xs, SqT.of e⟩, fun D hD => ?_⟩
    refine lc_tup (K := K) (a := a) (xs := xs) (fun i H' => H' D = some (.lst ((tys (ts.take i)).map V.str)) ∧ Kp [] H H') ⟨upd_same, Kp.new hD _⟩ (fun i H' _ ⟨_, k⟩ => SqT.of (k.keep _ _ (by simp) e))
      (fun i x H' hx ⟨hD', k⟩ => ?_) (fun H' ⟨hD', k⟩ => ?_)
    · obtain ⟨t, ht, hRt⟩ := hA.get hx
      have hm := List.mem_of_getElem? ht
      have ml := mem_len hm
      refine ⟨rfl, ?_⟩
      simp only [tYes, if_true]
      refine ⟨_, rfl, x, t, rfl, hRt.kp0 k, pls_mem hp hm, smls_mem hs.1 hm, by omega, fun H5 k5 => ?_⟩
      have hD5 := k5.keep D _ (by simp) hD'
      have tl1 : (ts.take i).length ≤ 1000000 := by rw [List.length_take]; omega
      refine ⟨_, hD5, by rw [List.length_map]; unfold tys; rw [List.length_map]; omega, ?_, (k.trans k5).upd hD hD5⟩
      rw [upd_same, take_one ht, tys_app, List.map_append]
      rfl
    · rw [xl, List.take_length] at hD'
      obtain ⟨a1, a2, a3, a4⟩ := tupT ts (by omega)
      refine ⟨D, rfl, tys ts, .inl (SqL.of hD'), a1, a2, a3, ?_⟩
      rw [a4]
      exact q H' k
theorem ok_same {n j : Nat} (F : Fun K "_law_same" "_law_same" s_law_same f fd) (B : Blt mg) (c_law_same : Cal P w K mg base CX0 j "_law_same" (spSameR n)) : FnOk P w K mg base CX0 (j + 1) f fd ["actual", "expected"] (spSame n) := by
  refine F.ok sc_law_same (fun vs H Q E h => ?_) (fun cdv A outer s H vs Q E hr h => ?_)
  · obtain ⟨_, _, _, _, rfl, _⟩ := h; rfl
  obtain ⟨u, v, a, b, rfl, hA, hB, hp, hs, q⟩ := h
  refine ⟨_, (pss_cons (ps_if (pt_val (B.isT (pv 1) B.v_tuple)) (pss_cons (ps_if (PW.pt (pw_or (pt_not (pt_val (B.isT (pv 0) B.v_tuple))) (pw_or1 (pt_cmpR op_ne (B.len_t (pa_cons (pv 0) pa_nil)) (B.len_t (pa_cons (pv 1) pa_nil)) (nomark _))))) (pss_one (ps_ret pe_bl)) pss_nil)
    (pss_cons (ps_for PassesOwn.never rfl (B.range1 (pa_cons (B.len_t (pa_cons (pv 1) pa_nil)) pa_nil)) (pg_name (i := 2) sc_law_same.nd rfl (Or.inl rfl)) (pss_one (ps_if (pt_not (pt_val (c_law_same.pe hr (pa_cons (pe_ix ix_tM (pv 0) (pv 2) (fun _ _ => rfl)) (pa_cons (pe_ix ix_tM (pv 1) (pv 2) (fun _ _ => rfl)) pa_nil))))) (pss_one (ps_ret pe_bl)) pss_nil)))
    (pss_one (ps_ret pe_bl)))) pss_nil)
    (pss_cons (ps_if (pt_cmpR op_isN (pv 1) pe_non (nomark _)) (pss_one (ps_ret (pe_cmpR op_isN (pv 0) pe_non (nomark _)))) pss_nil)
    (pss_cons (ps_if (pt_val (B.isT (pv 1) B.v_str)) (pss_one (ps_ret (pe_and (B.isT (pv 0) B.v_str) (pe_one (pe_cmpR op_eq (pv 0) (pv 1) (nomark _)))))) pss_nil)
    (pss_one (ps_ret (pe_and (B.isT (pv 0) B.v_int) (pe_and (pe_not (B.isT (pv 0) B.v_bool)) (pe_one (pe_cmpR op_eq (pv 0) (pv 1) (nomark _)))))))))), ?_⟩
  walk_at "wp"
  have lim : sizeLine = 16777216 := sizeLine_eq
  obtain ⟨tu, hu⟩ := hA.ty
  cases hB with
  | oth _ _ _ _ => cases hp
  | tup e hBs =>
    rename_i ad ys ts
    cases n with
    | zero => cases hp
    | succ m =>
    have hp' : pls m ts = true := hp
    have hs : (smls ts && decide (ts.length ≤ 1000000)) = true := hs
    rw [Bool.and_eq_true, decide_eq_true_eq] at hs
    refine ⟨_, tyN_tup e, ?_⟩
    rw [if_pos (by decide)]
    refine ⟨tu, hu, ?_⟩
    cases c1 : isaB tu "tuple" with
    | false =>
      rw [if_pos rfl]
      have e0 : same a (.tup ts) = false := by
        cases a with
        | tup us => cases hA with | tup e2 _ => rw [tyN_tup e2] at hu; cases hu; exact absurd c1 (by decide)
        | _ => rfl
      rw [e0] at q
      exact q
    | true =>
      rw [if_neg (by decide)]
      obtain ⟨pu, xs, rfl, eu⟩ := isa_tuple hu c1
      obtain ⟨us, rfl, hAs⟩ : ∃ us, a = .tup us ∧ RepAll H xs us := by
        cases hA with
        | tup e2 h2 => rw [eu] at e2; cases e2; exact ⟨_, rfl, h2⟩
        | oth e1 n1 n2 n3 => rw [tyN_tup eu] at e1; cases e1; exact absurd rfl n3
      refine ⟨pu, rfl, xs, eu, ad, rfl, ys, e, ?_⟩
      have xl := hAs.len
      have yl := hBs.len
      by_cases c2 : xs.length = ys.length
      · rw [if_neg (by omega)]
        refine ⟨_, rfl, ad, rfl, ys, e, ys.length, rfl, by omega, by omega, ?_⟩
        refine for_range (lo := 0) (n := (ys.length : Int).toNat) (fun i σ H' => H' = H ∧ (∃ o, σ = [some (.ref pu), some (.ref ad), o]) ∧ sames (us.take i) (ts.take i) = true) ⟨rfl, ⟨_, rfl⟩, rfl⟩ (fun i σ H' hi ⟨hH, ⟨o, hσ⟩, sm⟩ => ?_) (fun σ H' ⟨hH, ⟨o, hσ⟩, sm⟩ => ?_)
        · subst hH
          subst hσ
          have hi : i < ys.length := by omega
          have gx : xs[i]? = some xs[i] := List.getElem?_eq_getElem (by omega)
          have gy : ys[i]? = some ys[i] := List.getElem?_eq_getElem hi
          obtain ⟨tu, ht, hRt⟩ := hAs.get gx
          obtain ⟨tv, hv, hRv⟩ := hBs.get gy
          have mv := List.mem_of_getElem? hv
          have ei : (0 : Int) + (i : Int) = ((i : Nat) : Int) := by omega
          refine ⟨_, rfl, _, rfl, pu, rfl, xs, eu, _, rfl, xs[i], ?_, _, rfl, _, rfl, ad, rfl, ys, e, _, rfl, ys[i], ?_, xs[i], ys[i], tu, tv, rfl, hRt, hRv, pls_mem hp' mv, smls_mem hs.1 mv, ?_⟩
          · rw [ei]; exact atI_nat gx
          · rw [ei]; exact atI_nat gy
          refine ⟨_, rfl, ?_⟩
          cases h : same tu tv with
          | false =>
            rw [if_pos (show (!false) = true from rfl)]
            have e0 : same (.tup us) (.tup ts) = false := by
              cases h2 : sames us ts with
              | false => exact h2
              | true =>
                have := sames_eq _ _ h2
                subst this
                rw [ht] at hv
                cases hv
                rw [same_refl m tu (pls_mem hp' mv)] at h
                cases h
            rw [e0] at q
            exact q
          | true =>
            rw [if_neg (by decide)]
            refine ⟨rfl, ⟨_, rfl⟩, ?_⟩
            rw [take_one ht, take_one hv]
            exact sames_cat h _ _ sm
        · subst hH
          subst hσ
          rw [Int.toNat_natCast, yl, List.take_length, List.take_of_length_le (by omega)] at sm
          have q : Q (.bl (sames us ts)) H' := q
          rw [sm] at q
          exact q
      · rw [if_pos (by omega)]
        have e0 : same (.tup us) (.tup ts) = false := by
          cases h : sames us ts with
          | false => exact h
          | true => exact absurd (sames_len h) (by omega)
        rw [e0] at q
        exact q
  | str z =>
    refine ⟨_, rfl, ?_⟩
    rw [if_neg (by decide), if_neg (by intro z; cases z)]
    refine ⟨_, rfl, ?_⟩
    rw [if_pos (by decide)]
    refine ⟨tu, hu, ?_⟩
    cases c1 : isaB tu "str" with
    | false =>
      rw [if_neg (by decide)]
      have e0 : same a (.str z) = false := by
        cases a with
        | str y => cases hA; cases hu; exact absurd c1 (by decide)
        | _ => rfl
      rw [e0] at q
      exact q
    | true =>
      rw [if_pos rfl]
      obtain ⟨y, rfl⟩ := isa_str hu c1
      have ea : a = .str y := by
        cases hA with
        | str => rfl
        | oth e1 n1 n2 n3 => cases e1; exact absurd rfl n2
      subst ea
      refine ⟨rfl, ?_⟩
      have e : decide (V.str y = V.str z) = decide (y = z) := by simp
      rw [e]
      exact q
  | int i =>
    refine ⟨_, rfl, ?_⟩
    rw [if_neg (by decide), if_neg (by intro z; cases z)]
    refine ⟨_, rfl, ?_⟩
    rw [if_neg (by decide)]
    refine ⟨tu, hu, ?_⟩
    cases c1 : isaB tu "int" with
    | false =>
      rw [if_neg (by decide)]
      have e0 : same a (.int i) = false := by
        cases a with
        | int y => cases hA; cases hu; exact absurd c1 (by decide)
        | _ => rfl
      rw [e0] at q
      exact q
    | true =>
      rw [if_pos rfl]
      refine ⟨tu, hu, ?_⟩
      rcases isa_int hu c1 with ⟨y, rfl⟩ | ⟨y, rfl⟩
      · have ea : a = .int y := by
          cases hA with
          | int => rfl
          | oth e1 n1 n2 n3 => cases e1; exact absurd rfl n1
        subst ea
        cases hu
        rw [if_pos (by decide)]
        refine ⟨rfl, ?_⟩
        have e : decide (V.int y = V.int i) = decide (y = i) := by simp
        rw [e]
        exact q
      · have e0 : same a (.int i) = false := by cases hA; rfl
        rw [e0] at q
        cases hu
        rw [if_neg (by decide)]
        exact q
end

/-! the laws' own keys, words, marks -/
abbrev s_law_says : Stmt := top 86
abbrev N_law_says : List Str := ["actual", "expected"]
theorem sc_law_says : FnScope N_law_says ["actual", "expected"] (defScope s_law_says) := ⟨rfl, rfl, rfl, by decide +kernel, rfl, by decide +kernel, by decide +kernel⟩
def spSays : Sp := fun vs H Q _ => ∃ a b : Bool, vs = [.bl a, .bl b] ∧ Q (.bl (a == b)) H
def spLDig : Sp := fun vs H Q _ => ∃ z : Str, vs = [.str z] ∧ z.length ≤ 1000000 ∧ Q (.str (dgs z)) H
def spLKey : Sp := fun vs H Q _ => ∃ s : Addr, vs = [.ref s] ∧ Strm H s ∧ ∀ (k : Str) (H' : Hp), kyS k = true → Kp [s] H H' → Strm H' s → Q (.str k) H'
def spLWord : Sp := fun vs H Q _ => ∃ s : Addr, vs = [.ref s] ∧ Strm H s ∧ ∀ (t : Str) (H' : Hp), prn t = true → t.length ≤ 60 → Kp [s] H H' → Strm H' s → Q (.str t) H'
def spCounts : Sp := fun vs H Q _ => ∃ a b : Int, vs = [.int a, .int b] ∧ Q (.bl (decide (a = b))) H
/-- the lowest k hexadecimal signs of n -/
def ldx : Nat → Nat → List Nat
  | 0, _ => []
  | k + 1, n => (Nat.digitChar (n / 16 ^ k % 16)).toNat :: ldx k n
theorem ldx_snoc : ∀ (k n : Nat), ldx (k + 1) n = ldx k (n / 16) ++ [(Nat.digitChar (n % 16)).toNat]
  | 0, n => by
    show [(Nat.digitChar (n / 16 ^ 0 % 16)).toNat] = _
    rw [Nat.pow_zero, Nat.div_one]; rfl
  | k + 1, n => by
    show (Nat.digitChar (n / 16 ^ (k + 1) % 16)).toNat :: ldx (k + 1) n = _
    rw [ldx_snoc k n]
    show _ = (Nat.digitChar (n / 16 / 16 ^ k % 16)).toNat :: ldx k (n / 16) ++ _
    rw [Nat.div_div_eq_div_mul, ← Nat.pow_succ']
    rfl
theorem ldx_zero : ∀ k, ldx k 0 = List.replicate k 48
  | 0 => rfl
  | k + 1 => by
    show (Nat.digitChar (0 / 16 ^ k % 16)).toNat :: ldx k 0 = _
    rw [Nat.zero_div, ldx_zero k]; rfl
theorem ldx_hx : ∀ (k n : Nat), n < 16 ^ (k + 1) → List.replicate (k + 1 - (hxT n).length) 48 ++ hxT n = ldx (k + 1) n
  | 0, n, h => by
    have h : n < 16 := h
    rw [hxT_one h, ldx_snoc, Nat.mod_eq_of_lt h]; rfl
  | k + 1, n, h => by
    rw [ldx_snoc]
    by_cases c : n < 16
    · rw [hxT_one c, Nat.div_eq_of_lt c, ldx_zero, Nat.mod_eq_of_lt c]
      rfl
    · have ih := ldx_hx k (n / 16) (by rw [Nat.pow_succ] at h; exact Nat.div_lt_of_lt_mul (by omega))
      rw [← ih, hxT_snoc c, List.length_append, List.append_assoc]
      congr 2
      show k + 1 + 1 - ((hxT (n / 16)).length + 1) = _
      omega
theorem ldx_len : ∀ (k n : Nat), (ldx k n).length = k
  | 0, _ => rfl
  | k + 1, n => by show (ldx k n).length + 1 = _; rw [ldx_len k n]
theorem hx_at : ∀ d : Nat, d < 16 → (Str.ofString "0123456789abcdef").cps.toList[d]? = some (Nat.digitChar d).toNat := by decide +kernel
theorem hx18_ldx {n : Nat} (h : n < dgD) : hx18 n = ldx 18 n := ldx_hx 17 n (Nat.lt_trans h (by decide))
section
variable {P : Program} {w : World} {K : PySem.W.Frag} {mg : Str → Option Value} {base : Heap} {f : Addr} {fd : FuncData}
theorem ok_says (F : Fun K "_law_says" "_law_says" s_law_says f fd) (B : Blt mg) : FnOk P w K mg base CX0 1 f fd ["actual", "expected"] spSays := by
  refine F.ok sc_law_says (fun vs H Q E h => ?_) (fun cdv A outer s H vs Q E hr h => ?_)
  · obtain ⟨a, b, rfl, _⟩ := h; rfl
  obtain ⟨a, b, rfl, q⟩ := h
  refine ⟨_, (pss_one (ps_ret (pe_and (B.isT (pv 0) B.v_bool) (pe_one (pe_cmpR op_eq (pv 0) (pv 1) (nomark _)))))), ?_⟩
  walk_at "wp"
  have e : decide (a = b) = (a == b) := by cases a <;> cases b <;> rfl
  rw [e]; exact q
end

/-! plain trees and their sizes -/
def okT (d : Nat) (t : Tr) (n : Nat) : Prop := pl d t = true ∧ sml t = true ∧ (txt t).length ≤ n
theorem okT_str {d m : Nat} {z : Str} (p : prn z = true) (h : z.length ≤ m) (hm : m ≤ 1000) : okT d (.str z) (m + 21) := by
  refine ⟨by cases d <;> exact p, decide_eq_true (show z.length ≤ 10000000 by omega), ?_⟩
  have := dig_len (n := z.length) (by omega)
  show (dig z.length ++ 58 :: TL.tl z).length ≤ _
  rw [List.length_append, List.length_cons, ← TL.len_tl]
  omega
theorem okT_int {d : Nat} {i : Int} (h0 : 0 ≤ i) (h1 : i ≤ 99999999999999999999) : okT d (.int i) 21 := by
  refine ⟨by cases d <;> exact (by rw [Bool.and_eq_true, decide_eq_true_eq, decide_eq_true_eq]; exact ⟨h0, h1⟩ : (decide (0 ≤ i) && decide (i ≤ 99999999999999999999)) = true), rfl, ?_⟩
  have := dig_len (n := i.toNat) (by omega)
  show (dig i.toNat ++ [46]).length ≤ _
  rw [List.length_append, List.length_singleton]
  omega
theorem okT.le {d n m : Nat} {t : Tr} (h : okT d t n) (l : n ≤ m) : okT d t m := ⟨h.1, h.2.1, Nat.le_trans h.2.2 l⟩
theorem okT_all {d n : Nat} : ∀ {ts : List Tr}, (∀ t ∈ ts, okT d t n) → pls d ts = true ∧ smls ts = true ∧ (txts ts).length ≤ ts.length * n
  | [], _ => ⟨rfl, rfl, by simp [txts]⟩
  | t :: ts, h => by
    obtain ⟨a1, a2, a3⟩ := h t List.mem_cons_self
    obtain ⟨b1, b2, b3⟩ := okT_all fun u m => h u (List.mem_cons_of_mem _ m)
    refine ⟨by show (pl d t && pls d ts) = true; rw [a1, b1]; rfl, by show (sml t && smls ts) = true; rw [a2, b2]; rfl, ?_⟩
    show (txt t ++ txts ts).length ≤ (ts.length + 1) * n
    rw [List.length_append, Nat.succ_mul]; omega
theorem okT_tup {d n m : Nat} {ts : List Tr} (h : ∀ t ∈ ts, okT d t n) (l : ts.length ≤ m) (hm : m ≤ 1000) : okT (d + 1) (.tup ts) (m * n + 2) := by
  obtain ⟨b1, b2, b3⟩ := okT_all h
  refine ⟨b1, by show (smls ts && decide (ts.length ≤ 1000000)) = true; rw [b2, decide_eq_true (by omega)]; rfl, ?_⟩
  show (91 :: (txts ts ++ [93])).length ≤ _
  rw [List.length_cons, List.length_append, List.length_singleton]
  have := Nat.mul_le_mul_right n l
  omega
/-- a pair, near a seal, or whatever -/
def Fine (H : Hp) (x : V) (d n : Nat) : Prop := ∃ t, Rep H x t ∧ okT d t n
theorem Fine.any {S : List Addr} {H H' : Hp} {x : V} {d n : Nat} (k : Kp S H H') (g : Fine H x d n) : Fine H' x d n :=
  let ⟨t, a, b⟩ := g
  ⟨t, a.any k (pl_pure _ _ b.1), b⟩
theorem Fine.le {H : Hp} {x : V} {d n m : Nat} (g : Fine H x d n) (l : n ≤ m) : Fine H x d m :=
  let ⟨t, a, b⟩ := g
  ⟨t, a, b.le l⟩
theorem fine_str {H : Hp} {z : Str} {d m : Nat} (p : prn z = true) (h : z.length ≤ m) (hm : m ≤ 1000) : Fine H (.str z) d (m + 21) := ⟨_, .str z, okT_str p h hm⟩
theorem fine_int {H : Hp} {i : Int} {d : Nat} (h0 : 0 ≤ i) (h1 : i ≤ 99999999999999999999) : Fine H (.int i) d 21 := ⟨_, .int i, okT_int h0 h1⟩
theorem atI_mem {xs : List V} {i : Int} (h0 : 0 ≤ i) (h1 : i < (xs.length : Nat)) : ∃ x, atI xs i = some x ∧ x ∈ xs := by
  obtain ⟨x, hx⟩ : ∃ x, xs[i.toNat]? = some x := ⟨_, List.getElem?_eq_getElem (by omega)⟩
  refine ⟨x, ?_, List.mem_of_getElem? hx⟩
  rw [show i = ((i.toNat : Nat) : Int) by omega]
  exact atI_nat hx
theorem fines {H : Hp} {d n : Nat} : ∀ {xs : List V}, (∀ x ∈ xs, Fine H x d n) → ∃ ts, RepAll H xs ts ∧ ∀ t ∈ ts, okT d t n
  | [], _ => ⟨[], .nil, fun t h => absurd h List.not_mem_nil⟩
  | x :: xs, h => by
    obtain ⟨t, a, b⟩ := h x List.mem_cons_self
    obtain ⟨ts, c, e⟩ := fines fun y m => h y (List.mem_cons_of_mem _ m)
    exact ⟨t :: ts, .cons a c, fun u m => by
      rcases List.mem_cons.mp m with rfl | m
      · exact b
      · exact e u m⟩
theorem fine_tup {H : Hp} {p : Addr} {xs : List V} {d n m : Nat} (e : H p = some (.tup xs)) (h : ∀ x ∈ xs, Fine H x d n) (l : xs.length ≤ m) (hm : m ≤ 1000) : Fine H (.ref p) (d + 1) (m * n + 2) := by
  obtain ⟨ts, r, a⟩ := fines h
  exact ⟨_, .tup e r, okT_tup a (by rw [← r.len]; exact l) hm⟩

/-! documents: tuples, roles -/
abbrev s_is_tuple_of : Stmt := top 58
abbrev N_is_tuple_of : List Str := ["value", "many"]
theorem sc_is_tuple_of : FnScope N_is_tuple_of ["value", "many"] (defScope s_is_tuple_of) := ⟨rfl, rfl, rfl, by decide +kernel, rfl, by decide +kernel, by decide +kernel⟩
abbrev s_is_tuple_within : Stmt := top 59
abbrev N_is_tuple_within : List Str := ["value", "least", "most"]
theorem sc_is_tuple_within : FnScope N_is_tuple_within ["value", "least", "most"] (defScope s_is_tuple_within) := ⟨rfl, rfl, rfl, by decide +kernel, rfl, by decide +kernel, by decide +kernel⟩
abbrev s_is_role : Stmt := top 49
abbrev N_is_role : List Str := ["value", "threshold", "keys"]
theorem sc_is_role : FnScope N_is_role ["value"] (defScope s_is_role) := ⟨rfl, rfl, rfl, by decide +kernel, rfl, by decide +kernel, by decide +kernel⟩
def kyD : PyData → Bool
  | .str z => kyS z
  | _ => false
/-- a role -/
def isRole (d : PyData) : Bool := tupB 2 2 d && (tupB 1 16 (ixD d 1) && ((itD (ixD d 1)).all kyD && (asc ((itD (ixD d 1)).map strD) && numB 1 ((itD (ixD d 1)).length : Nat) (ixD d 0))))
def spTOf : Sp := fun vs H Q _ => ∃ (v : V) (d : PyData) (m : Nat), vs = [v, .int m] ∧ Rq H v d ∧ Q (.bl (tupB m m d)) H
def spTIn : Sp := fun vs H Q _ => ∃ (v : V) (d : PyData) (a b : Nat), vs = [v, .int a, .int b] ∧ Rq H v d ∧ Q (.bl (tupB a b d)) H
def spDoc (f : PyData → Bool) (Ts : List Addr) : Sp := fun vs H Q _ => ∃ (v : V) (d : PyData), vs = [v] ∧ Rq H v d ∧ okD 12 d = true ∧ Tabs Ts H ∧ ∀ H', Kp Ts H H' → Tabs Ts H' → Q (.bl (f d)) H'
structure DcC (mg : Str → Option Value) : Prop where
  c_MOST_KEYS : ∃ t, mg "MOST_KEYS" = some (.int 16 t)
theorem kyD_of {H : Hp} {v : V} {d : PyData} (r : Rq H v d) : kyV v = kyD d := by cases r <;> rfl
theorem ok_szV {n : Nat} {H : Hp} {v : V} {d : PyData} (r : Rq H v d) (h : okD n d = true) : szV v := by
  cases r with
  | str z =>
    have := (okD_str.mp h).1
    show z.length ≤ sizeLine
    rw [sizeLine_eq]; omega
  | _ => exact True.intro
theorem kyD_s {d : PyData} (h : kyD d = true) : isS d = true := by cases d <;> first | rfl | cases h
theorem strOk_kyD {d : PyData} (h : kyD d = true) : PyData.strOk (strD d) = true := by
  cases d with
  | str z => exact strOk_ky h
  | _ => cases h
theorem inV_rq {lo hi : Int} {H : Hp} {v : V} {d : PyData} (r : Rq H v d) : inV lo hi v = numB lo hi d := by cases r <;> rfl
section
variable {P : Program} {w : World} {K : PySem.W.Frag} {mg : Str → Option Value} {base : Heap} {f : Addr} {fd : FuncData}
theorem ok_tof (F : Fun K "_is_tuple_of" "_is_tuple_of" s_is_tuple_of f fd) (B : Blt mg) : FnOk P w K mg base CX0 1 f fd ["value", "many"] spTOf := by
  refine F.ok sc_is_tuple_of (fun vs H Q E h => ?_) (fun cdv A outer s H vs Q E hr h => ?_)
  · obtain ⟨v, d, m, rfl, _⟩ := h; rfl
  obtain ⟨v, d, m, rfl, hR, q⟩ := h
  refine ⟨_, (pss_one (ps_ret (pe_and (B.isT (pv 0) B.v_tuple) (pe_one (pe_cmpR op_eq (B.len_q (pa_cons (pv 0) pa_nil)) (pv 1) (nomark _)))))), ?_⟩
  walk_at "wp"
  refine ⟨_, hR.ty, ?_⟩
  cases hR with
  | tup e r =>
    rename_i a xs ds
    dsimp only [tyD]
    walk_at "wp"
    refine ⟨xs, .inr (SqT.of e), ?_⟩
    rw [show decide ((xs.length : Int) = (m : Int)) = tupB m m (.tuple ds) by
      rw [r.len]
      show _ = (decide (m ≤ ds.length) && decide (ds.length ≤ m))
      rw [Bool.eq_iff_iff, Bool.and_eq_true, decide_eq_true_eq, decide_eq_true_eq, decide_eq_true_eq]
      omega]
    exact q
  | _ => dsimp only [tyD]; walk_at "wp"; exact q
theorem ok_tin (F : Fun K "_is_tuple_within" "_is_tuple_within" s_is_tuple_within f fd) (B : Blt mg) : FnOk P w K mg base CX0 1 f fd ["value", "least", "most"] spTIn := by
  refine F.ok sc_is_tuple_within (fun vs H Q E h => ?_) (fun cdv A outer s H vs Q E hr h => ?_)
  · obtain ⟨v, d, a, b, rfl, _⟩ := h; rfl
  obtain ⟨v, d, a, b, rfl, hR, q⟩ := h
  refine ⟨_, (pss_one (ps_ret (pe_and (B.isT (pv 0) B.v_tuple) (pe_one (pe_chain op_le op_le (pv 1) (B.len_q (pa_cons (pv 0) pa_nil)) (pv 2)))))), ?_⟩
  walk_at "wp"
  refine ⟨_, hR.ty, ?_⟩
  cases hR with
  | tup e r =>
    rename_i p xs ds
    dsimp only [tyD]
    walk_at "wp"
    refine ⟨xs, .inr (SqT.of e), ?_⟩
    rw [r.len]
    have y : Q (.bl (decide (a ≤ ds.length) && decide (ds.length ≤ b))) H := q
    split
    · rename_i c
      rw [decide_eq_true (by omega), Bool.true_and] at y
      rw [show decide ((ds.length : Int) ≤ (b : Int)) = decide (ds.length ≤ b) from decide_eq_decide.mpr (by omega)]
      exact y
    · rename_i c
      rw [decide_eq_false (by omega), Bool.false_and] at y
      exact y
  | _ => dsimp only [tyD]; walk_at "wp"; exact q
theorem ok_role {oc kV doc pm ct : Value} {od an : Option Addr} {osl : Array (Option Value)} {c Pt Pc : Addr} {Ts : List Addr} (B : Blt mg) (TB : GxR.TabB base mg c Pt) (D : DcC mg) (mt : Pt ∈ Ts) (mc : Pc ∈ Ts)
    (lk : K.lookup f = some ⟨oc, od, .func (PySem.W.fnOf "is_role" "is_role" (defArgs s_is_role) (defBody s_is_role) (defScope s_is_role) .none kV doc pm an (.ref c) ct), osl⟩) (hcd : PySem.W.codeIn K (.ref c) "is_role" = true)
    (c_is_tuple_of : Cal P w K mg base CX0 1 "_is_tuple_of" spTOf) (c_is_tuple_within : Cal P w K mg base CX0 1 "_is_tuple_within" spTIn) (c_is_key : Cal P w K mg base CX0 4 "is_key" (spNm kyV Pc)) (c_ascends : Cal P w K mg base CX0 1 "ascends" (spAsc K)) (c_is_integer : Cal P w K mg base CX0 1 "is_integer" spIntg) :
    FnOk P w K mg base CX0 8 f (PySem.W.fnOf "is_role" "is_role" (defArgs s_is_role) (defBody s_is_role) (defScope s_is_role) .none kV doc pm an (.ref c) ct) ["value"] (spDoc isRole Ts) := by
  refine fn_of lk hcd sc_is_role (fun vs H Q E h => ?_) (fun A outer s H vs Q E hr h => ?_)
  · obtain ⟨v, d, rfl, _⟩ := h; rfl
  obtain ⟨v, d, rfl, hR, ho, hG, q⟩ := h
  refine ⟨_, PSs.nox (pss_cons (ps_if (pt_not (pt_val (c_is_tuple_of.pe hr (pa_cons (pv 0) (pa_cons pe_int pa_nil))))) (pss_one (ps_ret pe_bl)) pss_nil)
    (pss_cons (ps_asg (pv 0) (pg_tup rfl (pgs_cons (pg_name (i := 1) sc_is_role.nd rfl (Or.inl rfl)) (pgs_cons (pg_name (i := 2) sc_is_role.nd rfl (Or.inl rfl)) pgs_nil))))
    (pss_cons (ps_if (PW.pt (pw_or (pt_not (pt_val (c_is_tuple_within.pe hr (pa_cons (pv 2) (pa_cons pe_int (pa_cons (pe_cE D.c_MOST_KEYS) pa_nil)))))) (pw_or1 (pt_not (pt_val (pe_allG (N := ["key"]) (nt := 1) (fr := []) rfl hr B TB rfl (gnOf (by decide +kernel)) (by show freeOk _ (defScope s_is_role) = true; decide +kernel) (by show capOk _ _ _ N_is_role _ (defScope s_is_role) = true; decide +kernel)
      (pi_tup (pv 2)) (fun _ _ _ _ _ hr => (pg_name (i := 0) (by show List.Nodup (["key"] : List Str); decide +kernel) rfl (Or.inl rfl))) (fun _ _ _ _ _ hr => pts_nil) (fun _ _ _ _ _ hr => (c_is_key.pe hr (pa_cons (pv 0) pa_nil))) (fun _ => rfl))))))) (pss_one (ps_ret pe_bl)) pss_nil)
    (pss_one (ps_ret (pe_and (c_ascends.pe hr (pa_cons (B.list_q (pa_cons (pv 2) pa_nil)) pa_nil)) (pe_one (c_is_integer.pe hr (pa_cons (pv 1) (pa_cons pe_int (pa_cons (B.len_q (pa_cons (pv 2) pa_nil)) pa_nil))))))))))), ?_⟩
  walk_at "wp"
  have off : isRole d = false → ∀ H', Kp Ts H H' → Tabs Ts H' → Q (.bl false) H' := fun h H' k g => by have y := q H' k g; rw [h] at y; exact y
  refine ⟨v, d, 2, rfl, hR, _, rfl, ?_⟩
  cases h1 : tupB 2 2 d with
  | false =>
    rw [if_pos rfl]
    exact off (by unfold isRole; rw [h1]; rfl) H (Kp.refl _ _) hG
  | true =>
  obtain ⟨p, xs, ds, rfl, ep, rfl, r, l1, l2⟩ := tupB_of hR h1
  obtain ⟨x0, x1, d0, d1, rfl, rfl, R0, R1⟩ := rq2 r (by omega)
  rw [if_neg (by decide)]
  obtain ⟨o1, o2⟩ := okD_tup.mp ho
  have ok0 := o2 d0 List.mem_cons_self
  have ok1 := o2 d1 (List.mem_cons_of_mem _ List.mem_cons_self)
  refine ⟨p, _, rfl, SqT.of ep, rfl, x0, _, rfl, x1, _, rfl, rfl, ?_⟩
  walk_at "wp"
  have e1 : isRole (.tuple [d0, d1]) = (tupB 1 16 d1 && ((itD d1).all kyD && (asc ((itD d1).map strD) && numB 1 ((itD d1).length : Nat) d0))) := rfl
  rw [e1] at off q
  refine ⟨x1, d1, 1, 16, rfl, R1, _, rfl, ?_⟩
  cases h2 : tupB 1 16 d1 with
  | false =>
    rw [if_pos rfl]
    exact off (by rw [h2]; rfl) H (Kp.refl _ _) hG
  | true =>
  obtain ⟨b, ys, es, rfl, eb, rfl, rr, l3, l4⟩ := tupB_of R1 h2
  rw [h2, Bool.true_and, show itD (.tuple es) = es from rfl] at off q
  obtain ⟨o3, o4⟩ := okD_tup.mp ok1
  rw [if_neg (by decide)]
  refine ⟨_, rfl, b, rfl, ⟨ys, SqT.of eb⟩, hG _ mt, fun H2 hT => ?_⟩
  have g2 := hG.tab hT mt
  have k2 : Kp Ts H H2 := Kp.tab (hG _ mt) hT mt
  refine all_rq (K := K) (o := none) (cap := []) (f := kyD) (k2.get hG eb) (rr.tabs k2 hG) g2 (fun x d H' R hx md k3 g3 hq => ?_) (fun H3 k3 g3 h3 => ?_) (fun σ H3 k3 g3 h3 => ?_)
  · exact ⟨x, rfl, x, rfl, g3 _ mc, hx.tyx, ok_szV hx (o4 d md), fun H4 k4 g4 => by rw [kyD_of hx]; exact hq H4 (k4.in1 mc) (g3.kp1 k4 g4)⟩
  · refine ⟨_, rfl, ?_⟩
    rw [if_pos rfl]
    exact off (by rw [h3]; rfl) H3 (k2.trans k3) g3
  refine ⟨_, rfl, ?_⟩
  rw [if_neg (by decide)]
  have K3 := k2.trans k3
  rw [h3, Bool.true_and] at off q
  have al := List.all_eq_true.mp h3
  have ey : ys = (es.map strD).map V.str := rqa_strs rr fun d m => kyD_s (al d m)
  have e3 := K3.get hG eb
  refine ⟨b, rfl, ys, .inr (SqT.of e3), fun l hl => ⟨l, es.map strD, rfl, by rw [← ey]; exact SqL.of upd_same, by rw [List.length_map]; omega, fun z hz => ?_, fun H4 k4 => ⟨_, rfl, ?_⟩⟩⟩
  · obtain ⟨d, m, rfl⟩ := List.mem_map.mp hz
    exact strOk_kyD (al d m)
  have k5 : Kp [] H3 H4 := (Kp.new hl _).trans k4
  have g4 := g3.kp0 k5
  cases h4 : asc (es.map strD) with
  | false =>
    rw [if_neg (by decide)]
    exact off (by rw [h4]; rfl) H4 (K3.trans k5.in0) g4
  | true =>
  rw [if_pos rfl]
  rw [h4, Bool.true_and] at off q
  refine ⟨b, rfl, ys, .inr (SqT.of (k5.tup _ _ e3)), x0, _, _, rfl, ((R0.tabs K3 hG).kp0 k5).tyx, ?_⟩
  rw [inV_rq R0, rr.len]
  exact q H4 (K3.trans k5.in0) g4
end

/-! what a law asks of a value: numbers, tuples, texts that rise, roles -/
def spLAll0 : Sp := fun vs H Q _ => ∃ z m : Str, vs = [.str z, .str m] ∧ Q (.bl (inT m z)) H
def spLAll : Sp := fun vs H Q _ => ∃ z m : Str, vs = [.str z, .str m] ∧ z.length ≤ 10000000 ∧ Q (.bl (inT m z)) H
def spLNum : Sp := fun vs H Q _ => ∃ (v : V) (d : PyData) (lo : Int), vs = [v, .int lo] ∧ Rq H v d ∧ Q (.bl (numB lo 1000000000000 d)) H
def spRise (K : PySem.W.Frag) : Sp := fun vs H Q _ => ∃ (p : Addr) (xs : List Str), vs = [.ref p] ∧ (SqL K H p (xs.map V.str) ∨ SqT K H p (xs.map V.str)) ∧ xs.length ≤ 1000 ∧ Q (.bl (asc xs)) H
def spAsk (f : PyData → Bool) : Sp := fun vs H Q _ => ∃ (v : V) (d : PyData), vs = [v] ∧ Rq H v d ∧ okD 12 d = true ∧ Q (.bl (f d)) H
def spAskN (f : PyData → Bool) : Sp := fun vs H Q _ => ∃ (v : V) (d : PyData), vs = [v] ∧ Rq H v d ∧ okD 12 d = true ∧ ∀ H', Kp [] H H' → Q (.bl (f d)) H'
section
variable {P : Program} {w : World} {K : PySem.W.Frag} {mg : Str → Option Value} {base : Heap} {f : Addr} {fd : FuncData}
theorem asc_takeN : ∀ (n : Nat) {l : List Str}, asc l = true → asc (l.take n) = true
  | 0, _, _ => rfl
  | _ + 1, [], _ => rfl
  | n + 1, x :: r, h => by
    obtain ⟨h1, h2⟩ := asc_cons.mp h
    exact asc_cons.mpr ⟨fun y m => h1 y (List.mem_of_mem_take m), asc_takeN n h2⟩
end

/-! documents as trees, and their texts -/
mutual
def trD : PyData → Tr
  | .int i => .int i
  | .str z => .str z
  | .tuple ds => .tup (trDs ds)
  | _ => .oth .non
def trDs : List PyData → List Tr
  | [] => []
  | d :: ds => trD d :: trDs ds
end
mutual
def dT : Tr → PyData
  | .int i => .int i
  | .str z => .str z
  | .tup ts => .tuple (dTs ts)
  | .oth _ => .none
def dTs : List Tr → List PyData
  | [] => []
  | t :: ts => dT t :: dTs ts
end
theorem trDs_app : ∀ a b : List PyData, trDs (a ++ b) = trDs a ++ trDs b
  | [], _ => rfl
  | d :: a, b => by
    show trD d :: trDs (a ++ b) = trD d :: (trDs a ++ trDs b)
    rw [trDs_app a b]
/-- the length of the text -/
def szT (d : PyData) : Nat := (txt (trD d)).length
def szTs (ds : List PyData) : Nat := (txts (trDs ds)).length
theorem szTs_cons (d : PyData) (ds : List PyData) : szTs (d :: ds) = szT d + szTs ds := by
  show (txt (trD d) ++ txts (trDs ds)).length = _
  rw [List.length_append]; rfl
theorem szTs_app : ∀ a b : List PyData, szTs (a ++ b) = szTs a + szTs b
  | [], b => by show szTs b = 0 + szTs b; omega
  | d :: a, b => by
    rw [List.cons_append, szTs_cons, szTs_cons, szTs_app a b]; omega
theorem szT_tup (ds : List PyData) : szT (.tuple ds) = szTs ds + 2 := by
  show (91 :: (txts (trDs ds) ++ [93])).length = _
  rw [List.length_cons, List.length_append]; rfl
theorem szTs_rev : ∀ a : List PyData, szTs a.reverse = szTs a
  | [] => rfl
  | d :: a => by rw [List.reverse_cons, szTs_app, szTs_cons, szTs_rev a, szTs_cons]; show szTs a + (szT d + 0) = _; omega
theorem szTs_take : ∀ (a : List PyData) (n : Nat), szTs (a.take n) ≤ szTs a
  | [], n => by rw [List.take_nil]; exact Nat.le_refl _
  | d :: a, 0 => by show 0 ≤ _; omega
  | d :: a, n + 1 => by rw [List.take_succ_cons, szTs_cons, szTs_cons]; have := szTs_take a n; omega
theorem szTs_drop : ∀ (a : List PyData) (n : Nat), szTs (a.drop n) ≤ szTs a
  | [], n => by rw [List.drop_nil]; exact Nat.le_refl _
  | d :: a, 0 => Nat.le_refl _
  | d :: a, n + 1 => by rw [List.drop_succ_cons, szTs_cons]; have := szTs_drop a n; omega
theorem szTs_cut (a : List PyData) (lo hi : Option Int) : szTs (cutD a lo hi) ≤ szTs a := Nat.le_trans (szTs_take _ _) (szTs_drop _ _)
theorem szT_int {i : Int} (h : i ≤ 99999999999999999999) : szT (.int i) ≤ 21 := by
  show (dig i.toNat ++ [46]).length ≤ _
  rw [List.length_append]
  have : (dig i.toNat).length ≤ 20 := TL.numL_len (by decide) (show i.toNat < 10 ^ 20 by omega)
  show _ + 1 ≤ _
  omega
theorem szT_str {z : Str} (h : z.length < 10 ^ 20) : z.length + 1 ≤ szT (.str z) ∧ szT (.str z) ≤ z.length + 21 := by
  have e : szT (.str z) = (dig z.length).length + (z.length + 1) := by
    show (dig z.length ++ 58 :: TL.tl z).length = _
    rw [List.length_append, List.length_cons, ← TL.len_tl]
  have : (dig z.length).length ≤ 20 := TL.numL_len (by decide) h
  omega
theorem cutD_to (ds : List PyData) (k : Nat) (h : k ≤ ds.length) : cutD ds none (some (k : Int)) = ds.take k := by
  unfold cutD
  rw [HT.sIx_nat, HT.sIx_none, Nat.min_eq_left h]
  rfl
theorem cutD_from (ds : List PyData) (k : Nat) (h : k ≤ ds.length) : cutD ds (some (k : Int)) none = ds.drop k := by
  unfold cutD
  rw [HT.sIx_nat, HT.sIx_none, Nat.min_eq_left h]
  exact List.take_of_length_le (by rw [List.length_drop]; exact Nat.le_refl _)
theorem szTs_split : ∀ (ds : List PyData) (k : Nat), k < ds.length → szTs (ds.take k) + szT (ds.getD k .none) + szTs (ds.drop (k + 1)) = szTs ds
  | [], k, h => absurd h (by simp)
  | d :: ds, 0, _ => by rw [szTs_cons]; show 0 + szT d + szTs ds = _; omega
  | d :: ds, k + 1, h => by
    have := szTs_split ds k (by simp only [List.length_cons] at h; omega)
    rw [List.take_succ_cons, List.drop_succ_cons, szTs_cons, szTs_cons]
    have e : (d :: ds).getD (k + 1) .none = ds.getD k .none := rfl
    rw [e]
    omega

/-! a role that a law draws -/
/-- a role's keys -/
structure RoleOk (t : Int) (ks : List Str) : Prop where
  t1 : 1 ≤ t
  t2 : t ≤ (ks.length : Nat)
  n : ks.length ≤ 16
  ky : ∀ k ∈ ks, kyS k = true
  a : asc ks = true
def roleD (t : Int) (ks : List Str) : PyData := .tuple [.int t, .tuple (ks.map .str)]
theorem strs_rq {H : Hp} : ∀ ks : List Str, RqA H (ks.map V.str) (ks.map PyData.str)
  | [] => .nil
  | k :: r => .cons (.str k) (strs_rq r)
theorem ky_low {k : Str} (h : kyS k = true) : ∀ c ∈ k.cps.toList, c < 128 := fun c hc => by
  have hl : k.cps.toList.length = k.length := cps_lenP k
  unfold kyS at h
  simp only [Bool.and_eq_true, decide_eq_true_eq] at h
  obtain ⟨⟨⟨h1, h2⟩, h3⟩, h4⟩ := h
  cases e : k.cps.toList with
  | nil => rw [e] at hc; cases hc
  | cons d r =>
    have hc : c ∈ d :: r := by rw [← e]; exact hc
    rw [e] at h3
    have h3 : d = 107 := Option.some.inj h3
    rcases List.mem_cons.mp hc with hc | hc
    · omega
    · unfold inT at h4
      rw [List.all_eq_true] at h4
      have hm : c ∈ (cutS k (some 1) none).cps.toList := by
        show c ∈ (k.cps.toList.drop (HT.sIx k.length 0 (some ((1 : Nat) : Int)))).take (HT.sIx k.length k.length none - HT.sIx k.length 0 (some ((1 : Nat) : Int)))
        rw [HT.sIx_nat, HT.sIx_none, e, show min 1 k.length = 1 by omega, List.take_of_length_le (by rw [List.length_drop, ← e, hl]; exact Nat.le_refl _)]
        exact hc
      have := of_decide_eq_true (h4 c hm)
      exact (by decide +kernel : ∀ c ∈ (Str.ofString "0123456789").cps.toList, c < 128) c this
theorem RoleOk.rq {t : Int} {ks : List Str} {H : Hp} {p b : Addr} (e : H p = some (.tup [.int t, .ref b])) (e2 : H b = some (.tup (ks.map V.str))) : Rq H (.ref p) (roleD t ks) := .tup e (.cons (.int t) (.cons (.tup e2 (strs_rq ks)) .nil))
theorem RoleOk.inD {t : Int} {ks : List Str} (h : RoleOk t ks) (n : Nat) : inD (n + 2) (roleD t ks) = true := by
  refine inD_tup.mpr ⟨by show 2 ≤ 100; decide, fun d m => ?_⟩
  have := h.n
  have := h.t1
  have := h.t2
  rcases List.mem_cons.mp m with rfl | m
  · exact inD_int.mpr (by omega)
  · rw [List.mem_singleton.mp m]
    refine inD_tup.mpr ⟨by rw [List.length_map]; omega, fun d m => ?_⟩
    obtain ⟨k, mk, rfl⟩ := List.mem_map.mp m
    exact inD_str.mpr ⟨by have := ky_len (h.ky k mk); omega, ky_low (h.ky k mk)⟩
theorem strD_map (ks : List Str) : (ks.map PyData.str).map strD = ks := by
  rw [List.map_map]
  exact List.map_id ks
theorem RoleOk.is {t : Int} {ks : List Str} (h : RoleOk t ks) : isRole (roleD t ks) = true := by
  have h1 := h.t1
  have h2 := h.t2
  have h3 := h.n
  show (true && (tupB 1 16 (.tuple (ks.map .str)) && ((ks.map PyData.str).all kyD && (asc ((ks.map PyData.str).map strD) && numB 1 ((ks.map PyData.str).length : Nat) (.int t))))) = true
  rw [show tupB 1 16 (.tuple (ks.map .str)) = true by
    show (decide (1 ≤ (ks.map PyData.str).length) && decide ((ks.map PyData.str).length ≤ 16)) = true
    rw [List.length_map, decide_eq_true (by omega), decide_eq_true (by omega)]; rfl]
  rw [show (ks.map PyData.str).all kyD = true by
    rw [List.all_map, List.all_eq_true]
    exact fun k m => h.ky k m]
  rw [strD_map, h.a, List.length_map]
  show (decide (1 ≤ t) && decide (t ≤ (ks.length : Nat))) = true
  rw [decide_eq_true h1, decide_eq_true h2]; rfl
def spLRole : Sp := fun vs H Q _ => ∃ s : Addr, vs = [.ref s] ∧ Strm H s ∧ ∀ (p b : Addr) (t : Int) (ks : List Str) (H' : Hp), H' p = some (.tup [.int t, .ref b]) → H' b = some (.tup (ks.map V.str)) → RoleOk t ks → Kp [s] H H' → Strm H' s → Q (.ref p) H'
section
variable {P : Program} {w : World} {K : PySem.W.Frag} {mg : Str → Option Value} {base : Heap} {f : Addr} {fd : FuncData}
end

/-! list names that a law draws -/
def lnD : PyData → Bool
  | .str z => lnS z
  | _ => false
theorem lnD_of {H : Hp} {v : V} {d : PyData} (r : Rq H v d) : lnV v = lnD d := by cases r <;> rfl
theorem ln_low {z : Str} (h : lnS z = true) : z.length ≤ 12 ∧ ∀ c ∈ z.cps.toList, c < 128 := by
  unfold lnS at h
  simp only [Bool.and_eq_true, decide_eq_true_eq] at h
  refine ⟨h.1.2, fun c hc => ?_⟩
  have h2 := h.2
  unfold inT at h2
  rw [List.all_eq_true] at h2
  exact (by decide +kernel : ∀ c ∈ (Str.ofString "abcdefghijklmnopqrstuvwxyz").cps.toList, c < 128) c (of_decide_eq_true (h2 c hc))
def spLName : Sp := fun vs H Q _ => ∃ s : Addr, vs = [.ref s] ∧ Strm H s ∧ ∀ (k : Str) (H' : Hp), lnS k = true → Kp [s] H H' → Strm H' s → Q (.str k) H'
section
variable {P : Program} {w : World} {K : PySem.W.Frag} {mg : Str → Option Value} {base : Heap} {f : Addr} {fd : FuncData}
end

/-! [f(stream, k) for k in a list of texts] -/
inductive Al (P : Str → PyData → Prop) : List Str → List PyData → Prop
  | nil : Al P [] []
  | cons {k : Str} {ks : List Str} {d : PyData} {ds : List PyData} : P k d → Al P ks ds → Al P (k :: ks) (d :: ds)
theorem Al.app {P : Str → PyData → Prop} : ∀ {ks js : List Str} {ds es : List PyData}, Al P ks ds → Al P js es → Al P (ks ++ js) (ds ++ es)
  | _, _, _, _, .nil, h => h
  | _, _, _, _, .cons a b, h => .cons a (b.app h)
theorem Al.len {P : Str → PyData → Prop} : ∀ {ks : List Str} {ds : List PyData}, Al P ks ds → ks.length = ds.length
  | _, _, .nil => rfl
  | _, _, .cons _ b => congrArg (· + 1) b.len
theorem Al.mem {P : Str → PyData → Prop} : ∀ {ks : List Str} {ds : List PyData}, Al P ks ds → ∀ d ∈ ds, ∃ k ∈ ks, P k d
  | _, _, .nil, _, h => absurd h List.not_mem_nil
  | _, _, .cons a b, d, h => by
    rcases List.mem_cons.mp h with rfl | h
    · exact ⟨_, List.mem_cons_self, a⟩
    · obtain ⟨k, m, p⟩ := b.mem d h
      exact ⟨k, List.mem_cons_of_mem _ m, p⟩
theorem Al.map {P : Str → PyData → Prop} {f : PyData → Str} (hf : ∀ k d, P k d → f d = k) : ∀ {ks : List Str} {ds : List PyData}, Al P ks ds → ds.map f = ks
  | _, _, .nil => rfl
  | _, _, .cons a b => by rw [List.map_cons, hf _ _ a, b.map hf]
theorem draw_over {K : PySem.W.Frag} {σ : St} {H0 : Hp} {R : VK} {tl te : TE} {ks : Nat} {st : Addr} (Pr : Addr → List Str → Hp → Prop) (Pd : Str → PyData → Prop) (Pp : ∀ k d, Pd k d → purD d = true)
    (hl : ∀ R : VK, (∀ r xs H, Pr r xs H → R (.ref r) H) → tl σ H0 R) (hP : ∀ r xs H, Pr r xs H → H r = some (.lst (xs.map V.str)) ∧ xs.length ≤ 1000 ∧ Strm H st)
    (hw : ∀ x : V, wipe ((wipe σ [ks]).set ks (some x)) [ks] = wipe σ [ks])
    (he : ∀ (r : Addr) (xs : List Str) (H : Hp) (k : Str) (H2 : Hp) (R : VK), Pr r xs H → k ∈ xs → Strm H2 st → (∀ (v : V) (d : PyData) (H3 : Hp), Rq H3 v d → Pd k d → Kp [st] H2 H3 → Strm H3 st → R v H3) → te ((wipe σ [ks]).set ks (some (.str k))) H2 R)
    (q : ∀ (r : Addr) (xs : List Str) (H : Hp) (D : Addr) (vs : List V) (ds : List PyData) (H' : Hp), Pr r xs H → H' D = some (.lst vs) → RqA H' vs ds → Al Pd xs ds → Kp [st] H H' → Strm H' st → H D = none → R (.ref D) H') :
    tLc (iList K tl) (gName ks) tYes te [ks] σ H0 R := by
  refine hl _ fun r xs H hr => ?_
  obtain ⟨er, ln, hst⟩ := hP r xs H hr
  refine ⟨r, rfl, ⟨_, SqL.of er⟩, fun D hD => ?_⟩
  have lim : sizeLine = 16777216 := sizeLine_eq
  have nD : D ≠ st := by obtain ⟨a, b, e⟩ := hst; exact (ne_of_none e hD).symm
  have nr : r ≠ st := by
    obtain ⟨a, b, e⟩ := hst
    intro z
    rw [z, e] at er
    cases xs with
    | nil => cases er
    | cons x r => cases er
  have nrD : r ≠ D := ne_of_none er hD
  refine lc_list (K := K) (a := r) (xs := xs.map V.str) (fun i H' => ∃ (vs : List V) (ds : List PyData), H' D = some (.lst vs) ∧ RqA H' vs ds ∧ Al Pd (xs.take i) ds ∧ H' r = some (.lst (xs.map V.str)) ∧ Kp [st] H H' ∧ Strm H' st)
    ⟨[], [], upd_same, .nil, .nil, by rw [upd_ne nrD]; exact er, Kp.new hD _, hst.kp (Kp.new hD _ : Kp [] _ _) (by simp)⟩ (fun i H' _ ⟨_, _, _, _, _, e, _⟩ => SqL.of e) (fun i x H2 hx ⟨cs, ds, hcD, hq, ha, e2, k2, s2⟩ => ?_) (fun H2 ⟨cs, ds, hcD, hq, ha, e2, k2, s2⟩ => ?_)
  · rw [List.getElem?_map] at hx
    obtain ⟨k, hk, rfl⟩ := Option.map_eq_some_iff.mp hx
    have li := (List.getElem?_eq_some_iff.mp hk).1
    refine ⟨hw _, ?_⟩
    simp only [tYes, if_true]
    refine he r xs H k _ _ hr (List.mem_of_getElem? hk) s2 fun v d H3 rv pv k3 s3 => ?_
    have hcD3 := k3.keep D _ (by simpa using nD) hcD
    have lc := hq.len
    have la := ha.len
    rw [List.length_take] at la
    have pa : purDs ds = true := purDs_all.mpr fun x h => by
      obtain ⟨k, _, p⟩ := ha.mem x h
      exact Pp k x p
    have kl : Kp [D] H3 (upd H3 D (.lst (cs ++ [v]))) := Kp.lst hcD3 (List.mem_singleton.mpr rfl)
    refine ⟨cs, hcD3, by omega, cs ++ [v], ds ++ [d], upd_same, ((hq.pure k3 pa).pure kl pa).app (.cons (rv.pure kl (Pp k d pv)) .nil), ?_, ?_, (k2.trans k3).upd hD hcD3, ?_⟩
    · rw [List.take_add_one, hk]
      exact ha.app (.cons pv .nil)
    · rw [upd_ne nrD]
      exact k3.keep r _ (by simpa using nr) e2
    · obtain ⟨a, b, e⟩ := s3
      exact ⟨a, b, by rw [upd_ne (Ne.symm nD)]; exact e⟩
  · rw [List.length_map, List.take_length] at ha
    exact q r xs H D cs ds H2 hr hcD hq ha k2 s2 hD
theorem flat_strsQ : ∀ keys : List Str, (keys.map V.str).all flatV = true
  | [] => rfl
  | _ :: r => flat_strsQ r
theorem inV_strsQ (k : Str) : ∀ keys : List Str, L2.inV (V.str k) (keys.map V.str) = decide (k ∈ keys)
  | [] => rfl
  | y :: r => by
    show (eqV (.str y) (.str k) || L2.inV (V.str k) (r.map V.str)) = _
    rw [inV_strsQ k r, Bool.eq_iff_iff, Bool.or_eq_true, decide_eq_true_eq, decide_eq_true_eq, List.mem_cons, show eqV (V.str y) (.str k) = (y == k) from rfl, beq_iff_eq]
    exact or_congr_left eq_comm
theorem cutD_tl (d : PyData) (ds : List PyData) : cutD (d :: ds) (some 1) none = ds := by
  unfold cutD
  rw [show (some (1 : Int)) = some ((1 : Nat) : Int) from rfl, HT.sIx_nat, HT.sIx_none, List.length_cons, show min 1 (ds.length + 1) = 1 by omega]
  show ds.take (ds.length + 1 - 1) = ds
  simp

/-! the heads of documents -/
abbrev s_is_headed : Stmt := top 60
abbrev N_is_headed : List Str := ["value", "word", "many"]
theorem sc_is_headed : FnScope N_is_headed ["value", "word", "many"] (defScope s_is_headed) := ⟨rfl, rfl, rfl, by decide +kernel, rfl, by decide +kernel, by decide +kernel⟩
abbrev s_is_version : Stmt := top 61
abbrev N_is_version : List Str := ["value"]
theorem sc_is_version : FnScope N_is_version ["value"] (defScope s_is_version) := ⟨rfl, rfl, rfl, by decide +kernel, rfl, by decide +kernel, by decide +kernel⟩
abbrev s_is_amount : Stmt := top 56
abbrev N_is_amount : List Str := ["value"]
theorem sc_is_amount : FnScope N_is_amount ["value"] (defScope s_is_amount) := ⟨rfl, rfl, rfl, by decide +kernel, rfl, by decide +kernel, by decide +kernel⟩
def headB (w : Str) (n : Nat) (d : PyData) : Bool := tupB n n d && eqS w (ixD d 0)
def spHead : Sp := fun vs H Q _ => ∃ (v : V) (d : PyData) (w : Str) (n : Nat), vs = [v, .str w, .int n] ∧ Rq H v d ∧ 1 ≤ n ∧ Q (.bl (headB w n d)) H
def spNumP (lo : Int) : Sp := fun vs H Q _ => ∃ (v : V) (d : PyData), vs = [v] ∧ Rq H v d ∧ Q (.bl (numB lo 1000000000000 d)) H
/-- of a document of another kind -/
def spNo (w : Str) (n : Nat) : Sp := fun vs H Q _ => ∃ (v : V) (d : PyData), vs = [v] ∧ Rq H v d ∧ headB w n d = false ∧ Q (.bl false) H
structure DhC (mg : Str → Option Value) : Prop where
  c_MOST_NUMBER : ∃ t, mg "MOST_NUMBER" = some (.int 1000000000000 t)
section
variable {P : Program} {w : World} {K : PySem.W.Frag} {mg : Str → Option Value} {base : Heap} {f : Addr} {fd : FuncData}
theorem ok_headed (F : Fun K "_is_headed" "_is_headed" s_is_headed f fd) (B : Blt mg) (c_is_tuple_of : Cal P w K mg base CX0 1 "_is_tuple_of" spTOf) : FnOk P w K mg base CX0 2 f fd ["value", "word", "many"] spHead := by
  refine F.ok sc_is_headed (fun vs H Q E h => ?_) (fun cdv A outer s H vs Q E hr h => ?_)
  · obtain ⟨v, d, w, n, rfl, _⟩ := h; rfl
  obtain ⟨v, d, wd, n, rfl, hR, hn, q⟩ := h
  refine ⟨_, (pss_cons (ps_if (pt_not (pt_val (c_is_tuple_of.pe hr (pa_cons (pv 0) (pa_cons (pv 2) pa_nil))))) (pss_one (ps_ret pe_bl)) pss_nil)
    (pss_one (ps_ret (pe_and (B.isT (pe_ix ix_tM (pv 0) pe_int (fun _ _ => rfl)) B.v_str) (pe_one (pe_cmpR op_eq (pe_ix ix_tM (pv 0) pe_int (fun _ _ => rfl)) (pv 1) (nomark _))))))), ?_⟩
  walk_at "wp"
  refine ⟨v, d, n, rfl, hR, _, rfl, ?_⟩
  cases h1 : tupB n n d with
  | false =>
    rw [if_pos rfl]
    rw [show headB wd n d = false by unfold headB; rw [h1]; rfl] at q
    exact q
  | true =>
  obtain ⟨p, xs, ds, rfl, ep, rfl, r, l1, l2⟩ := tupB_of hR h1
  rw [if_neg (by decide)]
  obtain ⟨x0, e0, R0⟩ := r.ix (i := 0) (by omega)
  rw [show headB wd n (.tuple ds) = eqS wd (ds.getD 0 .none) by unfold headB; rw [h1, Bool.true_and]; rfl] at q
  refine ⟨p, rfl, _, ep, _, e0, _, R0.ty, ?_⟩
  generalize ds.getD 0 .none = d0 at R0 q
  cases R0 with
  | str z =>
    dsimp only [tyD]
    walk_at "wp"
    refine ⟨_, ep, _, e0, rfl, ?_⟩
    rw [show decide (V.str z = V.str wd) = eqS wd (.str z) from decide_eq_decide.mpr ⟨V.str.inj, congrArg _⟩]
    exact q
  | _ => dsimp only [tyD]; walk_at "wp"; exact q
theorem ok_version (F : Fun K "_is_version" "_is_version" s_is_version f fd) (B : Blt mg) (D : DhC mg) (c_is_integer : Cal P w K mg base CX0 1 "is_integer" spIntg) : FnOk P w K mg base CX0 2 f fd ["value"] (spNumP 1) := by
  refine F.ok sc_is_version (fun vs H Q E h => ?_) (fun cdv A outer s H vs Q E hr h => ?_)
  · obtain ⟨v, d, rfl, _⟩ := h; rfl
  obtain ⟨v, d, rfl, hR, q⟩ := h
  refine ⟨_, (pss_one (ps_ret (c_is_integer.pe hr (pa_cons (pv 0) (pa_cons pe_int (pa_cons (pe_cE D.c_MOST_NUMBER) pa_nil)))))), ?_⟩
  walk_at "wp"
  refine ⟨v, 1, 1000000000000, rfl, hR.tyx, ?_⟩
  rw [inV_rq hR]
  exact q
theorem ok_amount (F : Fun K "is_amount" "is_amount" s_is_amount f fd) (B : Blt mg) (D : DhC mg) (c_is_integer : Cal P w K mg base CX0 1 "is_integer" spIntg) : FnOk P w K mg base CX0 2 f fd ["value"] (spNumP 0) := by
  refine F.ok sc_is_amount (fun vs H Q E h => ?_) (fun cdv A outer s H vs Q E hr h => ?_)
  · obtain ⟨v, d, rfl, _⟩ := h; rfl
  obtain ⟨v, d, rfl, hR, q⟩ := h
  refine ⟨_, (pss_one (ps_ret (c_is_integer.pe hr (pa_cons (pv 0) (pa_cons pe_int (pa_cons (pe_cE D.c_MOST_NUMBER) pa_nil)))))), ?_⟩
  walk_at "wp"
  refine ⟨v, 0, 1000000000000, rfl, hR.tyx, ?_⟩
  rw [inV_rq hR]
  exact q
end

/-! amounts; [f(stream) for k in range(n)], f draws a value -/
def spAmount : Sp := fun vs H Q _ => ∃ s : Addr, vs = [.ref s] ∧ Strm H s ∧ ∀ (i : Int) (H' : Hp), 0 ≤ i → i ≤ 1000000000000 → Kp [s] H H' → Strm H' s → Q (.int i) H'
theorem draw_rq {σ : St} {H0 : Hp} {R : VK} {ta : TA} {te : TE} {ks : Nat} {st : Addr} (Pn : Int → Hp → Prop) (Pd : PyData → Prop) (Pp : ∀ d, Pd d → purD d = true)
    (ha : ∀ R, (∀ n H, Pn n H → R [V.int n] H) → ta σ H0 R) (hP : ∀ n H, Pn n H → 0 ≤ n ∧ n ≤ 1000 ∧ Strm H st)
    (hw : ∀ x : V, wipe ((wipe σ [ks]).set ks (some x)) [ks] = wipe σ [ks])
    (he : ∀ (x : V) (H2 : Hp) (R : VK), Strm H2 st → (∀ (v : V) (d : PyData) (H3 : Hp), Rq H3 v d → Pd d → Kp [st] H2 H3 → Strm H3 st → R v H3) → te ((wipe σ [ks]).set ks (some x)) H2 R)
    (q : ∀ (n : Int) (H : Hp) (D : Addr) (vs : List V) (ds : List PyData) (H' : Hp), Pn n H → H' D = some (.lst vs) → RqA H' vs ds → ds.length = n.toNat → (∀ d ∈ ds, Pd d) → Kp [st] H H' → Strm H' st → H D = none → R (.ref D) H') :
    tLc (iRng1 ta) (gName ks) tYes te [ks] σ H0 R := by
  refine ha _ fun n H hn => ?_
  obtain ⟨n0, n1, hst⟩ := hP n H hn
  refine ⟨n, rfl, by omega, by omega, fun D hD => ?_⟩
  have lim : sizeLine = 16777216 := sizeLine_eq
  have nD : D ≠ st := by obtain ⟨a, b, e⟩ := hst; exact (ne_of_none e hD).symm
  refine lc_range (lo := 0) (n := n.toNat) (fun i H' => ∃ (vs : List V) (ds : List PyData), H' D = some (.lst vs) ∧ RqA H' vs ds ∧ ds.length = i ∧ (∀ c ∈ ds, Pd c) ∧ Kp [st] H H' ∧ Strm H' st)
    ⟨[], [], upd_same, .nil, rfl, fun c h => absurd h (by simp), Kp.new hD _, hst.kp (Kp.new hD _ : Kp [] _ _) (by simp)⟩ (fun i H2 hi ⟨cs, ds, hcD, hr, hcl, hca, k2, s2⟩ => ?_) (fun H2 ⟨cs, ds, hcD, hr, hcl, hca, k2, s2⟩ => ?_)
  · refine ⟨hw _, ?_⟩
    simp only [tYes, if_true]
    refine he _ _ _ s2 fun k d H3 rk pk k3 s3 => ?_
    have hcD3 := k3.keep D _ (by simpa using nD) hcD
    have lc := hr.len
    have kl : Kp [D] H3 (upd H3 D (.lst (cs ++ [k]))) := Kp.lst hcD3 (List.mem_singleton.mpr rfl)
    refine ⟨cs, hcD3, by omega, cs ++ [k], ds ++ [d], upd_same, ((hr.pure k3 (purDs_all.mpr fun x h => Pp x (hca x h))).pure kl (purDs_all.mpr fun x h => Pp x (hca x h))).app (.cons (rk.pure kl (Pp d pk)) .nil), by rw [List.length_append, hcl]; rfl, fun c h => ?_, (k2.trans k3).upd hD hcD3, ?_⟩
    · rcases List.mem_append.mp h with h | h
      · exact hca c h
      · rw [List.mem_singleton.mp h]; exact pk
    · obtain ⟨a, b, e⟩ := s3
      exact ⟨a, b, by rw [upd_ne (Ne.symm nD)]; exact e⟩
  · exact q n H D cs ds H2 hn hcD hr hcl hca k2 s2 hD
theorem head_self (w : Str) (ds : List PyData) {n : Nat} (h : ds.length + 1 = n) : headB w n (.tuple (.str w :: ds)) = true := by
  subst h
  show ((decide (ds.length + 1 ≤ ds.length + 1) && decide (ds.length + 1 ≤ ds.length + 1)) && decide (w = w)) = true
  rw [decide_eq_true (Nat.le_refl _), decide_eq_true rfl]; rfl
section
variable {P : Program} {w : World} {K : PySem.W.Frag} {mg : Str → Option Value} {base : Heap} {f : Addr} {fd : FuncData}
end

/-! [row[0] for row in a tuple]; [f(stream, k) for k in texts if ..] -/
theorem lc_nm {K : PySem.W.Frag} {σ : St} {H : Hp} {R : VK} {tl te : TE} {ks : Nat} {b : Addr} {xs : List V} {ds : List PyData} {nm : PyData → Str} (eb : H b = some (.tup xs)) (r : RqA H xs ds) (ln : ds.length ≤ 200000)
    (hl : ∀ R : VK, R (.ref b) H → tl σ H R) (hw : ∀ x : V, wipe ((wipe σ [ks]).set ks (some x)) [ks] = wipe σ [ks])
    (he : ∀ (x : V) (d : PyData) (H' : Hp) (R : VK), Rq H' x d → d ∈ ds → R (.str (nm d)) H' → te ((wipe σ [ks]).set ks (some x)) H' R)
    (q : ∀ (D : Addr) (Hx : Hp), Kp [] H Hx → Hx D = some (.lst ((ds.map nm).map V.str)) → H D = none → R (.ref D) Hx) :
    tLc (iTup K tl) (gName ks) tYes te [ks] σ H R := by
  refine hl _ ⟨b, rfl, ⟨xs, SqT.of eb⟩, fun D hD => ?_⟩
  have lim : sizeLine = 16777216 := sizeLine_eq
  refine lc_tup (K := K) (a := b) (xs := xs) (fun i Hx => Kp [] H Hx ∧ Hx D = some (.lst (((ds.take i).map nm).map V.str))) ⟨Kp.new hD _, upd_same⟩ (fun i Hx _ ⟨k, _⟩ => SqT.of (k.tup _ _ eb)) (fun i x Hx hx ⟨k4, a4⟩ => ?_) (fun Hx ⟨k4, a4⟩ => ?_)
  · obtain ⟨u, hu, Ru⟩ := r.get hx
    refine ⟨hw _, ?_⟩
    simp only [tYes, if_true]
    refine he x u _ _ (Ru.kp0 k4) (List.mem_of_getElem? hu) ⟨_, a4, by rw [List.length_map, List.length_map, List.length_take]; omega, Kp.upd k4 hD a4, ?_⟩
    rw [upd_same, List.take_add_one, hu]
    simp
  · rw [r.len, List.take_length] at a4
    exact q D Hx k4 a4 hD
theorem draw_overF {K : PySem.W.Frag} {σ : St} {H0 : Hp} {R : VK} {tl te : TE} {tt : TT} {ks : Nat} {st : Addr} (Pr : Addr → List Str → Hp → Prop) (fl : Str → Bool) (Pd : Str → PyData → Prop) (Pp : ∀ k d, Pd k d → purD d = true)
    (hl : ∀ R : VK, (∀ r xs H, Pr r xs H → R (.ref r) H) → tl σ H0 R) (hP : ∀ r xs H, Pr r xs H → H r = some (.lst (xs.map V.str)) ∧ xs.length ≤ 1000 ∧ Strm H st)
    (hw : ∀ x : V, wipe ((wipe σ [ks]).set ks (some x)) [ks] = wipe σ [ks])
    (ht : ∀ (r : Addr) (xs : List Str) (H : Hp) (k : Str) (H2 : Hp) (R : Bool → Hp → Prop), Pr r xs H → k ∈ xs → R (fl k) H2 → tt ((wipe σ [ks]).set ks (some (.str k))) H2 R)
    (he : ∀ (r : Addr) (xs : List Str) (H : Hp) (k : Str) (H2 : Hp) (R : VK), Pr r xs H → k ∈ xs → fl k = true → Strm H2 st → (∀ (v : V) (d : PyData) (H3 : Hp), Rq H3 v d → Pd k d → Kp [st] H2 H3 → Strm H3 st → R v H3) → te ((wipe σ [ks]).set ks (some (.str k))) H2 R)
    (q : ∀ (r : Addr) (xs : List Str) (H : Hp) (D : Addr) (vs : List V) (ds : List PyData) (H' : Hp), Pr r xs H → H' D = some (.lst vs) → RqA H' vs ds → Al Pd (xs.filter fl) ds → Kp [st] H H' → Strm H' st → H D = none → R (.ref D) H') :
    tLc (iList K tl) (gName ks) tt te [ks] σ H0 R := by
  refine hl _ fun r xs H hr => ?_
  obtain ⟨er, ln, hst⟩ := hP r xs H hr
  refine ⟨r, rfl, ⟨_, SqL.of er⟩, fun D hD => ?_⟩
  have lim : sizeLine = 16777216 := sizeLine_eq
  have nD : D ≠ st := by obtain ⟨a, b, e⟩ := hst; exact (ne_of_none e hD).symm
  have nr : r ≠ st := by
    obtain ⟨a, b, e⟩ := hst
    intro z
    rw [z, e] at er
    cases xs with
    | nil => cases er
    | cons x r => cases er
  have nrD : r ≠ D := ne_of_none er hD
  refine lc_list (K := K) (a := r) (xs := xs.map V.str) (fun i H' => ∃ (vs : List V) (ds : List PyData), H' D = some (.lst vs) ∧ RqA H' vs ds ∧ Al Pd ((xs.take i).filter fl) ds ∧ H' r = some (.lst (xs.map V.str)) ∧ Kp [st] H H' ∧ Strm H' st)
    ⟨[], [], upd_same, .nil, .nil, by rw [upd_ne nrD]; exact er, Kp.new hD _, hst.kp (Kp.new hD _ : Kp [] _ _) (by simp)⟩ (fun i H' _ ⟨_, _, _, _, _, e, _⟩ => SqL.of e) (fun i x H2 hx ⟨cs, ds, hcD, hq, ha, e2, k2, s2⟩ => ?_) (fun H2 ⟨cs, ds, hcD, hq, ha, e2, k2, s2⟩ => ?_)
  · rw [List.getElem?_map] at hx
    obtain ⟨k, hk, rfl⟩ := Option.map_eq_some_iff.mp hx
    have li := (List.getElem?_eq_some_iff.mp hk).1
    have mk := List.mem_of_getElem? hk
    have tk : xs.take (i + 1) = xs.take i ++ [k] := by rw [List.take_add_one, hk]; rfl
    refine ⟨hw _, ht r xs H k _ _ hr mk ?_⟩
    have lc := hq.len
    have la := ha.len
    have lf := List.length_filter_le fl (xs.take i)
    rw [List.length_take] at lf
    cases hf : fl k with
    | false =>
      rw [if_neg (by decide)]
      exact ⟨cs, ds, hcD, hq, by rw [tk, List.filter_append]; simpa [hf] using ha, e2, k2, s2⟩
    | true =>
    rw [if_pos rfl]
    refine he r xs H k _ _ hr mk hf s2 fun v d H3 rv pv k3 s3 => ?_
    have hcD3 := k3.keep D _ (by simpa using nD) hcD
    have pa : purDs ds = true := purDs_all.mpr fun x h => by
      obtain ⟨k, _, p⟩ := ha.mem x h
      exact Pp k x p
    have kl : Kp [D] H3 (upd H3 D (.lst (cs ++ [v]))) := Kp.lst hcD3 (List.mem_singleton.mpr rfl)
    refine ⟨cs, hcD3, by omega, cs ++ [v], ds ++ [d], upd_same, ((hq.pure k3 pa).pure kl pa).app (.cons (rv.pure kl (Pp k d pv)) .nil), ?_, ?_, (k2.trans k3).upd hD hcD3, ?_⟩
    · rw [tk, List.filter_append]
      refine ha.app ?_
      rw [show [k].filter fl = [k] by simp [hf]]
      exact .cons pv .nil
    · rw [upd_ne nrD]
      exact k3.keep r _ (by simpa using nr) e2
    · obtain ⟨a, b, e⟩ := s3
      exact ⟨a, b, by rw [upd_ne (Ne.symm nD)]; exact e⟩
  · rw [List.length_map, List.take_length] at ha
    exact q r xs H D cs ds H2 hr hcD hq ha k2 s2 hD

/-! digests and entries -/
abbrev s_is_digest : Stmt := top 50
abbrev N_is_digest : List Str := ["value"]
theorem sc_is_digest : FnScope N_is_digest ["value"] (defScope s_is_digest) := ⟨rfl, rfl, rfl, by decide +kernel, rfl, by decide +kernel, by decide +kernel⟩
abbrev s_is_entry : Stmt := top 62
abbrev N_is_entry : List Str := ["value"]
theorem sc_is_entry : FnScope N_is_entry ["value"] (defScope s_is_entry) := ⟨rfl, rfl, rfl, by decide +kernel, rfl, by decide +kernel, by decide +kernel⟩
def hexM : Str := Str.ofString "0123456789abcdef"
def isDig : PyData → Bool
  | .str z => decide (z.length = 18) && inT hexM z
  | _ => false
def isEntry (d : PyData) : Bool := tupB 3 3 d && (numB 1 1000000000000 (ixD d 0) && (numB 0 1000000000000 (ixD d 1) && isDig (ixD d 2)))
structure DdC (mg : Str → Option Value) : Prop where
  c_DIGEST_LENGTH : ∃ t, mg "DIGEST_LENGTH" = some (.int 18 t)
  c_DIGEST_MARKS : ∃ t, mg "_DIGEST_MARKS" = some (.str "0123456789abcdef" t)
def spHex : Sp := fun vs H Q _ => ∃ s : Addr, vs = [.ref s] ∧ Strm H s ∧ ∀ (z : Str) (H' : Hp), z.length = 18 → inT hexM z = true → Kp [s] H H' → Strm H' s → Q (.str z) H'
theorem hex_low {z : Str} (h : inT hexM z = true) : ∀ c ∈ z.cps.toList, c < 128 := fun c hc => by
  unfold inT at h
  rw [List.all_eq_true] at h
  exact (by decide +kernel : ∀ c ∈ hexM.cps.toList, c < 128) c (of_decide_eq_true (h c hc))
def spDraw (f : PyData → Bool) (n : Nat) : Sp := fun vs H Q _ => ∃ s : Addr, vs = [.ref s] ∧ Strm H s ∧ ∀ (v : V) (d : PyData) (H' : Hp), Rq H' v d → inD n d = true → f d = true → Kp [s] H H' → Strm H' s → Q v H'
/-- all(p(x) for x in a text) -/
theorem all_chars {y : Str} {pb : Nat → Bool} {te : TE} {D : Ends} {H2 : Hp} {o : Option V} {cap : L2.St}
    (step : ∀ (c : Nat) (R : VK), R (.bl (pb c)) H2 → te (some (.str ⟨#[c]⟩) :: cap) H2 R)
    (qf : y.cps.toList.all pb = false → D.rt (.bl false) H2) (qt : ∀ σ, y.cps.toList.all pb = true → D.nx σ H2) :
    tForB (Its y) (gName 0) (tbAll tYes te) D (o :: cap) H2 := by
  refine for_it walk_str (fun i σ H' => H' = H2 ∧ (y.cps.toList.take i).all pb = true ∧ ∃ o : Option V, σ = o :: cap) ⟨rfl, rfl, _, rfl⟩ (fun _ _ _ _ _ => True.intro) (fun i x σ H1 H3 hi ⟨hH, ha, o, hσ⟩ ⟨h2, c, hc, hx⟩ => ?_) (fun σ H1 ⟨hH, ha, o, hσ⟩ => ?_)
  · subst hσ
    subst hx
    subst h2
    subst hH
    have hci : y.cps.toList[i]? = some c := by rw [Array.getElem?_toList]; exact hc
    unfold tbAll
    simp only [tYes, if_true, gName, List.set_cons_zero]
    refine step c _ ⟨_, rfl, ?_⟩
    cases hb : pb c with
    | true =>
      rw [if_pos rfl]
      exact ⟨rfl, by rw [List.take_add_one, hci, List.all_append, ha]; simp [hb], _, rfl⟩
    | false =>
      rw [if_neg (by decide)]
      exact qf (List.all_eq_false.mpr ⟨c, List.mem_of_getElem? hci, by rw [hb]; decide⟩)
  · subst hH
    rw [List.take_of_length_le (by rw [Array.length_toList]; exact Nat.le_refl _)] at ha
    exact qt _ ha
section
variable {P : Program} {w : World} {K : PySem.W.Frag} {mg : Str → Option Value} {base : Heap} {f : Addr} {fd : FuncData}
theorem ok_digestD {oc kV doc pm ct : Value} {od an : Option Addr} {osl : Array (Option Value)} {c Pt : Addr} {Ts : List Addr} (B : Blt mg) (TB : GxR.TabB base mg c Pt) (D : DdC mg) (mt : Pt ∈ Ts)
    (lk : K.lookup f = some ⟨oc, od, .func (PySem.W.fnOf "is_digest" "is_digest" (defArgs s_is_digest) (defBody s_is_digest) (defScope s_is_digest) .none kV doc pm an (.ref c) ct), osl⟩) (hcd : PySem.W.codeIn K (.ref c) "is_digest" = true) :
    FnOk P w K mg base CX0 3 f (PySem.W.fnOf "is_digest" "is_digest" (defArgs s_is_digest) (defBody s_is_digest) (defScope s_is_digest) .none kV doc pm an (.ref c) ct) ["value"] (spDoc isDig Ts) := by
  refine fn_of lk hcd sc_is_digest (fun vs H Q E h => ?_) (fun A outer s H vs Q E hr h => ?_)
  · obtain ⟨v, d, rfl, _⟩ := h; rfl
  obtain ⟨v, d, rfl, hR, ho, hG, q⟩ := h
  refine ⟨_, PSs.nox (pss_cons (ps_if (PW.pt (pw_or (pt_not (pt_val (B.isT (pv 0) B.v_str))) (pw_or1 (pt_cmpR op_ne (B.len_s (pa_cons (pv 0) pa_nil)) (pe_cE D.c_DIGEST_LENGTH) (nomark _))))) (pss_one (ps_ret pe_bl)) pss_nil)
    (pss_one (ps_ret (pe_allG (N := ["mark"]) (nt := 1) (fr := []) rfl hr B TB rfl (gnOf (by decide +kernel)) (by show freeOk _ (defScope s_is_digest) = true; decide +kernel) (by show capOk _ _ _ N_is_digest _ (defScope s_is_digest) = true; decide +kernel)
      (pi_str (pv 0)) (fun _ _ _ _ _ hr => (pg_name (i := 0) (by show List.Nodup (["mark"] : List Str); decide +kernel) rfl (Or.inl rfl))) (fun _ _ _ _ _ hr => pts_nil) (fun _ _ _ _ _ hr => (pe_cmpR op_in_sign (pv 0) (pe_cSE D.c_DIGEST_MARKS) (by rfl))) (fun _ => rfl))))), ?_⟩
  walk_at "wp"
  refine ⟨_, hR.ty, ?_⟩
  have q0 := q H (Kp.refl _ _) hG
  cases hR with
  | str z =>
    have lz := (okD_str.mp ho).1
    have lim : sizeLine = 16777216 := sizeLine_eq
    dsimp only [tyD]
    walk_at "wp"
    refine ⟨by omega, ?_⟩
    have q1 : ∀ H', Kp Ts H H' → Tabs Ts H' → Q (.bl (decide (z.length = 18) && inT hexM z)) H' := q
    split
    · rename_i c1
      have y := q1 H (Kp.refl _ _) hG
      rw [decide_eq_false (by omega), Bool.false_and] at y
      exact y
    · rename_i c1
      rw [decide_eq_true (show z.length = 18 by omega)] at q1
      refine ⟨_, rfl, z, rfl, hG _ mt, fun H2 hT => ?_⟩
      have g2 := hG.tab hT mt
      have k2 : Kp Ts H H2 := Kp.tab (hG _ mt) hT mt
      have y := q1 H2 k2 g2
      rw [Bool.true_and] at y
      refine all_chars (o := none) (cap := []) (pb := fun c => decide (c ∈ hexM.cps.toList)) (fun c R h => ⟨_, rfl, c, rfl, _, rfl, h⟩) (fun h => ?_) (fun σ h => ?_)
      · rw [show inT hexM z = false from h] at y; exact y
      · rw [show inT hexM z = true from h] at y; exact y
  | _ => dsimp only [tyD]; walk_at "wp"; exact q0
theorem ok_entry {Ts : List Addr} (F : Fun K "_is_entry" "_is_entry" s_is_entry f fd) (B : Blt mg) (c_is_tuple_of : Cal P w K mg base CX0 1 "_is_tuple_of" spTOf) (c_is_version : Cal P w K mg base CX0 2 "_is_version" (spNumP 1)) (c_is_amount : Cal P w K mg base CX0 2 "is_amount" (spNumP 0)) (c_is_digest : Cal P w K mg base CX0 3 "is_digest" (spDoc isDig Ts)) : FnOk P w K mg base CX0 4 f fd ["value"] (spDoc isEntry Ts) := by
  refine F.ok sc_is_entry (fun vs H Q E h => ?_) (fun cdv A outer s H vs Q E hr h => ?_)
  · obtain ⟨v, d, rfl, _⟩ := h; rfl
  obtain ⟨v, d, rfl, hR, ho, hG, q⟩ := h
  refine ⟨_, (pss_one (ps_ret (pe_and (c_is_tuple_of.pe hr (pa_cons (pv 0) (pa_cons pe_int pa_nil))) (pe_and (c_is_version.pe hr (pa_cons (pe_ix ix_tM (pv 0) pe_int (fun _ _ => rfl)) pa_nil)) (pe_and (c_is_amount.pe hr (pa_cons (pe_ix ix_tM (pv 0) pe_int (fun _ _ => rfl)) pa_nil)) (pe_one (c_is_digest.pe hr (pa_cons (pe_ix ix_tM (pv 0) pe_int (fun _ _ => rfl)) pa_nil)))))))), ?_⟩
  walk_at "wp"
  have off : isEntry d = false → Q (.bl false) H := fun h => by have y := q H (Kp.refl _ _) hG; rw [h] at y; exact y
  refine ⟨v, d, 3, rfl, hR, _, rfl, ?_⟩
  cases h1 : tupB 3 3 d with
  | false =>
    rw [if_neg (by decide)]
    exact off (by unfold isEntry; rw [h1]; rfl)
  | true =>
  obtain ⟨p, xs, ds, rfl, ep, rfl, r, l1, l2⟩ := tupB_of hR h1
  obtain ⟨x0, x1, x2, d0, d1, d2, rfl, rfl, R0, R1, R2⟩ := rq3 r (by omega)
  rw [if_pos rfl]
  obtain ⟨o1, o2⟩ := okD_tup.mp ho
  have e1 : isEntry (.tuple [d0, d1, d2]) = (numB 1 1000000000000 d0 && (numB 0 1000000000000 d1 && isDig d2)) := rfl
  rw [e1] at off q
  refine ⟨p, rfl, _, ep, _, rfl, x0, d0, rfl, R0, _, rfl, ?_⟩
  cases h2 : numB 1 1000000000000 d0 with
  | false =>
    rw [if_neg (by decide)]
    exact off (by rw [h2]; rfl)
  | true =>
  rw [if_pos rfl]
  rw [h2, Bool.true_and] at off q
  refine ⟨p, rfl, _, ep, _, rfl, x1, d1, rfl, R1, _, rfl, ?_⟩
  cases h3 : numB 0 1000000000000 d1 with
  | false =>
    rw [if_neg (by decide)]
    exact off (by rw [h3]; rfl)
  | true =>
  rw [if_pos rfl]
  rw [h3, Bool.true_and] at q
  exact ⟨p, rfl, _, ep, _, rfl, x2, d2, rfl, R2, ok_mono _ 12 d2 (by decide) (o2 d2 (by simp)), hG, q⟩
end

/-! paths that a law draws, and what it asks of them -/
def paD (m : Str) : PyData → Bool
  | .str z => hpS m z
  | _ => false
def lpM (more : Str) : Str := Str.ofString "abcdefghijklmnopqrstuvwxyz0123456789.-_" ++ more
theorem inT_ext {m m' z : Str} (h : ∀ c, c ∈ m.cps.toList ↔ c ∈ m'.cps.toList) : inT m z = inT m' z := by
  unfold inT
  congr 1
  funext c
  exact decide_eq_decide.mpr (h c)
theorem hpS_ext {m m' z : Str} (h : ∀ c, c ∈ m.cps.toList ↔ c ∈ m'.cps.toList) : hpS m z = hpS m' z := by
  unfold hpS
  congr 1
  congr 1
  funext p
  rw [inT_ext h]
theorem sub_iff {m m' : List Nat} (h : (m.all (m'.contains ·) && m'.all (m.contains ·)) = true) (c : Nat) : c ∈ m ↔ c ∈ m' := by
  rw [Bool.and_eq_true, List.all_eq_true, List.all_eq_true] at h
  exact ⟨fun z => by simpa using h.1 c z, fun z => by simpa using h.2 c z⟩
theorem lpM_star (z : Str) : hpS (lpM (Str.ofString "*")) z = hpS ptM z := hpS_ext (sub_iff (by decide +kernel))
theorem lpM_none (z : Str) : hpS (lpM (Str.ofString "")) z = hpS paM z := hpS_ext (sub_iff (by decide +kernel))
theorem paD_of {m : Str} {H : Hp} {v : V} {d : PyData} (r : Rq H v d) : hpV m v = paD m d := by cases r <;> rfl
theorem paD_s {m : Str} {d : PyData} (h : paD m d = true) : isS d = true := by cases d <;> first | rfl | cases h
/-- what is drawn: 1 to 6 parts of 1 to 4 signs of S -/
structure PtOk (S : Str) (ps : List Str) : Prop where
  n1 : 1 ≤ ps.length
  n6 : ps.length ≤ 6
  l : ∀ p ∈ ps, 1 ≤ p.length ∧ p.length ≤ 4
  m : ∀ p ∈ ps, ∀ c ∈ p.cps.toList, c ∈ S.cps.toList
theorem PtOk.hp {S m : Str} {ps : List Str} (h : PtOk S ps) (h47 : 47 ∉ S.cps.toList) (hm : ∀ c ∈ S.cps.toList, c ∈ m.cps.toList) : hpS m (Txt.join (Str.ofString "/") ps) = true := by
  have ne : ps ≠ [] := fun e => by have := h.n1; rw [e] at this; exact absurd this (by decide)
  have e2 : Txt.split (Txt.join (Str.ofString "/") ps) (Str.ofString "/") = ps := TL.split_join (y := Str.ofString "/") (s := 47) (S := []) rfl (by decide +kernel) ne fun p hp hc => h47 (h.m p hp 47 hc)
  have jl := jlen (m := 4) (fun p hp => (h.l p hp).2)
  have h6 := h.n6
  unfold hpS
  rw [e2, decide_eq_true (show (Txt.join (Str.ofString "/") ps).length ≤ 60 by omega), decide_eq_true h6, Bool.true_and, Bool.true_and, List.all_eq_true]
  intro p hp
  rw [decide_eq_true (show p ≠ Str.ofString "" from fun e => by have := (h.l p hp).1; rw [e] at this; exact absurd this (by decide +kernel)), Bool.true_and]
  unfold inT
  rw [List.all_eq_true]
  exact fun c hc => decide_eq_true (hm c (h.m p hp c hc))
theorem PtOk.low {S : Str} {ps : List Str} (h : PtOk S ps) (hS : ∀ c ∈ S.cps.toList, c < 128) : (Txt.join (Str.ofString "/") ps).length ≤ 30 ∧ ∀ c ∈ (Txt.join (Str.ofString "/") ps).cps.toList, c < 128 := by
  have jl := jlen (m := 4) (fun p hp => (h.l p hp).2)
  have h6 := h.n6
  refine ⟨by omega, fun c hc => ?_⟩
  have hc : c ∈ TL.tl (Txt.join (Str.ofString "/") ps) := hc
  rw [TL.join_eq, TL.tl_join] at hc
  have go : ∀ l : List (List Nat), (∀ p ∈ l, ∀ c ∈ p, c < 128) → ∀ c ∈ TL.joinL [47] l, c < 128 := by
    intro l
    induction l with
    | nil => intro _ c h; cases h
    | cons p r ih =>
      intro hl c hc
      cases r with
      | nil => exact hl p List.mem_cons_self c hc
      | cons p2 r =>
        have hc : c ∈ p ++ ([47] ++ TL.joinL [47] (p2 :: r)) := hc
        rcases List.mem_append.mp hc with z | z
        · exact hl p List.mem_cons_self c z
        · rcases List.mem_append.mp z with z | z
          · rw [List.mem_singleton.mp z]; decide
          · exact ih (fun q hq => hl q (List.mem_cons_of_mem _ hq)) c z
  refine go _ (fun p hp c hc => ?_) c hc
  obtain ⟨q, hq, rfl⟩ := List.mem_map.mp hp
  exact hS c (h.m q hq c hc)
def spLPath : Sp := fun vs H Q _ => ∃ (s : Addr) (S : Str), vs = [.ref s, .str S] ∧ Strm H s ∧ 1 ≤ S.length ∧ S.length ≤ 100 ∧ ∀ (ps : List Str) (H' : Hp), PtOk S ps → Kp [s] H H' → Strm H' s → Q (.str (Txt.join (Str.ofString "/") ps)) H'
def spLIsPath : Sp := fun vs H Q _ => ∃ (v : V) (d : PyData) (more : Str), vs = [v, .str more] ∧ Rq H v d ∧ okD 12 d = true ∧ more.length ≤ 10 ∧ ∀ H', Kp [] H H' → Q (.bl (paD (lpM more) d)) H'
section
variable {P : Program} {w : World} {K : PySem.W.Frag} {mg : Str → Option Value} {base : Heap} {f : Addr} {fd : FuncData}
end

/-! grants -/
abbrev s_is_grant : Stmt := top 51
abbrev N_is_grant : List Str := ["value", "name", "role", "patterns", "last"]
theorem sc_is_grant : FnScope N_is_grant ["value"] (defScope s_is_grant) := ⟨rfl, rfl, rfl, by decide +kernel, rfl, by decide +kernel, by decide +kernel⟩
def isGrant (d : PyData) : Bool := tupB 4 4 d && (lnD (ixD d 0) && (!eqS (Str.ofString "list") (ixD d 0) && (isRole (ixD d 1) && (tupB 1 8 (ixD d 2) && ((itD (ixD d 2)).all (paD ptM) && numB 0 1 (ixD d 3))))))
def nmG (d : PyData) : Str := strD (ixD d 0)
structure DgrC (mg : Str → Option Value) : Prop where
  c_MOST_PATTERNS : ∃ t, mg "_MOST_PATTERNS" = some (.int 8 t)
  c_TOP_LIST : ∃ t, mg "TOP_LIST" = some (.str "list" t)
theorem isGrant_of {H : Hp} {v : V} {d : PyData} (r : Rq H v d) (h : isGrant d = true) : ∃ (p : Addr) (xs : List V) (z : Str) (es : List PyData), v = .ref p ∧ H p = some (.tup (.str z :: xs)) ∧ d = .tuple (.str z :: es) ∧ RqA H xs es ∧ lnS z = true ∧ z ≠ Str.ofString "list" ∧ es.length = 3 := by
  unfold isGrant at h
  simp only [Bool.and_eq_true, Bool.not_eq_true'] at h
  obtain ⟨h1, h2, h3, _⟩ := h
  obtain ⟨p, xs, ds, rfl, ep, rfl, rr, l1, l2⟩ := tupB_of r h1
  cases rr with
  | nil => exact absurd l1 (by decide)
  | @cons v vs d ds a b =>
    have h2 : lnD d = true := h2
    have h3 : eqS (Str.ofString "list") d = false := h3
    cases a with
    | str z => exact ⟨p, vs, z, ds, rfl, ep, rfl, b, h2, of_decide_eq_false h3, by rw [List.length_cons] at l1 l2; omega⟩
    | _ => cases h2
theorem paD_star (d : PyData) : paD (lpM (Str.ofString "*")) d = paD ptM d := by
  cases d with
  | str z => exact lpM_star z
  | _ => rfl
def spLGrant : Sp := fun vs H Q _ => ∃ (s : Addr) (nm : Str), vs = [.ref s, .str nm] ∧ Strm H s ∧ lnS nm = true ∧ nm ≠ Str.ofString "list" ∧ ∀ (v : V) (d : PyData) (H' : Hp), Rq H' v d → inD 5 d = true → isGrant d = true → nmG d = nm → Kp [s] H H' → Strm H' s → Q v H'
section
variable {P : Program} {w : World} {K : PySem.W.Frag} {mg : Str → Option Value} {base : Heap} {f : Addr} {fd : FuncData}
theorem ok_grant {oc kV doc pm ct : Value} {od an : Option Addr} {osl : Array (Option Value)} {c Pt Pc : Addr} {Ts : List Addr} (B : Blt mg) (TB : GxR.TabB base mg c Pt) (D : DgrC mg) (mt : Pt ∈ Ts) (mc : Pc ∈ Ts)
    (lk : K.lookup f = some ⟨oc, od, .func (PySem.W.fnOf "is_grant" "is_grant" (defArgs s_is_grant) (defBody s_is_grant) (defScope s_is_grant) .none kV doc pm an (.ref c) ct), osl⟩) (hcd : PySem.W.codeIn K (.ref c) "is_grant" = true)
    (c_is_tuple_of : Cal P w K mg base CX0 1 "_is_tuple_of" spTOf) (c_is_tuple_within : Cal P w K mg base CX0 1 "_is_tuple_within" spTIn) (c_is_list_name : Cal P w K mg base CX0 4 "is_list_name" (spNm lnV Pc)) (c_is_role : Cal P w K mg base CX0 8 "is_role" (spDoc isRole Ts)) (c_is_pattern : Cal P w K mg base CX0 7 "is_pattern" (spPa ptM Ts)) (c_is_integer : Cal P w K mg base CX0 1 "is_integer" spIntg) :
    FnOk P w K mg base CX0 11 f (PySem.W.fnOf "is_grant" "is_grant" (defArgs s_is_grant) (defBody s_is_grant) (defScope s_is_grant) .none kV doc pm an (.ref c) ct) ["value"] (spDoc isGrant Ts) := by
  refine fn_of lk hcd sc_is_grant (fun vs H Q E h => ?_) (fun A outer s H vs Q E hr h => ?_)
  · obtain ⟨v, d, rfl, _⟩ := h; rfl
  obtain ⟨v, d, rfl, hR, ho, hG, q⟩ := h
  refine ⟨_, PSs.nox (pss_cons (ps_if (pt_not (pt_val (c_is_tuple_of.pe hr (pa_cons (pv 0) (pa_cons pe_int pa_nil))))) (pss_one (ps_ret pe_bl)) pss_nil)
    (pss_cons (ps_asg (pv 0) (pg_tup rfl (pgs_cons (pg_name (i := 1) sc_is_grant.nd rfl (Or.inl rfl)) (pgs_cons (pg_name (i := 2) sc_is_grant.nd rfl (Or.inl rfl)) (pgs_cons (pg_name (i := 3) sc_is_grant.nd rfl (Or.inl rfl)) (pgs_cons (pg_name (i := 4) sc_is_grant.nd rfl (Or.inl rfl)) pgs_nil))))))
    (pss_cons (ps_if (PW.pt (pw_or (pt_not (pt_val (c_is_list_name.pe hr (pa_cons (pv 1) pa_nil)))) (pw_or (pt_cmpR op_eq (pv 1) (pe_cSE D.c_TOP_LIST) (nomark _)) (pw_or1 (pt_not (pt_val (c_is_role.pe hr (pa_cons (pv 2) pa_nil)))))))) (pss_one (ps_ret pe_bl)) pss_nil)
    (pss_cons (ps_if (PW.pt (pw_or (pt_not (pt_val (c_is_tuple_within.pe hr (pa_cons (pv 3) (pa_cons pe_int (pa_cons (pe_cE D.c_MOST_PATTERNS) pa_nil)))))) (pw_or1 (pt_not (pt_val (pe_allG (N := ["pattern"]) (nt := 1) (fr := []) rfl hr B TB rfl (gnOf (by decide +kernel)) (by show freeOk _ (defScope s_is_grant) = true; decide +kernel) (by show capOk _ _ _ N_is_grant _ (defScope s_is_grant) = true; decide +kernel)
      (pi_tup (pv 3)) (fun _ _ _ _ _ hr => (pg_name (i := 0) (by show List.Nodup (["pattern"] : List Str); decide +kernel) rfl (Or.inl rfl))) (fun _ _ _ _ _ hr => pts_nil) (fun _ _ _ _ _ hr => (c_is_pattern.pe hr (pa_cons (pv 0) pa_nil))) (fun _ => rfl))))))) (pss_one (ps_ret pe_bl)) pss_nil)
    (pss_one (ps_ret (c_is_integer.pe hr (pa_cons (pv 4) (pa_cons pe_int (pa_cons pe_int pa_nil)))))))))), ?_⟩
  walk_at "wp"
  have off : isGrant d = false → ∀ H', Kp Ts H H' → Tabs Ts H' → Q (.bl false) H' := fun h H' k g => by have y := q H' k g; rw [h] at y; exact y
  refine ⟨v, d, 4, rfl, hR, _, rfl, ?_⟩
  cases h1 : tupB 4 4 d with
  | false =>
    rw [if_pos rfl]
    exact off (by unfold isGrant; rw [h1]; rfl) H (Kp.refl _ _) hG
  | true =>
  rw [if_neg (by decide)]
  obtain ⟨p, xs, ds, rfl, ep, rfl, r, l1, l2⟩ := tupB_of hR h1
  obtain ⟨x0, x1, x2, x3, d0, d1, d2, d3, rfl, rfl, R0, R1, R2, R3⟩ := rq4 r (by omega)
  obtain ⟨o1, o2⟩ := okD_tup.mp ho
  have e1 : isGrant (.tuple [d0, d1, d2, d3]) = (lnD d0 && (!eqS (Str.ofString "list") d0 && (isRole d1 && (tupB 1 8 d2 && ((itD d2).all (paD ptM) && numB 0 1 d3))))) := rfl
  rw [e1] at off q
  refine ⟨p, _, rfl, SqT.of ep, rfl, x0, _, rfl, x1, _, rfl, x2, _, rfl, x3, _, rfl, rfl, ?_⟩
  walk_at "wp"
  refine ⟨x0, rfl, hG _ mc, R0.tyx, ok_szV R0 (o2 d0 (by simp)), fun H1 k1 g1 => ⟨_, rfl, ?_⟩⟩
  rw [lnD_of R0]
  have K1 := k1.in1 mc
  have G1 := hG.kp1 k1 g1
  cases h2 : lnD d0 with
  | false =>
    rw [if_pos rfl]
    exact off (by rw [h2]; rfl) _ K1 G1
  | true =>
  rw [if_neg (by decide)]
  rw [h2, Bool.true_and] at off q
  obtain ⟨z, rfl, rfl⟩ : ∃ z, x0 = .str z ∧ d0 = .str z := isS_of R0 (by cases d0 <;> first | rfl | cases h2)
  refine ⟨rfl, ?_⟩
  split
  · rename_i c1
    exact off (by rw [show eqS (Str.ofString "list") (.str z) = true from decide_eq_true (V.str.inj c1)]; rfl) _ K1 G1
  rename_i c1
  rw [show eqS (Str.ofString "list") (.str z) = false from decide_eq_false (fun h => c1 (congrArg _ h)), Bool.not_false, Bool.true_and] at off q
  refine ⟨x1, d1, rfl, R1.tabs K1 hG, ok_mono _ 12 d1 (by decide) (o2 d1 (by simp)), G1, fun H2 k2 g2 => ⟨_, rfl, ?_⟩⟩
  have K2 := K1.trans k2
  cases h3 : isRole d1 with
  | false =>
    rw [if_pos rfl]
    exact off (by rw [h3]; rfl) _ K2 g2
  | true =>
  rw [if_neg (by decide)]
  rw [h3, Bool.true_and] at off q
  refine ⟨x2, d2, 1, 8, rfl, R2.tabs K2 hG, _, rfl, ?_⟩
  cases h4 : tupB 1 8 d2 with
  | false =>
    rw [if_pos rfl]
    exact off (by rw [h4]; rfl) _ K2 g2
  | true =>
  rw [if_neg (by decide)]
  obtain ⟨b, ys, es, rfl, eb, rfl, rr, l3, l4⟩ := tupB_of R2 h4
  rw [h4, Bool.true_and, show itD (.tuple es) = es from rfl] at off q
  obtain ⟨o3, o4⟩ := okD_tup.mp (o2 (.tuple es) (by simp))
  have e3 := K2.get hG eb
  refine ⟨_, rfl, b, rfl, ⟨ys, SqT.of e3⟩, g2 _ mt, fun H3 hT => ?_⟩
  have g3 := g2.tab hT mt
  have k3 : Kp Ts H2 H3 := Kp.tab (g2 _ mt) hT mt
  have K3 := K2.trans k3
  refine all_rq (K := K) (o := none) (cap := []) (f := paD ptM) (k3.get g2 e3) ((rr.tabs K2 hG).tabs k3 g2) g3 (fun x d H' R hx md k4 g4 hq => ?_) (fun H4 k4 g4 h5 => ?_) (fun σ H4 k4 g4 h5 => ?_)
  · exact ⟨x, rfl, x, rfl, g4, hx.tyx, ok_szV hx (o4 d md), fun H5 k5 g5 => by rw [paD_of hx]; exact hq H5 k5 g5⟩
  · refine ⟨_, rfl, ?_⟩
    rw [if_pos rfl]
    exact off (by rw [h5]; rfl) _ (K3.trans k4) g4
  · refine ⟨_, rfl, ?_⟩
    rw [if_neg (by decide)]
    rw [h5, Bool.true_and] at q
    refine ⟨x3, 0, 1, rfl, (R3.tabs (K3.trans k4) hG).tyx, ?_⟩
    rw [inV_rq R3]
    exact q _ (K3.trans k4) g4
end

/-! charters -/
abbrev s_is_charter : Stmt := top 52
abbrev N_is_charter : List Str := ["value", "_", "version", "expires", "roles"]
theorem sc_is_charter : FnScope N_is_charter ["value"] (defScope s_is_charter) := ⟨rfl, rfl, rfl, by decide +kernel, rfl, by decide +kernel, by decide +kernel⟩
def isCharter (d : PyData) : Bool := headB (Str.ofString "charter") 4 d && (numB 1 1000000000000 (ixD d 1) && (numB 0 1000000000000 (ixD d 2) && (tupB 4 4 (ixD d 3) && (itD (ixD d 3)).all isRole)))
structure DchC (mg : Str → Option Value) : Prop where
  c_ROLES : ∃ t, mg "_ROLES" = some (.int 4 t)
section
variable {P : Program} {w : World} {K : PySem.W.Frag} {mg : Str → Option Value} {base : Heap} {f : Addr} {fd : FuncData}
theorem ok_charter {oc kV doc pm ct : Value} {od an : Option Addr} {osl : Array (Option Value)} {c Pt : Addr} {Ts : List Addr} (B : Blt mg) (TB : GxR.TabB base mg c Pt) (D : DchC mg) (mt : Pt ∈ Ts)
    (lk : K.lookup f = some ⟨oc, od, .func (PySem.W.fnOf "is_charter" "is_charter" (defArgs s_is_charter) (defBody s_is_charter) (defScope s_is_charter) .none kV doc pm an (.ref c) ct), osl⟩) (hcd : PySem.W.codeIn K (.ref c) "is_charter" = true)
    (c_is_headed : Cal P w K mg base CX0 2 "_is_headed" spHead) (c_is_version : Cal P w K mg base CX0 2 "_is_version" (spNumP 1)) (c_is_amount : Cal P w K mg base CX0 2 "is_amount" (spNumP 0)) (c_is_tuple_of : Cal P w K mg base CX0 1 "_is_tuple_of" spTOf) (c_is_role : Cal P w K mg base CX0 8 "is_role" (spDoc isRole Ts)) :
    FnOk P w K mg base CX0 12 f (PySem.W.fnOf "is_charter" "is_charter" (defArgs s_is_charter) (defBody s_is_charter) (defScope s_is_charter) .none kV doc pm an (.ref c) ct) ["value"] (spDoc isCharter Ts) := by
  refine fn_of lk hcd sc_is_charter (fun vs H Q E h => ?_) (fun A outer s H vs Q E hr h => ?_)
  · obtain ⟨v, d, rfl, _⟩ := h; rfl
  obtain ⟨v, d, rfl, hR, ho, hG, q⟩ := h
  refine ⟨_, PSs.nox (pss_cons (ps_if (pt_not (pt_val (c_is_headed.pe hr (pa_cons (pv 0) (pa_cons pe_str (pa_cons pe_int pa_nil)))))) (pss_one (ps_ret pe_bl)) pss_nil)
    (pss_cons (ps_asg (pv 0) (pg_tup rfl (pgs_cons (pg_name (i := 1) sc_is_charter.nd rfl (Or.inl rfl)) (pgs_cons (pg_name (i := 2) sc_is_charter.nd rfl (Or.inl rfl)) (pgs_cons (pg_name (i := 3) sc_is_charter.nd rfl (Or.inl rfl)) (pgs_cons (pg_name (i := 4) sc_is_charter.nd rfl (Or.inl rfl)) pgs_nil))))))
    (pss_cons (ps_if (PW.pt (pw_or (pt_not (pt_val (c_is_version.pe hr (pa_cons (pv 2) pa_nil)))) (pw_or1 (pt_not (pt_val (c_is_amount.pe hr (pa_cons (pv 3) pa_nil))))))) (pss_one (ps_ret pe_bl)) pss_nil)
    (pss_one (ps_ret (pe_and (c_is_tuple_of.pe hr (pa_cons (pv 4) (pa_cons (pe_cE D.c_ROLES) pa_nil))) (pe_one (pe_allG (N := ["role"]) (nt := 1) (fr := []) rfl hr B TB rfl (gnOf (by decide +kernel)) (by show freeOk _ (defScope s_is_charter) = true; decide +kernel) (by show capOk _ _ _ N_is_charter _ (defScope s_is_charter) = true; decide +kernel)
      (pi_tup (pv 4)) (fun _ _ _ _ _ hr => (pg_name (i := 0) (by show List.Nodup (["role"] : List Str); decide +kernel) rfl (Or.inl rfl))) (fun _ _ _ _ _ hr => pts_nil) (fun _ _ _ _ _ hr => (c_is_role.pe hr (pa_cons (pv 0) pa_nil))) (fun _ => rfl))))))))), ?_⟩
  walk_at "wp"
  have off : isCharter d = false → ∀ H', Kp Ts H H' → Tabs Ts H' → Q (.bl false) H' := fun h H' k g => by have y := q H' k g; rw [h] at y; exact y
  refine ⟨v, d, _, 4, rfl, hR, by decide, _, rfl, ?_⟩
  cases h1 : headB (Str.ofString "charter") 4 d with
  | false =>
    rw [if_pos rfl]
    exact off (by unfold isCharter; rw [h1]; rfl) H (Kp.refl _ _) hG
  | true =>
  rw [if_neg (by decide)]
  have h1' := h1
  unfold headB at h1'
  rw [Bool.and_eq_true] at h1'
  obtain ⟨p, xs, ds, rfl, ep, rfl, r, l1, l2⟩ := tupB_of hR h1'.1
  obtain ⟨x0, x1, x2, x3, d0, d1, d2, d3, rfl, rfl, R0, R1, R2, R3⟩ := rq4 r (by omega)
  obtain ⟨o1, o2⟩ := okD_tup.mp ho
  have e1 : isCharter (.tuple [d0, d1, d2, d3]) = (headB (Str.ofString "charter") 4 (.tuple [d0, d1, d2, d3]) && (numB 1 1000000000000 d1 && (numB 0 1000000000000 d2 && (tupB 4 4 d3 && (itD d3).all isRole)))) := rfl
  rw [h1, Bool.true_and] at e1
  rw [e1] at off q
  refine ⟨p, _, rfl, SqT.of ep, rfl, x0, _, rfl, x1, _, rfl, x2, _, rfl, x3, _, rfl, rfl, ?_⟩
  walk_at "wp"
  refine ⟨x1, d1, rfl, R1, _, rfl, ?_⟩
  cases h2 : numB 1 1000000000000 d1 with
  | false =>
    rw [if_pos rfl]
    exact off (by rw [h2]; rfl) H (Kp.refl _ _) hG
  | true =>
  rw [if_neg (by decide)]
  rw [h2, Bool.true_and] at off q
  refine ⟨x2, d2, rfl, R2, _, rfl, ?_⟩
  cases h3 : numB 0 1000000000000 d2 with
  | false =>
    rw [if_pos rfl]
    exact off (by rw [h3]; rfl) H (Kp.refl _ _) hG
  | true =>
  rw [if_neg (by decide)]
  rw [h3, Bool.true_and] at off q
  refine ⟨x3, d3, 4, rfl, R3, _, rfl, ?_⟩
  cases h4 : tupB 4 4 d3 with
  | false =>
    rw [if_neg (by decide)]
    exact off (by rw [h4]; rfl) H (Kp.refl _ _) hG
  | true =>
  rw [if_pos rfl]
  obtain ⟨b, ys, es, rfl, eb, rfl, rr, l3, l4⟩ := tupB_of R3 h4
  rw [h4, Bool.true_and, show itD (.tuple es) = es from rfl] at off q
  obtain ⟨o3, o4⟩ := okD_tup.mp (o2 (.tuple es) (by simp))
  refine ⟨_, rfl, b, rfl, ⟨ys, SqT.of eb⟩, hG _ mt, fun H2 hT => ?_⟩
  have g2 := hG.tab hT mt
  have k2 : Kp Ts H H2 := Kp.tab (hG _ mt) hT mt
  refine all_rq (K := K) (o := none) (cap := []) (f := isRole) (k2.get hG eb) (rr.tabs k2 hG) g2 (fun x d H' R hx md k3 g3 hq => ?_) (fun H3 k3 g3 h3 => ?_) (fun σ H3 k3 g3 h3 => ?_)
  · exact ⟨x, rfl, x, d, rfl, hx, ok_mono _ 12 d (by decide) (o4 d md), g3, hq⟩
  · exact off h3 H3 (k2.trans k3) g3
  · have y := q H3 (k2.trans k3) g3
    rw [h3] at y; exact y
end

/-! charters that a law draws, and what it asks of them -/
section
variable {P : Program} {w : World} {K : PySem.W.Frag} {mg : Str → Option Value} {base : Heap} {f : Addr} {fd : FuncData}
end

/-! stamps -/
abbrev s_is_stamp : Stmt := top 53
abbrev N_is_stamp : List Str := ["value", "_", "version", "expires", "shelf"]
theorem sc_is_stamp : FnScope N_is_stamp ["value"] (defScope s_is_stamp) := ⟨rfl, rfl, rfl, by decide +kernel, rfl, by decide +kernel, by decide +kernel⟩
def isStamp (d : PyData) : Bool := headB (Str.ofString "stamp") 4 d && (numB 1 1000000000000 (ixD d 1) && (numB 0 1000000000000 (ixD d 2) && isEntry (ixD d 3)))
section
variable {P : Program} {w : World} {K : PySem.W.Frag} {mg : Str → Option Value} {base : Heap} {f : Addr} {fd : FuncData}
theorem ok_stamp {Ts : List Addr} (F : Fun K "is_stamp" "is_stamp" s_is_stamp f fd) (B : Blt mg)
    (c_is_headed : Cal P w K mg base CX0 2 "_is_headed" spHead) (c_is_version : Cal P w K mg base CX0 2 "_is_version" (spNumP 1)) (c_is_amount : Cal P w K mg base CX0 2 "is_amount" (spNumP 0)) (c_is_entry : Cal P w K mg base CX0 4 "_is_entry" (spDoc isEntry Ts)) :
    FnOk P w K mg base CX0 12 f fd ["value"] (spDoc isStamp Ts) := by
  refine F.ok sc_is_stamp (fun vs H Q E h => ?_) (fun cdv A outer s H vs Q E hr h => ?_)
  · obtain ⟨v, d, rfl, _⟩ := h; rfl
  obtain ⟨v, d, rfl, hR, ho, hG, q⟩ := h
  refine ⟨_, (pss_cons (ps_if (pt_not (pt_val (c_is_headed.pe hr (pa_cons (pv 0) (pa_cons pe_str (pa_cons pe_int pa_nil)))))) (pss_one (ps_ret pe_bl)) pss_nil)
    (pss_cons (ps_asg (pv 0) (pg_tup rfl (pgs_cons (pg_name (i := 1) sc_is_stamp.nd rfl (Or.inl rfl)) (pgs_cons (pg_name (i := 2) sc_is_stamp.nd rfl (Or.inl rfl)) (pgs_cons (pg_name (i := 3) sc_is_stamp.nd rfl (Or.inl rfl)) (pgs_cons (pg_name (i := 4) sc_is_stamp.nd rfl (Or.inl rfl)) pgs_nil))))))
    (pss_one (ps_ret (pe_and (c_is_version.pe hr (pa_cons (pv 2) pa_nil)) (pe_and (c_is_amount.pe hr (pa_cons (pv 3) pa_nil)) (pe_one (c_is_entry.pe hr (pa_cons (pv 4) pa_nil))))))))), ?_⟩
  walk_at "wp"
  have off : isStamp d = false → Q (.bl false) H := fun h => by have y := q H (Kp.refl _ _) hG; rw [h] at y; exact y
  refine ⟨v, d, _, 4, rfl, hR, by decide, _, rfl, ?_⟩
  cases h1 : headB (Str.ofString "stamp") 4 d with
  | false =>
    rw [if_pos rfl]
    exact off (by unfold isStamp; rw [h1]; rfl)
  | true =>
  rw [if_neg (by decide)]
  have h1' := h1
  unfold headB at h1'
  rw [Bool.and_eq_true] at h1'
  obtain ⟨p, xs, ds, rfl, ep, rfl, r, l1, l2⟩ := tupB_of hR h1'.1
  obtain ⟨x0, x1, x2, x3, d0, d1, d2, d3, rfl, rfl, R0, R1, R2, R3⟩ := rq4 r (by omega)
  obtain ⟨o1, o2⟩ := okD_tup.mp ho
  have e1 : isStamp (.tuple [d0, d1, d2, d3]) = (headB (Str.ofString "stamp") 4 (.tuple [d0, d1, d2, d3]) && (numB 1 1000000000000 d1 && (numB 0 1000000000000 d2 && isEntry d3))) := rfl
  rw [h1, Bool.true_and] at e1
  rw [e1] at off q
  refine ⟨p, _, rfl, SqT.of ep, rfl, x0, _, rfl, x1, _, rfl, x2, _, rfl, x3, _, rfl, rfl, ?_⟩
  walk_at "wp"
  refine ⟨x1, d1, rfl, R1, _, rfl, ?_⟩
  cases h2 : numB 1 1000000000000 d1 with
  | false =>
    rw [if_neg (by decide)]
    exact off (by rw [h2]; rfl)
  | true =>
  rw [if_pos rfl]
  rw [h2, Bool.true_and] at off q
  refine ⟨x2, d2, rfl, R2, _, rfl, ?_⟩
  cases h3 : numB 0 1000000000000 d2 with
  | false =>
    rw [if_neg (by decide)]
    exact off (by rw [h3]; rfl)
  | true =>
  rw [if_pos rfl]
  rw [h3, Bool.true_and] at off q
  exact ⟨x3, d3, rfl, R3, ok_mono _ 12 d3 (by decide) (o2 d3 (by simp)), hG, q⟩
end

/-! shelves -/
abbrev s_is_named_entry : Stmt := top 63
abbrev N_is_named_entry : List Str := ["value"]
theorem sc_is_named_entry : FnScope N_is_named_entry ["value"] (defScope s_is_named_entry) := ⟨rfl, rfl, rfl, by decide +kernel, rfl, by decide +kernel, by decide +kernel⟩
abbrev s_is_shelf : Stmt := top 54
abbrev N_is_shelf : List Str := ["value", "_", "version", "expires", "lists", "names", "row"]
theorem sc_is_shelf : FnScope N_is_shelf ["value"] (defScope s_is_shelf) := ⟨rfl, rfl, rfl, by decide +kernel, rfl, by decide +kernel, by decide +kernel⟩
def isNE (d : PyData) : Bool := tupB 4 4 d && (lnD (ixD d 0) && isEntry (.tuple ((itD d).drop 1)))
def nmD (d : PyData) : Str := strD (ixD d 0)
def isShelf (d : PyData) : Bool := headB (Str.ofString "shelf") 4 d && (numB 1 1000000000000 (ixD d 1) && (numB 0 1000000000000 (ixD d 2) && (tupB 1 32 (ixD d 3) && ((itD (ixD d 3)).all isNE && (asc ((itD (ixD d 3)).map nmD) && decide (Str.ofString "list" ∈ (itD (ixD d 3)).map nmD))))))
structure DshC (mg : Str → Option Value) : Prop where
  c_MOST_LISTS : ∃ t, mg "MOST_LISTS" = some (.int 32 t)
  c_TOP_LIST : ∃ t, mg "TOP_LIST" = some (.str "list" t)
theorem isNE_of {H : Hp} {v : V} {d : PyData} (r : Rq H v d) (h : isNE d = true) : ∃ (p : Addr) (xs : List V) (z : Str) (es : List PyData), v = .ref p ∧ H p = some (.tup (.str z :: xs)) ∧ d = .tuple (.str z :: es) ∧ RqA H xs es ∧ lnS z = true := by
  unfold isNE at h
  rw [Bool.and_eq_true, Bool.and_eq_true] at h
  obtain ⟨h1, h2, _⟩ := h
  obtain ⟨p, xs, ds, rfl, ep, rfl, rr, l1, l2⟩ := tupB_of r h1
  cases rr with
  | nil => exact absurd l1 (by decide)
  | @cons v vs d ds a b =>
    have h2 : lnD d = true := h2
    cases a with
    | str z => exact ⟨p, vs, z, ds, rfl, ep, rfl, b, h2⟩
    | _ => cases h2
section
variable {P : Program} {w : World} {K : PySem.W.Frag} {mg : Str → Option Value} {base : Heap} {f : Addr} {fd : FuncData}
theorem ok_nentry {Pc : Addr} {Ts : List Addr} (F : Fun K "_is_named_entry" "_is_named_entry" s_is_named_entry f fd) (B : Blt mg) (mc : Pc ∈ Ts) (c_is_tuple_of : Cal P w K mg base CX0 1 "_is_tuple_of" spTOf) (c_is_list_name : Cal P w K mg base CX0 4 "is_list_name" (spNm lnV Pc)) (c_is_entry : Cal P w K mg base CX0 4 "_is_entry" (spDoc isEntry Ts)) : FnOk P w K mg base CX0 5 f fd ["value"] (spDoc isNE Ts) := by
  refine F.ok sc_is_named_entry (fun vs H Q E h => ?_) (fun cdv A outer s H vs Q E hr h => ?_)
  · obtain ⟨v, d, rfl, _⟩ := h; rfl
  obtain ⟨v, d, rfl, hR, ho, hG, q⟩ := h
  refine ⟨_, (pss_one (ps_ret (pe_and (c_is_tuple_of.pe hr (pa_cons (pv 0) (pa_cons pe_int pa_nil))) (pe_and (c_is_list_name.pe hr (pa_cons (pe_ix ix_tM (pv 0) pe_int (fun _ _ => rfl)) pa_nil)) (pe_one (c_is_entry.pe hr (pa_cons (pe_slice sl_tupA (pv 0) (po_some pe_int) po_none) pa_nil))))))), ?_⟩
  walk_at "wp"
  have off : isNE d = false → ∀ H', Kp Ts H H' → Tabs Ts H' → Q (.bl false) H' := fun h H' k g => by have y := q H' k g; rw [h] at y; exact y
  refine ⟨v, d, 4, rfl, hR, _, rfl, ?_⟩
  cases h1 : tupB 4 4 d with
  | false =>
    rw [if_neg (by decide)]
    exact off (by unfold isNE; rw [h1]; rfl) _ (Kp.refl _ _) hG
  | true =>
  obtain ⟨p, xs, ds, rfl, ep, rfl, r, l1, l2⟩ := tupB_of hR h1
  obtain ⟨x0, x1, x2, x3, d0, d1, d2, d3, rfl, rfl, R0, R1, R2, R3⟩ := rq4 r (by omega)
  rw [if_pos rfl]
  obtain ⟨o1, o2⟩ := okD_tup.mp ho
  have e1 : isNE (.tuple [d0, d1, d2, d3]) = (lnD d0 && isEntry (.tuple [d1, d2, d3])) := rfl
  rw [e1] at off q
  refine ⟨p, rfl, _, ep, _, rfl, x0, rfl, hG _ mc, R0.tyx, ok_szV R0 (o2 d0 (by simp)), fun H1 k1 g1 => ⟨_, rfl, ?_⟩⟩
  rw [lnD_of R0]
  have K1 := k1.in1 mc
  have G1 := hG.kp1 k1 g1
  cases h2 : lnD d0 with
  | false =>
    rw [if_neg (by decide)]
    exact off (by rw [h2]; rfl) _ K1 G1
  | true =>
  rw [if_pos rfl]
  rw [h2, Bool.true_and] at q
  refine sl_q (k1.tup _ _ ep) fun z H2 k2 f2 => ?_
  have r2 := ((r.tabs K1 hG).kp0 k2).cut (some 1) none
  rw [cutD_tl] at r2
  exact ⟨.ref z, .tuple [d1, d2, d3], rfl, .tup f2 r2, okD_tup.mpr ⟨by show 3 ≤ 200000; decide, fun d m => o2 d (List.mem_cons_of_mem _ m)⟩, G1.kp0 k2, fun H3 k3 g3 => q H3 ((K1.trans k2.in0).trans k3) g3⟩
theorem ok_shelf {oc kV doc pm ct : Value} {od an : Option Addr} {osl : Array (Option Value)} {c Pt : Addr} {Ts : List Addr} (B : Blt mg) (TB : GxR.TabB base mg c Pt) (D : DshC mg) (mt : Pt ∈ Ts)
    (lk : K.lookup f = some ⟨oc, od, .func (PySem.W.fnOf "is_shelf" "is_shelf" (defArgs s_is_shelf) (defBody s_is_shelf) (defScope s_is_shelf) .none kV doc pm an (.ref c) ct), osl⟩) (hcd : PySem.W.codeIn K (.ref c) "is_shelf" = true)
    (c_is_headed : Cal P w K mg base CX0 2 "_is_headed" spHead) (c_is_version : Cal P w K mg base CX0 2 "_is_version" (spNumP 1)) (c_is_amount : Cal P w K mg base CX0 2 "is_amount" (spNumP 0)) (c_is_tuple_within : Cal P w K mg base CX0 1 "_is_tuple_within" spTIn) (c_is_named_entry : Cal P w K mg base CX0 5 "_is_named_entry" (spDoc isNE Ts)) (c_ascends : Cal P w K mg base CX0 1 "ascends" (spAsc K)) :
    FnOk P w K mg base CX0 12 f (PySem.W.fnOf "is_shelf" "is_shelf" (defArgs s_is_shelf) (defBody s_is_shelf) (defScope s_is_shelf) .none kV doc pm an (.ref c) ct) ["value"] (spDoc isShelf Ts) := by
  refine fn_of lk hcd sc_is_shelf (fun vs H Q E h => ?_) (fun A outer s H vs Q E hr h => ?_)
  · obtain ⟨v, d, rfl, _⟩ := h; rfl
  obtain ⟨v, d, rfl, hR, ho, hG, q⟩ := h
  refine ⟨_, PSs.nox (pss_cons (ps_if (pt_not (pt_val (c_is_headed.pe hr (pa_cons (pv 0) (pa_cons pe_str (pa_cons pe_int pa_nil)))))) (pss_one (ps_ret pe_bl)) pss_nil)
    (pss_cons (ps_asg (pv 0) (pg_tup rfl (pgs_cons (pg_name (i := 1) sc_is_shelf.nd rfl (Or.inl rfl)) (pgs_cons (pg_name (i := 2) sc_is_shelf.nd rfl (Or.inl rfl)) (pgs_cons (pg_name (i := 3) sc_is_shelf.nd rfl (Or.inl rfl)) (pgs_cons (pg_name (i := 4) sc_is_shelf.nd rfl (Or.inl rfl)) pgs_nil))))))
    (pss_cons (ps_if (PW.pt (pw_or (pt_not (pt_val (c_is_version.pe hr (pa_cons (pv 2) pa_nil)))) (pw_or1 (pt_not (pt_val (c_is_amount.pe hr (pa_cons (pv 3) pa_nil))))))) (pss_one (ps_ret pe_bl)) pss_nil)
    (pss_cons (ps_if (PW.pt (pw_or (pt_not (pt_val (c_is_tuple_within.pe hr (pa_cons (pv 4) (pa_cons pe_int (pa_cons (pe_cE D.c_MOST_LISTS) pa_nil)))))) (pw_or1 (pt_not (pt_val (pe_allG (N := ["row"]) (nt := 1) (fr := []) rfl hr B TB rfl (gnOf (by decide +kernel)) (by show freeOk _ (defScope s_is_shelf) = true; decide +kernel) (by show capOk _ _ _ N_is_shelf _ (defScope s_is_shelf) = true; decide +kernel)
      (pi_tup (pv 4)) (fun _ _ _ _ _ hr => (pg_name (i := 0) (by show List.Nodup (["row"] : List Str); decide +kernel) rfl (Or.inl rfl))) (fun _ _ _ _ _ hr => pts_nil) (fun _ _ _ _ _ hr => (c_is_named_entry.pe hr (pa_cons (pv 0) pa_nil))) (fun _ => rfl))))))) (pss_one (ps_ret pe_bl)) pss_nil)
    (pss_cons (ps_setLc (i := 5) (own := [("row", 6)]) (g := gName 6) (tt := tYes) rfl sc_is_shelf.nd rfl rfl (sw_true rfl rfl rfl (by decide +kernel)) (pi_tup (pv 4)) (blkOk_by (own := [("row", 6)]) (N := N_is_shelf) (sc := defScope s_is_shelf) (by decide +kernel)) (fun _ _ _ _ _ => pg_name (i := 6) sc_is_shelf.nd rfl (Or.inl rfl)) (fun _ _ _ _ _ => pts_nil) (fun _ _ _ _ _ => (pe_ix ix_tM (pv 6) pe_int (fun _ _ => rfl))))
    (pss_one (ps_ret (pe_and (c_ascends.pe hr (pa_cons (pv 5) pa_nil)) (pe_one (pe_cmpR (show OpR _ _ (rIn K false) from op_in_seq) (pe_cSE D.c_TOP_LIST) (pv 5) (by rfl))))))))))), ?_⟩
  walk_at "wp"
  have off : isShelf d = false → ∀ H', Kp Ts H H' → Tabs Ts H' → Q (.bl false) H' := fun h H' k g => by have y := q H' k g; rw [h] at y; exact y
  refine ⟨v, d, _, 4, rfl, hR, by decide, _, rfl, ?_⟩
  cases h1 : headB (Str.ofString "shelf") 4 d with
  | false =>
    rw [if_pos rfl]
    exact off (by unfold isShelf; rw [h1]; rfl) H (Kp.refl _ _) hG
  | true =>
  rw [if_neg (by decide)]
  have h1' := h1
  unfold headB at h1'
  rw [Bool.and_eq_true] at h1'
  obtain ⟨p, xs, ds, rfl, ep, rfl, r, l1, l2⟩ := tupB_of hR h1'.1
  obtain ⟨x0, x1, x2, x3, d0, d1, d2, d3, rfl, rfl, R0, R1, R2, R3⟩ := rq4 r (by omega)
  obtain ⟨o1, o2⟩ := okD_tup.mp ho
  have e1 : isShelf (.tuple [d0, d1, d2, d3]) = (headB (Str.ofString "shelf") 4 (.tuple [d0, d1, d2, d3]) && (numB 1 1000000000000 d1 && (numB 0 1000000000000 d2 && (tupB 1 32 d3 && ((itD d3).all isNE && (asc ((itD d3).map nmD) && decide (Str.ofString "list" ∈ (itD d3).map nmD))))))) := rfl
  rw [h1, Bool.true_and] at e1
  rw [e1] at off q
  refine ⟨p, _, rfl, SqT.of ep, rfl, x0, _, rfl, x1, _, rfl, x2, _, rfl, x3, _, rfl, rfl, ?_⟩
  walk_at "wp"
  refine ⟨x1, d1, rfl, R1, _, rfl, ?_⟩
  cases h2 : numB 1 1000000000000 d1 with
  | false =>
    rw [if_pos rfl]
    exact off (by rw [h2]; rfl) H (Kp.refl _ _) hG
  | true =>
  rw [if_neg (by decide)]
  rw [h2, Bool.true_and] at off q
  refine ⟨x2, d2, rfl, R2, _, rfl, ?_⟩
  cases h3 : numB 0 1000000000000 d2 with
  | false =>
    rw [if_pos rfl]
    exact off (by rw [h3]; rfl) H (Kp.refl _ _) hG
  | true =>
  rw [if_neg (by decide)]
  rw [h3, Bool.true_and] at off q
  refine ⟨x3, d3, 1, 32, rfl, R3, _, rfl, ?_⟩
  cases h4 : tupB 1 32 d3 with
  | false =>
    rw [if_pos rfl]
    exact off (by rw [h4]; rfl) H (Kp.refl _ _) hG
  | true =>
  rw [if_neg (by decide)]
  obtain ⟨b, ys, es, rfl, eb, rfl, rr, l3, l4⟩ := tupB_of R3 h4
  rw [h4, Bool.true_and, show itD (.tuple es) = es from rfl] at off q
  obtain ⟨o3, o4⟩ := okD_tup.mp (o2 (.tuple es) (by simp))
  refine ⟨_, rfl, b, rfl, ⟨ys, SqT.of eb⟩, hG _ mt, fun H2 hT => ?_⟩
  have g2 := hG.tab hT mt
  have k2 : Kp Ts H H2 := Kp.tab (hG _ mt) hT mt
  refine all_rq (K := K) (o := none) (cap := []) (f := isNE) (k2.get hG eb) (rr.tabs k2 hG) g2 (fun x d H' R hx md k3 g3 hq => ?_) (fun H3 k3 g3 h3 => ?_) (fun σ H3 k3 g3 h3 => ?_)
  · exact ⟨x, rfl, x, d, rfl, hx, ok_mono _ 12 d (by decide) (o4 d md), g3, hq⟩
  · refine ⟨_, rfl, ?_⟩
    rw [if_pos rfl]
    exact off (by rw [h3]; rfl) H3 (k2.trans k3) g3
  refine ⟨_, rfl, ?_⟩
  rw [if_neg (by decide)]
  have K3 := k2.trans k3
  rw [h3, Bool.true_and] at off q
  have al := List.all_eq_true.mp h3
  have e3 := K3.get hG eb
  have rr3 := rr.tabs K3 hG
  refine ⟨_, rfl, b, rfl, ⟨ys, SqT.of e3⟩, fun D hD => ?_⟩
  have nD : ∀ P ∈ Ts, P ∉ [D] := fun P m e => g3.ne0 hD (List.mem_singleton.mp e ▸ m)
  refine lc_tup (K := K) (a := b) (xs := ys) (fun i Hx => Kp Ts H3 Hx ∧ Tabs Ts Hx ∧ Hx D = some (.lst (((es.take i).map nmD).map V.str)))
    ⟨Kp.new hD _, g3.new hD _, upd_same⟩ (fun i Hx _ ⟨k, _, _⟩ => SqT.of (k.get g3 e3)) (fun i x Hx hx ⟨k4, g4, a4⟩ => ?_) (fun Hx ⟨k4, g4, a4⟩ => ?_)
  · obtain ⟨u, hu, Ru⟩ := rr3.get hx
    obtain ⟨pr, vs, z, us, rfl, epr, rfl, _, _⟩ := isNE_of (Ru.tabs k4 g3) (al u (List.mem_of_getElem? hu))
    refine ⟨rfl, ?_⟩
    simp only [tYes, if_true]
    refine ⟨_, rfl, pr, rfl, _, epr, 0, rfl, _, at0, _, a4, by rw [List.length_map, List.length_map, List.length_take, sizeLine_eq]; omega, Kp.upd k4 hD a4, g4.kp (Kp.lst a4 (List.mem_singleton.mpr rfl)) nD, ?_⟩
    rw [upd_same, List.take_add_one, hu]
    simp [nmD, ixD, itD, strD]
  · rw [rr.len, List.take_length] at a4
    refine ⟨D, es.map nmD, rfl, SqL.of a4, by rw [List.length_map]; omega, fun z hz => ?_, fun H5 k5 => ⟨_, rfl, ?_⟩⟩
    · obtain ⟨d, m, rfl⟩ := List.mem_map.mp hz
      obtain ⟨i, hi, e⟩ := List.getElem_of_mem m
      obtain ⟨x, _, Rx⟩ := rr3.at hi
      rw [List.getD_eq_getElem?_getD, List.getElem?_eq_getElem hi] at Rx
      have Rx : Rq H3 x d := e ▸ Rx
      obtain ⟨pr, vs, z, us, rfl, epr, rfl, _, hl⟩ := isNE_of Rx (al d m)
      exact strOk_low (ln_low hl).2
    have K5 := (K3.trans k4).trans (k5.in0 : Kp Ts Hx H5)
    have g5 := g4.kp0 k5
    cases h5 : asc (es.map nmD) with
    | false =>
      rw [if_neg (by decide)]
      exact off (by rw [h5]; rfl) H5 K5 g5
    | true =>
    rw [if_pos rfl]
    rw [h5, Bool.true_and] at q
    refine ⟨D, _, rfl, .inl (SqL.of (k5.keep _ _ List.not_mem_nil a4)), rfl, flat_strsQ _, ?_⟩
    rw [inV_strsQ]
    exact q H5 K5 g5
end

/-! lists -/
abbrev s_is_good : Stmt := top 64
abbrev N_is_good : List Str := ["value"]
theorem sc_is_good : FnScope N_is_good ["value"] (defScope s_is_good) := ⟨rfl, rfl, rfl, by decide +kernel, rfl, by decide +kernel, by decide +kernel⟩
abbrev s_is_list : Stmt := top 55
abbrev N_is_list : List Str := ["value", "_", "name", "version", "expires", "goods", "grants", "granted", "grant", "good"]
theorem sc_is_list : FnScope N_is_list ["value"] (defScope s_is_list) := ⟨rfl, rfl, rfl, by decide +kernel, rfl, by decide +kernel, by decide +kernel⟩
def isGood (d : PyData) : Bool := tupB 3 3 d && (paD paM (ixD d 0) && (numB 0 1000000000000 (ixD d 1) && isDig (ixD d 2)))
def isGoods (d : PyData) : Bool := tupB 0 64 d && ((itD d).all isGood && asc ((itD d).map nmG))
def isList (d : PyData) : Bool := headB (Str.ofString "list") 6 d && (lnD (ixD d 1) && (numB 1 1000000000000 (ixD d 2) && (numB 0 1000000000000 (ixD d 3) && (isGoods (ixD d 4) && (tupB 0 32 (ixD d 5) && ((itD (ixD d 5)).all isGrant && decide ((strD (ixD d 1) :: (itD (ixD d 5)).map nmG).Nodup)))))))
structure DlsC (mg : Str → Option Value) : Prop where
  c_MOST_GOODS : ∃ t, mg "MOST_GOODS" = some (.int 64 t)
  c_MOST_LISTS : ∃ t, mg "MOST_LISTS" = some (.int 32 t)
theorem isGood_of {H : Hp} {v : V} {d : PyData} (r : Rq H v d) (h : isGood d = true) : ∃ (p : Addr) (xs : List V) (z : Str) (es : List PyData), v = .ref p ∧ H p = some (.tup (.str z :: xs)) ∧ d = .tuple (.str z :: es) ∧ RqA H xs es ∧ hpS paM z = true ∧ es.length = 2 := by
  unfold isGood at h
  simp only [Bool.and_eq_true] at h
  obtain ⟨h1, h2, _⟩ := h
  obtain ⟨p, xs, ds, rfl, ep, rfl, rr, l1, l2⟩ := tupB_of r h1
  cases rr with
  | nil => exact absurd l1 (by decide)
  | @cons v vs d ds a b =>
    have h2 : paD paM d = true := h2
    cases a with
    | str z => exact ⟨p, vs, z, ds, rfl, ep, rfl, b, h2, by rw [List.length_cons] at l1 l2; omega⟩
    | _ => cases h2
theorem strOk_good {H : Hp} {ds : List PyData} {n : Nat} (ho : ∀ d ∈ ds, okD n d = true) {xs : List V} (r : RqA H xs ds) {f : PyData → Bool} (hf : ∀ (v : V) (d : PyData), Rq H v d → f d = true → ∃ z es, d = .tuple (.str z :: es)) (al : ∀ d ∈ ds, f d = true) : ∀ z ∈ ds.map nmG, PyData.strOk z = true := fun z hz => by
  obtain ⟨d, m, rfl⟩ := List.mem_map.mp hz
  obtain ⟨i, hi, e⟩ := List.getElem_of_mem m
  obtain ⟨x, _, Rx⟩ := r.at hi
  rw [List.getD_eq_getElem?_getD, List.getElem?_eq_getElem hi] at Rx
  have Rx : Rq H x d := e ▸ Rx
  obtain ⟨z, es, rfl⟩ := hf x d Rx (al d m)
  have o := ho _ m
  cases n with
  | zero => cases o
  | succ n => exact (okD_str.mp ((okD_tup.mp o).2 _ List.mem_cons_self)).2
theorem asc_sorted {ys xs : List Str} (p : ys.Perm xs) (s : PyProof.Rows.sortedS ys = true) : asc ys = decide xs.Nodup := by
  cases h : asc ys with
  | true => exact (decide_eq_true (p.nodup_iff.mp (asc_nodup h))).symm
  | false =>
    refine (decide_eq_false fun n => ?_).symm
    rw [asc_of s (p.nodup_iff.mpr n)] at h
    cases h
section
variable {P : Program} {w : World} {K : PySem.W.Frag} {mg : Str → Option Value} {base : Heap} {f : Addr} {fd : FuncData}
theorem ok_good {Ts : List Addr} (F : Fun K "_is_good" "_is_good" s_is_good f fd) (B : Blt mg) (c_is_tuple_of : Cal P w K mg base CX0 1 "_is_tuple_of" spTOf) (c_is_path : Cal P w K mg base CX0 7 "is_path" (spPa paM Ts)) (c_is_amount : Cal P w K mg base CX0 2 "is_amount" (spNumP 0)) (c_is_digest : Cal P w K mg base CX0 3 "is_digest" (spDoc isDig Ts)) : FnOk P w K mg base CX0 8 f fd ["value"] (spDoc isGood Ts) := by
  refine F.ok sc_is_good (fun vs H Q E h => ?_) (fun cdv A outer s H vs Q E hr h => ?_)
  · obtain ⟨v, d, rfl, _⟩ := h; rfl
  obtain ⟨v, d, rfl, hR, ho, hG, q⟩ := h
  refine ⟨_, (pss_one (ps_ret (pe_and (c_is_tuple_of.pe hr (pa_cons (pv 0) (pa_cons pe_int pa_nil))) (pe_and (c_is_path.pe hr (pa_cons (pe_ix ix_tM (pv 0) pe_int (fun _ _ => rfl)) pa_nil)) (pe_and (c_is_amount.pe hr (pa_cons (pe_ix ix_tM (pv 0) pe_int (fun _ _ => rfl)) pa_nil)) (pe_one (c_is_digest.pe hr (pa_cons (pe_ix ix_tM (pv 0) pe_int (fun _ _ => rfl)) pa_nil)))))))), ?_⟩
  walk_at "wp"
  have off : isGood d = false → ∀ H', Kp Ts H H' → Tabs Ts H' → Q (.bl false) H' := fun h H' k g => by have y := q H' k g; rw [h] at y; exact y
  refine ⟨v, d, 3, rfl, hR, _, rfl, ?_⟩
  cases h1 : tupB 3 3 d with
  | false =>
    rw [if_neg (by decide)]
    exact off (by unfold isGood; rw [h1]; rfl) _ (Kp.refl _ _) hG
  | true =>
  rw [if_pos rfl]
  obtain ⟨p, xs, ds, rfl, ep, rfl, r, l1, l2⟩ := tupB_of hR h1
  obtain ⟨x0, x1, x2, d0, d1, d2, rfl, rfl, R0, R1, R2⟩ := rq3 r (by omega)
  obtain ⟨o1, o2⟩ := okD_tup.mp ho
  have e1 : isGood (.tuple [d0, d1, d2]) = (paD paM d0 && (numB 0 1000000000000 d1 && isDig d2)) := rfl
  rw [e1] at off q
  refine ⟨p, rfl, _, ep, _, rfl, x0, rfl, hG, R0.tyx, ok_szV R0 (o2 d0 (by simp)), fun H1 k1 g1 => ⟨_, rfl, ?_⟩⟩
  rw [paD_of R0]
  cases h2 : paD paM d0 with
  | false =>
    rw [if_neg (by decide)]
    exact off (by rw [h2]; rfl) _ k1 g1
  | true =>
  rw [if_pos rfl]
  rw [h2, Bool.true_and] at off q
  refine ⟨p, rfl, _, k1.get hG ep, _, rfl, x1, d1, rfl, R1.tabs k1 hG, _, rfl, ?_⟩
  cases h3 : numB 0 1000000000000 d1 with
  | false =>
    rw [if_neg (by decide)]
    exact off (by rw [h3]; rfl) _ k1 g1
  | true =>
  rw [if_pos rfl]
  rw [h3, Bool.true_and] at off q
  exact ⟨p, rfl, _, k1.get hG ep, _, rfl, x2, d2, rfl, R2.tabs k1 hG, ok_mono _ 12 d2 (by decide) (o2 d2 (by simp)), g1, fun H2 k2 g2 => q H2 (k1.trans k2) g2⟩
theorem ok_list {oc kV doc pm ct : Value} {od an : Option Addr} {osl : Array (Option Value)} {c Pt Pc : Addr} {Ts : List Addr} (B : Blt mg) (z1 : mg "sorted" = none) (TB : GxR.TabB base mg c Pt) (D : DlsC mg) (mt : Pt ∈ Ts) (mc : Pc ∈ Ts)
    (lk : K.lookup f = some ⟨oc, od, .func (PySem.W.fnOf "is_list" "is_list" (defArgs s_is_list) (defBody s_is_list) (defScope s_is_list) .none kV doc pm an (.ref c) ct), osl⟩) (hcd : PySem.W.codeIn K (.ref c) "is_list" = true)
    (c_is_headed : Cal P w K mg base CX0 2 "_is_headed" spHead) (c_is_list_name : Cal P w K mg base CX0 4 "is_list_name" (spNm lnV Pc)) (c_is_version : Cal P w K mg base CX0 2 "_is_version" (spNumP 1)) (c_is_amount : Cal P w K mg base CX0 2 "is_amount" (spNumP 0)) (c_is_tuple_within : Cal P w K mg base CX0 1 "_is_tuple_within" spTIn) (c_is_good : Cal P w K mg base CX0 8 "_is_good" (spDoc isGood Ts)) (c_is_grant : Cal P w K mg base CX0 11 "is_grant" (spDoc isGrant Ts)) (c_ascends : Cal P w K mg base CX0 1 "ascends" (spAsc K)) :
    FnOk P w K mg base CX0 15 f (PySem.W.fnOf "is_list" "is_list" (defArgs s_is_list) (defBody s_is_list) (defScope s_is_list) .none kV doc pm an (.ref c) ct) ["value"] (spDoc isList Ts) := by
  refine fn_of lk hcd sc_is_list (fun vs H Q E h => ?_) (fun A outer s H vs Q E hr h => ?_)
  · obtain ⟨v, d, rfl, _⟩ := h; rfl
  obtain ⟨v, d, rfl, hR, ho, hG, q⟩ := h
  refine ⟨_, PSs.nox (pss_cons (ps_if (pt_not (pt_val (c_is_headed.pe hr (pa_cons (pv 0) (pa_cons pe_str (pa_cons pe_int pa_nil)))))) (pss_one (ps_ret pe_bl)) pss_nil)
    (pss_cons (ps_asg (pv 0) (pg_tup rfl (pgs_cons (pg_name (i := 1) sc_is_list.nd rfl (Or.inl rfl)) (pgs_cons (pg_name (i := 2) sc_is_list.nd rfl (Or.inl rfl)) (pgs_cons (pg_name (i := 3) sc_is_list.nd rfl (Or.inl rfl)) (pgs_cons (pg_name (i := 4) sc_is_list.nd rfl (Or.inl rfl)) (pgs_cons (pg_name (i := 5) sc_is_list.nd rfl (Or.inl rfl)) (pgs_cons (pg_name (i := 6) sc_is_list.nd rfl (Or.inl rfl)) pgs_nil))))))))
    (pss_cons (ps_if (PW.pt (pw_or (pt_not (pt_val (c_is_list_name.pe hr (pa_cons (pv 2) pa_nil)))) (pw_or (pt_not (pt_val (c_is_version.pe hr (pa_cons (pv 3) pa_nil)))) (pw_or1 (pt_not (pt_val (c_is_amount.pe hr (pa_cons (pv 4) pa_nil)))))))) (pss_one (ps_ret pe_bl)) pss_nil)
    (pss_cons (ps_if (PW.pt (pw_or (pt_not (pt_val (c_is_tuple_within.pe hr (pa_cons (pv 5) (pa_cons pe_int (pa_cons (pe_cE D.c_MOST_GOODS) pa_nil)))))) (pw_or1 (pt_not (pt_val (pe_allG (N := ["good"]) (nt := 1) (fr := []) rfl hr B TB rfl (gnOf (by decide +kernel)) (by show freeOk _ (defScope s_is_list) = true; decide +kernel) (by show capOk _ _ _ N_is_list _ (defScope s_is_list) = true; decide +kernel)
      (pi_tup (pv 5)) (fun _ _ _ _ _ hr => (pg_name (i := 0) (by show List.Nodup (["good"] : List Str); decide +kernel) rfl (Or.inl rfl))) (fun _ _ _ _ _ hr => pts_nil) (fun _ _ _ _ _ hr => (c_is_good.pe hr (pa_cons (pv 0) pa_nil))) (fun _ => rfl))))))) (pss_one (ps_ret pe_bl)) pss_nil)
    (pss_cons (ps_if (PW.pt (pw_or (pt_not (pt_val (c_is_tuple_within.pe hr (pa_cons (pv 6) (pa_cons pe_int (pa_cons (pe_cE D.c_MOST_LISTS) pa_nil)))))) (pw_or1 (pt_not (pt_val (pe_allG (N := ["grant"]) (nt := 1) (fr := []) rfl hr B TB rfl (gnOf (by decide +kernel)) (by show freeOk _ (defScope s_is_list) = true; decide +kernel) (by show capOk _ _ _ N_is_list _ (defScope s_is_list) = true; decide +kernel)
      (pi_tup (pv 6)) (fun _ _ _ _ _ hr => (pg_name (i := 0) (by show List.Nodup (["grant"] : List Str); decide +kernel) rfl (Or.inl rfl))) (fun _ _ _ _ _ hr => pts_nil) (fun _ _ _ _ _ hr => (c_is_grant.pe hr (pa_cons (pv 0) pa_nil))) (fun _ => rfl))))))) (pss_one (ps_ret pe_bl)) pss_nil)
    (pss_cons (ps_setLc (i := 7) (own := [("grant", 8)]) (g := gName 8) (tt := tYes) rfl sc_is_list.nd rfl rfl (sw_true rfl rfl rfl (by decide +kernel)) (pi_tup (pv 6)) (blkOk_by (own := [("grant", 8)]) (N := N_is_list) (sc := defScope s_is_list) (by decide +kernel)) (fun _ _ _ _ _ => pg_name (i := 8) sc_is_list.nd rfl (Or.inl rfl)) (fun _ _ _ _ _ => pts_nil) (fun _ _ _ _ _ => (pe_ix ix_tM (pv 8) pe_int (fun _ _ => rfl))))
    (pss_one (ps_ret (pe_and (c_ascends.pe hr (pa_cons (pe_lc (own := [("good", 9)]) (g := gName 9) (tt := tYes) rfl sc_is_list.nd (pi_tup (pv 5)) (blkOk_by (own := [("good", 9)]) (N := N_is_list) (sc := defScope s_is_list) (by decide +kernel)) (fun _ _ _ _ _ => pg_name (i := 9) sc_is_list.nd rfl (Or.inl rfl)) (fun _ _ _ _ _ => pts_nil) (fun _ _ _ _ _ => (pe_ix ix_tM (pv 9) pe_int (fun _ _ => rfl)))) pa_nil)) (pe_and (c_ascends.pe hr (pa_cons (pe_callB cr_sortedA rfl z1 (by decide +kernel) (pa_cons (pv 7) pa_nil)) pa_nil)) (pe_one (pe_cmpR (show OpR _ _ (rIn K true) from op_notIn_seq) (pv 2) (pv 7) (by rfl))))))))))))), ?_⟩
  walk_at "wp"
  have off : isList d = false → ∀ H', Kp Ts H H' → Tabs Ts H' → Q (.bl false) H' := fun h H' k g => by have y := q H' k g; rw [h] at y; exact y
  refine ⟨v, d, _, 6, rfl, hR, by decide, _, rfl, ?_⟩
  cases h1 : headB (Str.ofString "list") 6 d with
  | false =>
    rw [if_pos rfl]
    exact off (by unfold isList; rw [h1]; rfl) H (Kp.refl _ _) hG
  | true =>
  rw [if_neg (by decide)]
  have h1' := h1
  unfold headB at h1'
  rw [Bool.and_eq_true] at h1'
  obtain ⟨p, xs, ds, rfl, ep, rfl, r, l1, l2⟩ := tupB_of hR h1'.1
  obtain ⟨x0, x1, x2, x3, x4, x5, d0, d1, d2, d3, d4, d5, rfl, rfl, R0, R1, R2, R3, R4, R5⟩ := rq6 r (by omega)
  obtain ⟨o1, o2⟩ := okD_tup.mp ho
  have e1 : isList (.tuple [d0, d1, d2, d3, d4, d5]) = (headB (Str.ofString "list") 6 (.tuple [d0, d1, d2, d3, d4, d5]) && (lnD d1 && (numB 1 1000000000000 d2 && (numB 0 1000000000000 d3 && (isGoods d4 && (tupB 0 32 d5 && ((itD d5).all isGrant && decide ((strD d1 :: (itD d5).map nmG).Nodup)))))))) := rfl
  rw [h1, Bool.true_and] at e1
  rw [e1] at off q
  refine ⟨p, _, rfl, SqT.of ep, rfl, x0, _, rfl, x1, _, rfl, x2, _, rfl, x3, _, rfl, x4, _, rfl, x5, _, rfl, rfl, ?_⟩
  walk_at "wp"
  refine ⟨x1, rfl, hG _ mc, R1.tyx, ok_szV R1 (o2 d1 (by simp)), fun H1 k1 g1 => ⟨_, rfl, ?_⟩⟩
  rw [lnD_of R1]
  have K1 := k1.in1 mc
  have G1 := hG.kp1 k1 g1
  cases h2 : lnD d1 with
  | false =>
    rw [if_pos rfl]
    exact off (by rw [h2]; rfl) _ K1 G1
  | true =>
  rw [if_neg (by decide)]
  rw [h2, Bool.true_and] at off q
  obtain ⟨z, rfl, rfl⟩ : ∃ z, x1 = .str z ∧ d1 = .str z := isS_of R1 (by cases d1 <;> first | rfl | cases h2)
  refine ⟨x2, d2, rfl, R2.tabs K1 hG, _, rfl, ?_⟩
  cases h3 : numB 1 1000000000000 d2 with
  | false =>
    rw [if_pos rfl]
    exact off (by rw [h3]; rfl) _ K1 G1
  | true =>
  rw [if_neg (by decide)]
  rw [h3, Bool.true_and] at off q
  refine ⟨x3, d3, rfl, R3.tabs K1 hG, _, rfl, ?_⟩
  cases h4 : numB 0 1000000000000 d3 with
  | false =>
    rw [if_pos rfl]
    exact off (by rw [h4]; rfl) _ K1 G1
  | true =>
  rw [if_neg (by decide)]
  rw [h4, Bool.true_and] at off q
  refine ⟨x4, d4, 0, 64, rfl, R4.tabs K1 hG, _, rfl, ?_⟩
  cases h5 : tupB 0 64 d4 with
  | false =>
    rw [if_pos rfl]
    exact off (by unfold isGoods; rw [h5]; rfl) _ K1 G1
  | true =>
  rw [if_neg (by decide)]
  obtain ⟨b, ys, es, rfl, eb, rfl, rr, l3, l4⟩ := tupB_of R4 h5
  rw [show isGoods (.tuple es) = (tupB 0 64 (.tuple es) && (es.all isGood && asc (es.map nmG))) from rfl, h5, Bool.true_and] at off q
  obtain ⟨o3, o4⟩ := okD_tup.mp (o2 (.tuple es) (by simp))
  have e3 := K1.get hG eb
  refine ⟨_, rfl, b, rfl, ⟨ys, SqT.of e3⟩, G1 _ mt, fun H2 hT => ?_⟩
  have g2 := G1.tab hT mt
  have k2 : Kp Ts H1 H2 := Kp.tab (G1 _ mt) hT mt
  have K2 := K1.trans k2
  refine all_rq (K := K) (o := none) (cap := []) (f := isGood) (K2.get hG eb) (rr.tabs K2 hG) g2 (fun x d H' R hx md k3 g3 hq => ?_) (fun H3 k3 g3 h6 => ?_) (fun σ H3 k3 g3 h6 => ?_)
  · exact ⟨x, rfl, x, d, rfl, hx, ok_mono _ 12 d (by decide) (o4 d md), g3, hq⟩
  · refine ⟨_, rfl, ?_⟩
    rw [if_pos rfl]
    exact off (by rw [h6]; rfl) H3 (K2.trans k3) g3
  refine ⟨_, rfl, ?_⟩
  rw [if_neg (by decide)]
  have K3 := K2.trans k3
  rw [h6, Bool.true_and] at off q
  have al := List.all_eq_true.mp h6
  refine ⟨x5, d5, 0, 32, rfl, R5.tabs K3 hG, _, rfl, ?_⟩
  cases h7 : tupB 0 32 d5 with
  | false =>
    rw [if_pos rfl]
    exact off (by rw [h7, Bool.false_and, Bool.and_false]) _ K3 g3
  | true =>
  rw [if_neg (by decide)]
  obtain ⟨b2, ws, us, rfl, eb2, rfl, ru, l5, l6⟩ := tupB_of R5 h7
  rw [h7, Bool.true_and, show itD (.tuple us) = us from rfl] at off q
  obtain ⟨o5, o6⟩ := okD_tup.mp (o2 (.tuple us) (by simp))
  have e5 := K3.get hG eb2
  refine ⟨_, rfl, b2, rfl, ⟨ws, SqT.of e5⟩, g3 _ mt, fun H4 hT => ?_⟩
  have g4 := g3.tab hT mt
  have k4 : Kp Ts H3 H4 := Kp.tab (g3 _ mt) hT mt
  have K4 := K3.trans k4
  refine all_rq (K := K) (o := none) (cap := []) (f := isGrant) (K4.get hG eb2) (ru.tabs K4 hG) g4 (fun x d H' R hx md k5 g5 hq => ?_) (fun H5 k5 g5 h8 => ?_) (fun σ H5 k5 g5 h8 => ?_)
  · exact ⟨x, rfl, x, d, rfl, hx, ok_mono _ 12 d (by decide) (o6 d md), g5, hq⟩
  · refine ⟨_, rfl, ?_⟩
    rw [if_pos rfl]
    exact off (by rw [h8, Bool.false_and, Bool.and_false]) H5 (K4.trans k5) g5
  have K5 := K4.trans k5
  refine ⟨_, rfl, ?_⟩
  rw [if_neg (by decide)]
  rw [h8, Bool.true_and] at off q
  have alG := List.all_eq_true.mp h8
  refine lc_nm (nm := nmG) (K5.get hG eb2) (ru.tabs K5 hG) o5 (fun R h => ⟨_, rfl, h⟩) (fun _ => rfl) (fun x d H' R hx md hr => ?_) (fun D H6 k6 a6 hD => ?_)
  · obtain ⟨p2, xs2, z2, es2, rfl, ep2, rfl, _⟩ := isGrant_of hx (alG d md)
    exact ⟨_, rfl, p2, rfl, _, ep2, 0, rfl, _, at0, hr⟩
  have K6 := K5.trans (k6.in0 : Kp Ts H5 H6)
  have g6 := g5.kp0 k6
  refine lc_nm (nm := nmG) (K6.get hG eb) (rr.tabs K6 hG) o3 (fun R h => ⟨_, rfl, h⟩) (fun _ => rfl) (fun x d H' R hx md hr => ?_) (fun D2 H7 k7 a7 hD2 => ?_)
  · obtain ⟨p2, xs2, z2, es2, rfl, ep2, rfl, _⟩ := isGood_of hx (al d md)
    exact ⟨_, rfl, p2, rfl, _, ep2, 0, rfl, _, at0, hr⟩
  have K7 := K6.trans (k7.in0 : Kp Ts H6 H7)
  have g7 := g6.kp0 k7
  have sg := strOk_good o4 rr (f := isGood) (fun v d r h => by obtain ⟨_, _, z, es, _, _, e, _⟩ := isGood_of r h; exact ⟨z, es, e⟩) al
  refine ⟨D2, es.map nmG, rfl, SqL.of a7, by rw [List.length_map]; omega, sg, fun H8 k8 => ⟨_, rfl, ?_⟩⟩
  cases h9 : asc (es.map nmG) with
  | false =>
    rw [if_neg (by decide)]
    exact off (by rw [h9]; rfl) H8 (K7.trans k8.in0) (g7.kp0 k8)
  | true =>
  rw [if_pos rfl]
  rw [h9, Bool.true_and] at off q
  have a8 := (k7.trans k8).keep D _ List.not_mem_nil a6
  refine ⟨D, us.map nmG, rfl, SqL.of a8, fun ns p9 perm srt hp9 => ?_⟩
  have k9 := Kp.new (S := []) hp9 (.lst (ns.map V.str))
  have sgg := strOk_good o6 ru (f := isGrant) (fun v d r h => by obtain ⟨_, _, z, es, _, _, e, _⟩ := isGrant_of r h; exact ⟨z, es, e⟩) alG
  have ln9 : ns.length = us.length := by rw [perm.length_eq, List.length_map]
  refine ⟨p9, ns, rfl, SqL.of upd_same, by omega, fun z hz => sgg z (perm.mem_iff.mp hz), fun H10 k10 => ⟨_, rfl, ?_⟩⟩
  have K10 := ((K7.trans (k8.in0 : Kp Ts H7 H8)).trans (k9.in0 : Kp Ts H8 _)).trans (k10.in0 : Kp Ts _ H10)
  have g10 := ((g7.kp0 k8).kp0 k9).kp0 k10
  rw [asc_sorted perm srt]
  cases h10 : decide (us.map nmG).Nodup with
  | false =>
    rw [if_neg (by decide)]
    exact off (decide_eq_false fun n => of_decide_eq_false h10 (List.nodup_cons.mp n).2) _ K10 g10
  | true =>
  rw [if_pos rfl]
  have a10 := (k9.trans k10).keep D _ List.not_mem_nil a8
  have y := q _ K10 g10
  rw [show decide (strD (PyData.str z) :: us.map nmG).Nodup = !decide (z ∈ us.map nmG) by
    rw [Bool.eq_iff_iff, decide_eq_true_eq, Bool.not_eq_true', decide_eq_false_iff_not, List.nodup_cons]
    exact ⟨fun h => h.1, fun h => ⟨h, of_decide_eq_true h10⟩⟩] at y
  refine ⟨D, _, rfl, .inl (SqL.of a10), rfl, flat_strsQ _, ?_⟩
  rw [inV_strsQ]
  exact y
end

/-! lists: what the law asks -/
theorem lpM_emp (d : PyData) : paD (lpM (Str.ofString "")) d = paD paM d := by
  cases d with
  | str z => exact lpM_none z
  | _ => rfl
section
variable {P : Program} {w : World} {K : PySem.W.Frag} {mg : Str → Option Value} {base : Heap} {f : Addr} {fd : FuncData}
end

/-! lists: how the law draws them -/
mutual
theorem in_up : ∀ (n m : Nat) (d : PyData), n ≤ m → inD n d = true → inD m d = true
  | n, m, .int i, _, h => inD_int.mpr (inD_int.mp h)
  | n, m, .str z, _, h => inD_str.mpr (inD_str.mp h)
  | n, m, .none, _, h => by cases n <;> cases h
  | n, m, .bool _, _, h => by cases n <;> cases h
  | n, m, .list _, _, h => by cases n <;> cases h
  | n, m, .dict _, _, h => by cases n <;> cases h
  | 0, _, .tuple _, _, h => by cases h
  | n + 1, 0, .tuple _, q, _ => by omega
  | n + 1, m + 1, .tuple ds, q, h => by
    have z : (decide (ds.length ≤ 100) && inDs n ds) = true := h
    rw [Bool.and_eq_true] at z
    show (decide (ds.length ≤ 100) && inDs m ds) = true
    rw [z.1, ins_up n m ds (by omega) z.2]; rfl
theorem ins_up : ∀ (n m : Nat) (ds : List PyData), n ≤ m → inDs n ds = true → inDs m ds = true
  | _, _, [], _, _ => rfl
  | n, m, d :: ds, q, h => by
    have h : (inD n d && inDs n ds) = true := h
    rw [Bool.and_eq_true] at h
    show (inD m d && inDs m ds) = true
    rw [in_up n m d q h.1, ins_up n m ds q h.2]; rfl
end
section
variable {P : Program} {w : World} {K : PySem.W.Frag} {mg : Str → Option Value} {base : Heap} {f : Addr} {fd : FuncData}
end

/-! published names -/
def vS (n : Int) : Str := Str.ofString (toString n)
theorem emp_app (x : Str) : Str.empty ++ x = x := TL.ext_tl (by rw [TL.tl_append]; rfl)
theorem len_appF (x y : Str) : (x ++ y).length = x.length + y.length := by
  rw [TL.len_tl, TL.tl_append, List.length_append, ← TL.len_tl, ← TL.len_tl]
theorem vS_up {n : Int} (h0 : 0 ≤ n) (h1 : n ≤ 1000000000000) : n.natAbs.log2 < 1920 ∧ (vS n).length ≤ 20 := by
  refine ⟨(intT h0 (by omega)).1, ?_⟩
  obtain ⟨m, rfl⟩ : ∃ m : Nat, n = (m : Nat) := ⟨n.toNat, by omega⟩
  show (Str.ofString (toString ((m : Nat) : Int))).length ≤ 20
  rw [toString_S, S_len]
  exact dig_len (by omega)
section
variable {P : Program} {w : World} {K : PySem.W.Frag} {mg : Str → Option Value} {base : Heap} {f : Addr} {fd : FuncData}
def spNmC (w : Str) : Sp := fun vs H Q _ => ∃ n : Int, vs = [.int n] ∧ 0 ≤ n ∧ n ≤ 1000000000000 ∧ Q (.str (vS n ++ w)) H
def spNmL : Sp := fun vs H Q _ => ∃ (z : Str) (n : Int), vs = [.str z, .int n] ∧ z.length ≤ 1000 ∧ 0 ≤ n ∧ n ≤ 1000000000000 ∧ Q (.str (vS n ++ Str.ofString "." ++ z ++ Str.ofString ".list")) H
def spFile : Sp := fun vs H Q _ => ∃ p d : Str, vs = [.str p, .str d] ∧ p.length ≤ 1000 ∧ d.length ≤ 1000 ∧ Q (.str (d ++ Str.ofString "." ++ p)) H
end
/-! a document, or BadDocument -/
def isDoc (d : PyData) : Bool := isCharter d || isStamp d || isShelf d || isList d
structure BdC (K : PySem.W.Frag) (mg : Str → Option Value) (C0 : Addr) : Prop where
  BadDocument : Err K mg "BadDocument" C0
def spReq (C0 : Addr) (Ts : List Addr) : Sp := fun vs H Q E => ∃ (v : V) (d : PyData), vs = [v] ∧ Rq H v d ∧ okD 12 d = true ∧ Tabs Ts H ∧ (isDoc d = true → ∀ H', Kp Ts H H' → Tabs Ts H' → Q .non H') ∧ (isDoc d = false → ∀ H', Kp Ts H H' → Tabs Ts H' → E (.ref C0) none H')
section
variable {P : Program} {w : World} {K : PySem.W.Frag} {mg : Str → Option Value} {base : Heap} {f : Addr} {fd : FuncData} {C0 : Addr} {Ts : List Addr}
end
/-! published_name -/
def intD : PyData → Int
  | .int i => i
  | _ => 0
def pubN (d : PyData) : Str :=
  if strD (ixD d 0) = Str.ofString "charter" then vS (intD (ixD d 1)) ++ Str.ofString ".charter"
  else if strD (ixD d 0) = Str.ofString "stamp" then Str.ofString "stamp"
  else if strD (ixD d 0) = Str.ofString "shelf" then vS (intD (ixD d 1)) ++ Str.ofString ".shelf"
  else vS (intD (ixD d 2)) ++ Str.ofString "." ++ strD (ixD d 1) ++ Str.ofString ".list"
theorem eqS_of {k : Str} {H : Hp} {v : V} {d : PyData} (r : Rq H v d) (h : eqS k d = true) : v = .str k ∧ d = .str k := by
  cases r with
  | str z =>
    have h : decide (z = k) = true := h
    rw [of_decide_eq_true h]; exact ⟨rfl, rfl⟩
  | _ => cases h
theorem head4 {k : Str} {H : Hp} {v : V} {d : PyData} (r : Rq H v d) (h : headB k 4 d = true) : ∃ (p : Addr) (x1 x2 x3 : V) (d1 d2 d3 : PyData), v = .ref p ∧ H p = some (.tup [.str k, x1, x2, x3]) ∧ d = .tuple [.str k, d1, d2, d3] ∧ Rq H x1 d1 := by
  unfold headB at h
  rw [Bool.and_eq_true] at h
  obtain ⟨p, xs, ds, rfl, ep, rfl, rr, l1, l2⟩ := tupB_of r h.1
  obtain ⟨x0, x1, x2, x3, d0, d1, d2, d3, rfl, rfl, R0, R1, R2, R3⟩ := rq4 rr (by omega)
  obtain ⟨rfl, rfl⟩ := eqS_of R0 (show eqS k d0 = true from h.2)
  exact ⟨p, x1, x2, x3, d1, d2, d3, rfl, ep, rfl, R1⟩
def spPub (C0 : Addr) (Ts : List Addr) : Sp := fun vs H Q E => ∃ (v : V) (d : PyData), vs = [v] ∧ Rq H v d ∧ okD 12 d = true ∧ Tabs Ts H ∧ (isDoc d = true → ∀ H', Kp Ts H H' → Tabs Ts H' → Q (.str (pubN d)) H') ∧ (isDoc d = false → ∀ H', Kp Ts H H' → Tabs Ts H' → E (.ref C0) none H')
section
variable {P : Program} {w : World} {K : PySem.W.Frag} {mg : Str → Option Value} {base : Heap} {f : Addr} {fd : FuncData} {C0 : Addr} {Ts : List Addr}
end

/-! a drawn document of any kind -/
def spDocD : Sp := fun vs H Q _ => ∃ (s : Addr) (m : Int), vs = [.ref s, .int m] ∧ Strm H s ∧ ∀ (v : V) (d : PyData) (H' : Hp), Rq H' v d → inD 7 d = true → isDoc d = true → Kp [s] H H' → Strm H' s → Q v H'
def tsP (K : PySem.W.Frag) (C C2 : Addr) : Addr → Value → Option Addr → TS := fun a cls d D σ H => (cls = .ref C ∧ d = none) ∧ tRet (tAndV (tNotV (tVar 1)) (tCB (rIsE K C a) (tCons (tVar 3) (tCons (tC (.ref C2)) tNil)))) D σ H
section
variable {P : Program} {w : World} {K : PySem.W.Frag} {mg : Str → Option Value} {base : Heap} {f : Addr} {fd : FuncData}
end

/-! documents as trees, and their texts -/
mutual
theorem Rq.rep {H : Hp} : ∀ (n : Nat) {v : V} {d : PyData}, Rq H v d → pl n (trD d) = true → Rep H v (trD d)
  | _, _, _, .int i, _ => .int i
  | _, _, _, .str z, _ => .str z
  | 0, _, _, .tup _ _, h => by cases h
  | n + 1, _, _, .tup (ds := ds) e r, h => .tup e (r.rep n (show pls n (trDs ds) = true from h))
  | _, _, _, .non, h => by cases h
  | _, _, _, .bl _, h => by cases h
  | _, _, _, .lst _ _, h => by cases h
theorem RqA.rep {H : Hp} : ∀ (n : Nat) {vs : List V} {ds : List PyData}, RqA H vs ds → pls n (trDs ds) = true → RepAll H vs (trDs ds)
  | _, _, _, .nil, _ => .nil
  | n, _, _, .cons (d := d) (ds := ds) a b, h => by
    have h : (pl n (trD d) && pls n (trDs ds)) = true := h
    rw [Bool.and_eq_true] at h
    exact .cons (a.rep n h.1) (b.rep n h.2)
end
mutual
theorem Rep.rq {H : Hp} : ∀ (n : Nat) {v : V} {t : Tr}, Rep H v t → pl n t = true → Rq H v (dT t)
  | _, _, _, .int i, _ => .int i
  | _, _, _, .str z, _ => .str z
  | 0, _, _, .tup _ _, h => by cases h
  | n + 1, _, _, .tup (ts := ts) e r, h => .tup e (r.rq n (show pls n ts = true from h))
  | _, _, _, .oth _ _ _ _, h => by cases h
theorem RepAll.rq {H : Hp} : ∀ (n : Nat) {vs : List V} {ts : List Tr}, RepAll H vs ts → pls n ts = true → RqA H vs (dTs ts)
  | _, _, _, .nil, _ => .nil
  | n, _, _, .cons (t := t) (ts := ts) a b, h => by
    have h : (pl n t && pls n ts) = true := h
    rw [Bool.and_eq_true] at h
    exact .cons (a.rq n h.1) (b.rq n h.2)
end
mutual
theorem tr_dT : ∀ (n : Nat) (t : Tr), pl n t = true → trD (dT t) = t
  | _, .int _, _ => rfl
  | _, .str _, _ => rfl
  | 0, .tup _, h => by cases h
  | n + 1, .tup ts, h => congrArg Tr.tup (trs_dT n ts h)
  | _, .oth _, h => by cases h
theorem trs_dT : ∀ (n : Nat) (ts : List Tr), pls n ts = true → trDs (dTs ts) = ts
  | _, [], _ => rfl
  | n, t :: ts, h => by
    have h : (pl n t && pls n ts) = true := h
    rw [Bool.and_eq_true] at h
    show trD (dT t) :: trDs (dTs ts) = _
    rw [tr_dT n t h.1, trs_dT n ts h.2]
end
mutual
theorem dT_tr : ∀ (n : Nat) (d : PyData), pl n (trD d) = true → dT (trD d) = d
  | _, .int _, _ => rfl
  | _, .str _, _ => rfl
  | 0, .tuple _, h => by cases h
  | n + 1, .tuple ds, h => congrArg PyData.tuple (dTs_tr n ds h)
  | _, .none, h => by cases h
  | _, .bool _, h => by cases h
  | _, .list _, h => by cases h
  | _, .dict _, h => by cases h
theorem dTs_tr : ∀ (n : Nat) (ds : List PyData), pls n (trDs ds) = true → dTs (trDs ds) = ds
  | _, [], _ => rfl
  | n, d :: ds, h => by
    have h : (pl n (trD d) && pls n (trDs ds)) = true := h
    rw [Bool.and_eq_true] at h
    show dT (trD d) :: dTs (trDs ds) = _
    rw [dT_tr n d h.1, dTs_tr n ds h.2]
end
/-- plain to the depth n, of a text of L signs at most -/
def Sz (n L : Nat) (d : PyData) : Prop := pl n (trD d) = true ∧ (txt (trD d)).length ≤ L
def Szs (n L : Nat) (ds : List PyData) : Prop := pls n (trDs ds) = true ∧ (txts (trDs ds)).length ≤ L
theorem szs_nil {n : Nat} : Szs n 0 [] := ⟨rfl, Nat.zero_le _⟩
theorem szs_cons {n a b : Nat} {d : PyData} {ds : List PyData} (h : Sz n a d) (g : Szs n b ds) : Szs n (a + b) (d :: ds) := by
  refine ⟨?_, ?_⟩
  · show (pl n (trD d) && pls n (trDs ds)) = true
    rw [h.1, g.1]; rfl
  · show (txt (trD d) ++ txts (trDs ds)).length ≤ _
    rw [List.length_append]
    have := h.2
    have := g.2
    omega
theorem szs_all {n a : Nat} : ∀ {m : Nat} {ds : List PyData}, (∀ d ∈ ds, Sz n a d) → ds.length ≤ m → Szs n (m * a) ds
  | _, [], _, _ => ⟨rfl, Nat.zero_le _⟩
  | 0, _ :: _, _, h => absurd h (by simp)
  | m + 1, d :: ds, h, l => by
    have := szs_cons (h d List.mem_cons_self) (szs_all (m := m) (fun e he => h e (List.mem_cons_of_mem _ he)) (by simp only [List.length_cons] at l; omega))
    rw [show (m + 1) * a = a + m * a by rw [Nat.succ_mul, Nat.add_comm]]
    exact this
theorem sz_tup {n L : Nat} {ds : List PyData} (h : Szs n L ds) : Sz (n + 1) (L + 2) (.tuple ds) := by
  refine ⟨h.1, ?_⟩
  show (91 :: (txts (trDs ds) ++ [93])).length ≤ _
  rw [List.length_cons, List.length_append]
  have := h.2
  show _ + 1 + 1 ≤ _
  omega
theorem sz_mono {n m a b : Nat} {d : PyData} (h : Sz n a d) (h1 : n ≤ m) (h2 : a ≤ b) : Sz m b d := ⟨pl_mono n m _ h1 h.1, Nat.le_trans h.2 h2⟩
theorem sz_int {n : Nat} {i : Int} (h0 : 0 ≤ i) (h1 : i ≤ 1000000000000) : Sz n 14 (.int i) := by
  refine ⟨?_, ?_⟩
  · show (decide (0 ≤ i) && decide (i ≤ 99999999999999999999)) = true
    rw [decide_eq_true h0, decide_eq_true (show i ≤ 99999999999999999999 by omega)]; rfl
  · show (dig i.toNat ++ [46]).length ≤ _
    rw [List.length_append]
    have : (dig i.toNat).length ≤ 13 := TL.numL_len (by decide) (show i.toNat < 10 ^ 13 by omega)
    show _ + 1 ≤ _
    omega
theorem sz_str {n m : Nat} {z : Str} (h : prn z = true) (l : z.length ≤ m) (hm : m < 100) : Sz n (m + 3) (.str z) := by
  refine ⟨h, ?_⟩
  show (dig z.length ++ 58 :: TL.tl z).length ≤ _
  rw [List.length_append, List.length_cons, ← TL.len_tl]
  have : (dig z.length).length ≤ 2 := TL.numL_len (by decide) (show z.length < 10 ^ 2 by omega)
  omega
theorem sz_num {n : Nat} {lo hi : Int} {d : PyData} (h : numB lo hi d = true) (h0 : 0 ≤ lo) (h1 : hi ≤ 1000000000000) : Sz n 14 d := by
  cases d with
  | int i =>
    have h : (decide (lo ≤ i) && decide (i ≤ hi)) = true := h
    rw [Bool.and_eq_true, decide_eq_true_eq, decide_eq_true_eq] at h
    exact sz_int (by omega) (by omega)
  | _ => cases h
theorem inT_prn {m z : Str} (h : inT m z = true) (hm : ∀ c ∈ m.cps.toList, prc c = true) : prn z = true := by
  unfold prn
  unfold inT at h
  rw [List.all_eq_true] at h ⊢
  exact fun c hc => hm c (of_decide_eq_true (h c hc))
theorem joinL_in {s c : Nat} : ∀ {l : List (List Nat)}, c ∈ TL.joinL [s] l → c = s ∨ ∃ p ∈ l, c ∈ p
  | [], h => by cases h
  | [p], h => .inr ⟨p, List.mem_cons_self, h⟩
  | p :: q :: r, h => by
    have h : c ∈ p ++ ([s] ++ TL.joinL [s] (q :: r)) := h
    rcases List.mem_append.mp h with h | h
    · exact .inr ⟨p, List.mem_cons_self, h⟩
    · rcases List.mem_append.mp h with h | h
      · exact .inl (List.mem_singleton.mp h)
      · rcases joinL_in h with h | ⟨x, hx, h⟩
        · exact .inl h
        · exact .inr ⟨x, List.mem_cons_of_mem _ hx, h⟩
theorem hpS_prn {m z : Str} (h : hpS m z = true) (hm : ∀ c ∈ m.cps.toList, prc c = true) : prn z = true ∧ z.length ≤ 60 := by
  unfold hpS at h
  rw [Bool.and_eq_true, Bool.and_eq_true, decide_eq_true_eq] at h
  refine ⟨?_, h.1.1⟩
  unfold prn
  rw [List.all_eq_true]
  intro c hc
  obtain ⟨p, ps, e1, e2, _, _⟩ := split_one z 47 (by decide)
  have hc : c ∈ TL.tl z := hc
  rw [← e2, ← e1] at hc
  rcases joinL_in hc with rfl | ⟨q, hq, hc⟩
  · decide
  · obtain ⟨y, hy, rfl⟩ := List.mem_map.mp hq
    have ha := List.all_eq_true.mp h.2 y hy
    rw [Bool.and_eq_true] at ha
    have hi := ha.2
    unfold inT at hi
    rw [List.all_eq_true] at hi
    exact hm c (of_decide_eq_true (hi c hc))
theorem tupB_d {a b : Nat} {d : PyData} (h : tupB a b d = true) : ∃ ds, d = .tuple ds ∧ a ≤ ds.length ∧ ds.length ≤ b := by
  cases d with
  | tuple ds =>
    have h : (decide (a ≤ ds.length) && decide (ds.length ≤ b)) = true := h
    rw [Bool.and_eq_true, decide_eq_true_eq, decide_eq_true_eq] at h
    exact ⟨ds, rfl, h.1, h.2⟩
  | _ => cases h
theorem tup2_d {d : PyData} (h : tupB 2 2 d = true) : ∃ a b, d = .tuple [a, b] := by
  obtain ⟨ds, rfl, h1, h2⟩ := tupB_d h
  match ds, h1, h2 with
  | [a, b], _, _ => exact ⟨a, b, rfl⟩
  | [], h, _ => exact absurd h (by simp)
  | [_], h, _ => exact absurd h (by simp)
  | _ :: _ :: _ :: _, _, h => exact absurd h (by simp)
theorem tup3_d {d : PyData} (h : tupB 3 3 d = true) : ∃ a b c, d = .tuple [a, b, c] := by
  obtain ⟨ds, rfl, h1, h2⟩ := tupB_d h
  match ds, h1, h2 with
  | [a, b, c], _, _ => exact ⟨a, b, c, rfl⟩
  | [], h, _ => exact absurd h (by simp)
  | [_], h, _ => exact absurd h (by simp)
  | [_, _], h, _ => exact absurd h (by simp)
  | _ :: _ :: _ :: _ :: _, _, h => exact absurd h (by simp)
theorem tup4_d {d : PyData} (h : tupB 4 4 d = true) : ∃ a b c e, d = .tuple [a, b, c, e] := by
  obtain ⟨ds, rfl, h1, h2⟩ := tupB_d h
  match ds, h1, h2 with
  | [a, b, c, e], _, _ => exact ⟨a, b, c, e, rfl⟩
  | [], h, _ => exact absurd h (by simp)
  | [_], h, _ => exact absurd h (by simp)
  | [_, _], h, _ => exact absurd h (by simp)
  | [_, _, _], h, _ => exact absurd h (by simp)
  | _ :: _ :: _ :: _ :: _ :: _, _, h => exact absurd h (by simp)
theorem tup6_d {d : PyData} (h : tupB 6 6 d = true) : ∃ a b c e f g, d = .tuple [a, b, c, e, f, g] := by
  obtain ⟨ds, rfl, h1, h2⟩ := tupB_d h
  match ds, h1, h2 with
  | [a, b, c, e, f, g], _, _ => exact ⟨a, b, c, e, f, g, rfl⟩
  | [], h, _ => exact absurd h (by simp)
  | [_], h, _ => exact absurd h (by simp)
  | [_, _], h, _ => exact absurd h (by simp)
  | [_, _, _], h, _ => exact absurd h (by simp)
  | [_, _, _, _], h, _ => exact absurd h (by simp)
  | [_, _, _, _, _], h, _ => exact absurd h (by simp)
  | _ :: _ :: _ :: _ :: _ :: _ :: _ :: _, _, h => exact absurd h (by simp)
theorem ky_prn {z : Str} (h : kyS z = true) : prn z = true := by
  unfold prn
  rw [List.all_eq_true]
  intro c hc
  unfold kyS at h
  simp only [Bool.and_eq_true, decide_eq_true_eq] at h
  obtain ⟨⟨⟨h1, h2⟩, h3⟩, h4⟩ := h
  have hl : z.cps.toList.length = z.length := cps_lenP z
  cases e : z.cps.toList with
  | nil => rw [e] at hl; simp at hl; omega
  | cons d r =>
    have hc : c ∈ d :: r := by rw [← e]; exact hc
    rw [e] at h3
    have h3 : d = 107 := Option.some.inj h3
    rcases List.mem_cons.mp hc with hc | hc
    · rw [hc, h3]; decide +kernel
    · unfold inT at h4
      rw [List.all_eq_true] at h4
      have e2 : (cutS z (some 1) none).cps.toList = r := by
        have := cut_from z 1
        rw [show TL.tl z = d :: r from e] at this
        exact this
      have := of_decide_eq_true (h4 c (by rw [e2]; exact hc))
      exact (by decide +kernel : ∀ c ∈ (Str.ofString "0123456789").cps.toList, prc c = true) c this
theorem sz_ky {n : Nat} {d : PyData} (h : kyD d = true) : Sz n 15 d := by
  cases d with
  | str z =>
    have h : kyS z = true := h
    refine sz_str (m := 12) (ky_prn h) ?_ (by decide)
    unfold kyS at h
    simp only [Bool.and_eq_true, decide_eq_true_eq] at h
    exact h.1.1.2
  | _ => cases h
theorem sz_ln {n : Nat} {d : PyData} (h : lnD d = true) : Sz n 15 d := by
  cases d with
  | str z =>
    have h : lnS z = true := h
    unfold lnS at h
    simp only [Bool.and_eq_true, decide_eq_true_eq] at h
    exact sz_str (m := 12) (inT_prn h.2 (by decide +kernel)) h.1.2 (by decide)
  | _ => cases h
theorem sz_dig {n : Nat} {d : PyData} (h : isDig d = true) : Sz n 21 d := by
  cases d with
  | str z =>
    have h : (decide (z.length = 18) && inT hexM z) = true := h
    rw [Bool.and_eq_true, decide_eq_true_eq] at h
    exact sz_str (m := 18) (inT_prn h.2 (by decide +kernel)) (by omega) (by decide)
  | _ => cases h
theorem sz_pa {n : Nat} {m : Str} {d : PyData} (h : paD m d = true) (hm : ∀ c ∈ m.cps.toList, prc c = true) : Sz n 63 d := by
  cases d with
  | str z =>
    obtain ⟨a, b⟩ := hpS_prn (show hpS m z = true from h) hm
    exact sz_str (m := 60) a b (by decide)
  | _ => cases h
theorem sz_eqS {n : Nat} {k : Str} {d : PyData} (h : eqS k d = true) (p : prn k = true) (l : k.length ≤ 7) : Sz n 10 d := by
  cases d with
  | str z =>
    have h : decide (z = k) = true := h
    rw [of_decide_eq_true h]
    exact sz_str (m := 7) p l (by decide)
  | _ => cases h
theorem sz_role {d : PyData} (h : isRole d = true) : Sz 2 258 d := by
  unfold isRole at h
  simp only [Bool.and_eq_true] at h
  obtain ⟨h1, h2, h3, _, h5⟩ := h
  obtain ⟨a, b, rfl⟩ := tup2_d h1
  obtain ⟨ks, rfl, l1, l2⟩ := tupB_d (show tupB 1 16 b = true from h2)
  have h5 : numB 1 (ks.length : Nat) a = true := h5
  have h3 : ks.all kyD = true := h3
  have key : Sz 1 (16 * 15 + 2) (.tuple ks) := sz_tup (szs_all (fun d m => sz_ky (List.all_eq_true.mp h3 d m)) l2)
  exact sz_mono (sz_tup (szs_cons (sz_num h5 (by decide) (by omega)) (szs_cons key szs_nil))) (by decide) (by decide)
theorem sz_entry {d : PyData} (h : isEntry d = true) : Sz 1 51 d := by
  unfold isEntry at h
  simp only [Bool.and_eq_true] at h
  obtain ⟨h1, h2, h3, h4⟩ := h
  obtain ⟨a, b, c, rfl⟩ := tup3_d h1
  exact sz_mono (sz_tup (szs_cons (sz_num (n := 0) (show numB 1 1000000000000 a = true from h2) (by decide) (by decide)) (szs_cons (sz_num (n := 0) (show numB 0 1000000000000 b = true from h3) (by decide) (by decide)) (szs_cons (sz_dig (show isDig c = true from h4)) szs_nil)))) (by decide) (by decide)
theorem sz_NE {d : PyData} (h : isNE d = true) : Sz 1 66 d := by
  unfold isNE at h
  simp only [Bool.and_eq_true] at h
  obtain ⟨h1, h2, h3⟩ := h
  obtain ⟨a, b, c, e, rfl⟩ := tup4_d h1
  have h3 : isEntry (.tuple [b, c, e]) = true := h3
  unfold isEntry at h3
  simp only [Bool.and_eq_true] at h3
  obtain ⟨_, g1, g2, g3⟩ := h3
  exact sz_mono (sz_tup (szs_cons (sz_ln (show lnD a = true from h2)) (szs_cons (sz_num (n := 0) (show numB 1 1000000000000 b = true from g1) (by decide) (by decide)) (szs_cons (sz_num (n := 0) (show numB 0 1000000000000 c = true from g2) (by decide) (by decide)) (szs_cons (sz_dig (show isDig e = true from g3)) szs_nil))))) (by decide) (by decide)
theorem sz_good {d : PyData} (h : isGood d = true) : Sz 1 100 d := by
  unfold isGood at h
  simp only [Bool.and_eq_true] at h
  obtain ⟨h1, h2, h3, h4⟩ := h
  obtain ⟨a, b, c, rfl⟩ := tup3_d h1
  exact sz_mono (sz_tup (szs_cons (sz_pa (show paD paM a = true from h2) (by decide +kernel)) (szs_cons (sz_num (n := 0) (show numB 0 1000000000000 b = true from h3) (by decide) (by decide)) (szs_cons (sz_dig (show isDig c = true from h4)) szs_nil)))) (by decide) (by decide)
theorem sz_grant {d : PyData} (h : isGrant d = true) : Sz 3 795 d := by
  unfold isGrant at h
  simp only [Bool.and_eq_true] at h
  obtain ⟨h1, h2, _, h3, h4, h5, h6⟩ := h
  obtain ⟨a, b, c, e, rfl⟩ := tup4_d h1
  obtain ⟨ps, rfl, l1, l2⟩ := tupB_d (show tupB 1 8 c = true from h4)
  have h5 : ps.all (paD ptM) = true := h5
  have pat : Sz 2 (8 * 63 + 2) (.tuple ps) := sz_tup (szs_all (fun d m => sz_pa (List.all_eq_true.mp h5 d m) (by decide +kernel)) l2)
  exact sz_mono (sz_tup (szs_cons (sz_ln (show lnD a = true from h2)) (szs_cons (sz_role (show isRole b = true from h3)) (szs_cons pat (szs_cons (sz_num (show numB 0 1 e = true from h6) (by decide) (by decide)) szs_nil))))) (by decide) (by decide)
theorem sz_charter {d : PyData} (h : isCharter d = true) : Sz 4 1100 d := by
  unfold isCharter headB at h
  simp only [Bool.and_eq_true] at h
  obtain ⟨⟨h1, h0⟩, h2, h3, h4, h5⟩ := h
  obtain ⟨a, b, c, e, rfl⟩ := tup4_d h1
  obtain ⟨rs, rfl, l1, l2⟩ := tupB_d (show tupB 4 4 e = true from h4)
  have h5 : rs.all isRole = true := h5
  have roles : Sz 3 (4 * 258 + 2) (.tuple rs) := sz_tup (szs_all (fun d m => sz_role (List.all_eq_true.mp h5 d m)) l2)
  exact sz_mono (sz_tup (szs_cons (sz_eqS (show eqS (Str.ofString "charter") a = true from h0) (by decide +kernel) (by decide +kernel)) (szs_cons (sz_num (show numB 1 1000000000000 b = true from h2) (by decide) (by decide)) (szs_cons (sz_num (show numB 0 1000000000000 c = true from h3) (by decide) (by decide)) (szs_cons roles szs_nil))))) (by decide) (by decide)
theorem sz_stamp {d : PyData} (h : isStamp d = true) : Sz 2 100 d := by
  unfold isStamp headB at h
  simp only [Bool.and_eq_true] at h
  obtain ⟨⟨h1, h0⟩, h2, h3, h4⟩ := h
  obtain ⟨a, b, c, e, rfl⟩ := tup4_d h1
  exact sz_mono (sz_tup (szs_cons (sz_eqS (n := 1) (show eqS (Str.ofString "stamp") a = true from h0) (by decide +kernel) (by decide +kernel)) (szs_cons (sz_num (show numB 1 1000000000000 b = true from h2) (by decide) (by decide)) (szs_cons (sz_num (show numB 0 1000000000000 c = true from h3) (by decide) (by decide)) (szs_cons (sz_entry (show isEntry e = true from h4)) szs_nil))))) (by decide) (by decide)
theorem sz_shelf {d : PyData} (h : isShelf d = true) : Sz 3 2200 d := by
  unfold isShelf headB at h
  simp only [Bool.and_eq_true] at h
  obtain ⟨⟨h1, h0⟩, h2, h3, h4, h5, _⟩ := h
  obtain ⟨a, b, c, e, rfl⟩ := tup4_d h1
  obtain ⟨rs, rfl, l1, l2⟩ := tupB_d (show tupB 1 32 e = true from h4)
  have h5 : rs.all isNE = true := h5
  have rows : Sz 2 (32 * 66 + 2) (.tuple rs) := sz_tup (szs_all (fun d m => sz_NE (List.all_eq_true.mp h5 d m)) l2)
  exact sz_mono (sz_tup (szs_cons (sz_eqS (show eqS (Str.ofString "shelf") a = true from h0) (by decide +kernel) (by decide +kernel)) (szs_cons (sz_num (show numB 1 1000000000000 b = true from h2) (by decide) (by decide)) (szs_cons (sz_num (show numB 0 1000000000000 c = true from h3) (by decide) (by decide)) (szs_cons rows szs_nil))))) (by decide) (by decide)
theorem sz_list {d : PyData} (h : isList d = true) : Sz 5 32000 d := by
  unfold isList headB at h
  simp only [Bool.and_eq_true] at h
  obtain ⟨⟨h1, h0⟩, h2, h3, h4, h5, h6, h7, _⟩ := h
  obtain ⟨a, b, c, e, g, r, rfl⟩ := tup6_d h1
  have h5b : isGoods g = true := h5
  unfold isGoods at h5b
  simp only [Bool.and_eq_true] at h5b
  obtain ⟨gs, rfl, l1, l2⟩ := tupB_d h5b.1
  obtain ⟨rs, rfl, l3, l4⟩ := tupB_d (show tupB 0 32 r = true from h6)
  have g5 : gs.all isGood = true := h5b.2.1
  have h7 : rs.all isGrant = true := h7
  have goods : Sz 2 (64 * 100 + 2) (.tuple gs) := sz_tup (szs_all (fun d m => sz_good (List.all_eq_true.mp g5 d m)) l2)
  have grants : Sz 4 (32 * 795 + 2) (.tuple rs) := sz_tup (szs_all (fun d m => sz_grant (List.all_eq_true.mp h7 d m)) l4)
  exact sz_mono (sz_tup (szs_cons (sz_eqS (show eqS (Str.ofString "list") a = true from h0) (by decide +kernel) (by decide +kernel)) (szs_cons (sz_ln (show lnD b = true from h2)) (szs_cons (sz_num (show numB 1 1000000000000 c = true from h3) (by decide) (by decide)) (szs_cons (sz_num (show numB 0 1000000000000 e = true from h4) (by decide) (by decide)) (szs_cons (sz_mono goods (by decide) (Nat.le_refl _)) (szs_cons grants szs_nil))))))) (by decide) (by decide)

/-! the law's digest, with a remainder at each step -/
abbrev s_law_digest : Stmt := top 85
abbrev N_law_digest : List Str := ["text", "number", "char", "digits", "k"]
theorem sc_law_digest : FnScope N_law_digest ["text"] (defScope s_law_digest) := ⟨rfl, rfl, rfl, by decide +kernel, rfl, by decide +kernel, by decide +kernel⟩
section
variable {P : Program} {w : World} {K : PySem.W.Frag} {mg : Str → Option Value} {base : Heap} {f : Addr} {fd : FuncData}
theorem ok_ldig (F : Fun K "_law_digest" "_law_digest" s_law_digest f fd) (B : Blt mg) : FnOk P w K mg base CX0 1 f fd ["text"] spLDig := by
  refine F.ok sc_law_digest (fun vs H Q E h => ?_) (fun cdv A outer s H vs Q E hr h => ?_)
  · obtain ⟨z, rfl, _⟩ := h; rfl
  obtain ⟨z, rfl, hz, q⟩ := h
  refine ⟨_, (pss_cons (ps_set (i := 1) sc_law_digest.nd rfl (Or.inl rfl) (pe_op op_add (B.len_s (pa_cons (pv 0) pa_nil)) pe_int))
    (pss_cons (ps_for PassesOwn.never rfl (pi_str (pv 0)) (pg_name (i := 2) sc_law_digest.nd rfl (Or.inl rfl)) (pss_one (ps_set (i := 1) sc_law_digest.nd rfl (Or.inl rfl) (pe_op op_mod (B.int_i (pa_cons (pe_op op_add (pe_op op_mul (pv 1) pe_int) (B.ord_ (pa_cons (pv 2) pa_nil))) pa_nil)) (pe_op op_sub (pe_op op_mul (pe_op op_pow pe_int pe_int) pe_int) pe_int)))))
    (pss_cons (ps_set (i := 3) sc_law_digest.nd rfl (Or.inl rfl) pe_str)
    (pss_cons (ps_for PassesOwn.never rfl (B.range1 (pa_cons pe_int pa_nil)) (pg_name (i := 4) sc_law_digest.nd rfl (Or.inl rfl)) (pss_cons (ps_set (i := 3) sc_law_digest.nd rfl (Or.inl rfl) (pe_op op_add_str (pe_ix ix_str pe_str (pe_op op_mod (B.int_i (pa_cons (pv 1) pa_nil)) pe_int) (fun _ _ => rfl)) (pv 3)))
    (pss_one (ps_set (i := 1) sc_law_digest.nd rfl (Or.inl rfl) (pe_op op_fdivW (pv 1) pe_int)))))
    (pss_one (ps_ret (pv 3))))))), ?_⟩
  walk_at "wp"
  have lim : sizeLine = 16777216 := sizeLine_eq
  refine ⟨by omega, _, rfl, z, rfl, ?_⟩
  refine for_it walk_str (fun i σ H' => H' = H ∧ ∃ o : Option V, σ = [some (.str z), some (.int (((z.cps.toList.take i).foldl dgF (z.length + 1) : Nat) : Int)), o, none, none]) ⟨rfl, _, rfl⟩ (fun _ _ _ _ _ => True.intro) (fun i x σ H1 H2 hi ⟨hH, o, hσ⟩ ⟨h2, c, hc, hx⟩ => ?_) (fun σ H1 ⟨hH, o, hσ⟩ => ?_)
  · subst hσ
    subst hx
    subst h2
    subst hH
    walk_at "wp"
    refine ⟨.inr ⟨by decide, by decide⟩, by rfl, ?_⟩
    rw [take1 (cps_at hc), List.foldl_append]
    generalize (z.cps.toList.take i).foldl dgF (z.length + 1) = a
    refine ⟨⟨by decide, by decide, by decide⟩, .inr ⟨by decide, by decide⟩, by decide, ?_, _, rfl⟩
    show ((a : Int) * 65599 + (c : Int)) % (2 ^ Int.toNat 64 * 128 - 231) = (((a * 65599 + c) % dgD : Nat) : Int)
    rw [Int.natCast_emod, Int.natCast_add, Int.natCast_mul, show (2 ^ Int.toNat 64 * 128 - 231 : Int) = ((dgD : Nat) : Int) by decide]
    rfl
  · subst hσ
    subst hH
    walk_at "wp"
    rw [take_cps, show z.length = z.cps.toList.length from (cps_len z).symm]
    have hd := dgN_lt z.cps.toList
    have q : Q (.str ⟨(hx18 (dgN z.cps.toList)).toArray⟩) H1 := q
    rw [hx18_ldx hd] at q
    show tFor _ _ _ _ [some (.str z), some (.int ((dgN z.cps.toList : Nat) : Int)), _, _, _] H1
    generalize dgN z.cps.toList = n at hd q ⊢
    refine ⟨18, rfl, by decide, by decide, for_range (lo := 0) (n := 18) (fun i σ H' => H' = H1 ∧ ∃ o4 : Option V, σ = [some (.str z), some (.int ((n / 16 ^ i : Nat) : Int)), o, some (.str ⟨(ldx i n).toArray⟩), o4]) ⟨rfl, _, by rw [Nat.pow_zero, Nat.div_one]; rfl⟩ (fun i σ H2 hi ⟨hH, o4, hσ⟩ => ?_) (fun σ H2 ⟨hH, o4, hσ⟩ => ?_)⟩
    · subst hσ
      subst hH
      walk_at "wp"
      refine ⟨by decide, Str.ofString "0123456789abcdef", ((n / 16 ^ i % 16 : Nat) : Int), (Nat.digitChar (n / 16 ^ i % 16)).toNat, rfl, by rw [Int.natCast_emod]; rfl, by decide +kernel, atI_nat (hx_at _ (Nat.mod_lt _ (by decide))), ⟨#[(Nat.digitChar (n / 16 ^ i % 16)).toNat]⟩, rfl, ?_, two200 (by decide) (by decide), rfl, ?_, ?_, _, rfl⟩
      · show 1 + (ldx i n).toArray.size ≤ _
        rw [List.size_toArray, ldx_len]; omega
      · rw [Nat.pow_succ, ← Nat.div_div_eq_div_mul, Int.natCast_ediv]; rfl
      · refine TL.ext_tl ?_
        rw [TL.tl_append]
        rfl
    · subst hσ
      subst hH
      walk_at "wp"
      exact q
end

/-! reading and writing documents -/
abbrev s_is_document : Stmt := top 65
abbrev N_is_document : List Str := ["kind", "value"]
theorem sc_is_document : FnScope N_is_document ["kind", "value"] (defScope s_is_document) := ⟨rfl, rfl, rfl, by decide +kernel, rfl, by decide +kernel, by decide +kernel⟩
abbrev s_read : Stmt := top 57
abbrev N_read : List Str := ["kind", "text", "value"]
theorem sc_read : FnScope N_read ["kind", "text"] (defScope s_read) := ⟨rfl, rfl, rfl, by decide +kernel, rfl, by decide +kernel, by decide +kernel⟩
abbrev kC : Str := Str.ofString "charter"
abbrev kT : Str := Str.ofString "stamp"
abbrev kF : Str := Str.ofString "shelf"
abbrev kL : Str := Str.ofString "list"
theorem kd_ne : kC ≠ kT ∧ kC ≠ kF ∧ kC ≠ kL ∧ kT ≠ kF ∧ kT ≠ kL ∧ kF ≠ kL := by decide +kernel
/-- a document of the kind k -/
def isK (k : Str) (d : PyData) : Bool := if k = kC then isCharter d else if k = kT then isStamp d else if k = kF then isShelf d else decide (k = kL) && isList d
def spIsK (Ts : List Addr) : Sp := fun vs H Q _ => ∃ (k : Str) (v : V) (d : PyData), vs = [.str k, v] ∧ Rq H v d ∧ okD 12 d = true ∧ Tabs Ts H ∧ ∀ H', Kp Ts H H' → Tabs Ts H' → Q (.bl (isK k d)) H'
theorem isK_doc {k : Str} {d : PyData} (h : isK k d = true) : isDoc d = true := by
  unfold isK at h
  unfold isDoc
  split at h
  · rw [h]; rfl
  split at h
  · rw [h, Bool.or_true]; rfl
  split at h
  · rw [h, Bool.or_true]; rfl
  rw [Bool.and_eq_true] at h
  rw [h.2, Bool.or_true]
theorem isK_head {k : Str} {d : PyData} (h : isK k d = true) : eqS k (ixD d 0) = true := by
  unfold isK at h
  split at h
  · rename_i c; subst c; unfold isCharter headB at h; simp only [Bool.and_eq_true] at h; exact h.1.2
  split at h
  · rename_i c; subst c; unfold isStamp headB at h; simp only [Bool.and_eq_true] at h; exact h.1.2
  split at h
  · rename_i c; subst c; unfold isShelf headB at h; simp only [Bool.and_eq_true] at h; exact h.1.2
  rw [Bool.and_eq_true, decide_eq_true_eq] at h
  obtain ⟨c, h⟩ := h
  subst c; unfold isList headB at h; simp only [Bool.and_eq_true] at h; exact h.1.2
theorem isK_one {k j : Str} {d : PyData} (h : isK k d = true) (g : isK j d = true) : k = j := by
  have h := isK_head h
  have g := isK_head g
  generalize ixD d 0 = x at h g
  cases x with
  | str z =>
    have h : decide (z = k) = true := h
    have g : decide (z = j) = true := g
    rw [← of_decide_eq_true h, ← of_decide_eq_true g]
  | _ => cases h
theorem doc_sz {d : PyData} (h : isDoc d = true) : Sz 8 32000 d := by
  unfold isDoc at h
  rw [Bool.or_eq_true, Bool.or_eq_true, Bool.or_eq_true] at h
  rcases h with ((h | h) | h) | h
  · exact sz_mono (sz_charter h) (by decide) (by decide)
  · exact sz_mono (sz_stamp h) (by decide) (by decide)
  · exact sz_mono (sz_shelf h) (by decide) (by decide)
  · exact sz_mono (sz_list h) (by decide) (by decide)
def tx (d : PyData) : Str := ⟨(txt (trD d)).toArray⟩
theorem tx_len {d : PyData} (h : isDoc d = true) : (tx d).length ≤ 32000 := by
  unfold tx; rw [S_len]; exact (doc_sz h).2
theorem tx_prn {d : PyData} (h : isDoc d = true) : prn (tx d) = true := txt_prn (doc_sz h).1
theorem doc_sml {d : PyData} (h : isDoc d = true) : sml (trD d) = true := sml_of 8 _ (doc_sz h).1 (by have := (doc_sz h).2; omega)
theorem tx_val {d : PyData} (h : isDoc d = true) : pval 8 (TL.tl (tx d)) = some (trD d, []) := by
  have := pval_txt 8 (trD d) [] (doc_sz h).1 (doc_sml h)
  rw [List.append_nil] at this
  exact this
def spRead (C0 : Addr) (Ts : List Addr) : Sp := fun vs H Q E => ∃ (k : Str) (v : V), vs = [.str k, v] ∧ (∃ t, tyN H v = some t) ∧ (∀ z, v = .str z → z.length ≤ 10000000) ∧ Tabs Ts H ∧
  (∀ z t, v = .str z → z.length ≤ 100000 → prn z = true → pval 8 (TL.tl z) = some (t, []) → okD 12 (dT t) = true ∧ (isK k (dT t) = true → ∀ (u : V) (H' : Hp), Kp Ts H H' → Tabs Ts H' → Rep H' u t → Q u H') ∧ (isK k (dT t) = false → ∀ H', Kp Ts H H' → Tabs Ts H' → E (.ref C0) none H')) ∧
  ((∀ z t, v = .str z → z.length ≤ 100000 → prn z = true → pval 8 (TL.tl z) ≠ some (t, [])) → ∀ H', Kp Ts H H' → Tabs Ts H' → E (.ref C0) none H')
def spWrite (C0 : Addr) (Ts : List Addr) : Sp := fun vs H Q E => ∃ (v : V) (d : PyData), vs = [v] ∧ Rq H v d ∧ okD 12 d = true ∧ Tabs Ts H ∧ (isDoc d = true → ∀ H', Kp Ts H H' → Tabs Ts H' → Q (.str (tx d)) H') ∧ (isDoc d = false → ∀ H', Kp Ts H H' → Tabs Ts H' → E (.ref C0) none H')
theorem if_no {p : Prop} [Decidable p] {A B : Prop} (h : ¬ p) (b : B) : if p then A else B := by rw [if_neg h]; exact b
theorem if_yes {p : Prop} [Decidable p] {A B : Prop} (h : p) (b : A) : if p then A else B := by rw [if_pos h]; exact b
theorem ite_dec {p : Prop} [Decidable p] {A B : Prop} (h : p → A) (g : ¬ p → B) : if p then A else B := by
  by_cases c : p
  · rw [if_pos c]; exact h c
  · rw [if_neg c]; exact g c
/-- the errors of reading: BadText, BadDocument, Refused -/
structure EsC (P : Program) (w : World) (K : PySem.W.Frag) (mg : Str → Option Value) (base : Heap) (CB CD CR : Addr) : Prop where
  bad : Err K mg "BadText" CB
  BadDocument : Err K mg "BadDocument" CD
  Refused : EOwn P w K mg base "Refused" CR
  m1 : PySem.W.exmOne K (.ref CB) (.ref CD) = some false
  m2 : PySem.W.exmOne K (.ref CD) (.ref CB) = some false
theorem exm1 {K : PySem.W.Frag} {c v : Value} {b : Bool} (h : PySem.W.exmOne K c v = some b) : PySem.W.exmAny K c [v] = some b := by
  unfold PySem.W.exmAny
  rw [h]
  show some (b || false) = some b
  rw [Bool.or_false]
theorem exm2 {K : PySem.W.Frag} {c v u : Value} {b d : Bool} (h : PySem.W.exmOne K c v = some b) (g : PySem.W.exmOne K c u = some d) : PySem.W.exmAny K c [v, u] = some (b || d) := by
  show (match PySem.W.exmOne K c v, PySem.W.exmAny K c [u] with | some b, some d => some (b || d) | _, _ => none) = _
  rw [h, exm1 g]
section
variable {P : Program} {w : World} {K : PySem.W.Frag} {mg : Str → Option Value} {base : Heap} {f : Addr} {fd : FuncData} {C0 CB Pt : Addr} {Ts : List Addr} {td tz tt : Tok}
theorem ok_isK (F : Fun K "_is_document" "_is_document" s_is_document f fd) (B : Blt mg) (c_is_charter : Cal P w K mg base CX0 12 "is_charter" (spDoc isCharter Ts)) (c_is_stamp : Cal P w K mg base CX0 12 "is_stamp" (spDoc isStamp Ts)) (c_is_shelf : Cal P w K mg base CX0 12 "is_shelf" (spDoc isShelf Ts)) (c_is_list : Cal P w K mg base CX0 15 "is_list" (spDoc isList Ts)) :
    FnOk P w K mg base CX0 16 f fd ["kind", "value"] (spIsK Ts) := by
  refine F.ok sc_is_document (fun vs H Q E h => ?_) (fun cdv A outer s H vs Q E hr h => ?_)
  · obtain ⟨k, v, d, rfl, _⟩ := h; rfl
  obtain ⟨k, v, d, rfl, hR, ho, hG, q⟩ := h
  refine ⟨_, (pss_cons (ps_if (pt_cmpR op_eq (pv 0) pe_str (nomark _)) (pss_one (ps_ret (c_is_charter.pe hr (pa_cons (pv 1) pa_nil)))) pss_nil)
    (pss_cons (ps_if (pt_cmpR op_eq (pv 0) pe_str (nomark _)) (pss_one (ps_ret (c_is_stamp.pe hr (pa_cons (pv 1) pa_nil)))) pss_nil)
    (pss_cons (ps_if (pt_cmpR op_eq (pv 0) pe_str (nomark _)) (pss_one (ps_ret (c_is_shelf.pe hr (pa_cons (pv 1) pa_nil)))) pss_nil)
    (pss_one (ps_ret (pe_and (pe_cmpR op_eq (pv 0) pe_str (nomark _)) (pe_one (c_is_list.pe hr (pa_cons (pv 1) pa_nil))))))))), ?_⟩
  walk_at "wp"
  unfold isK at q
  by_cases c1 : k = kC
  · rw [if_pos c1]
    exact ⟨v, d, rfl, hR, ho, hG, fun H' k' g' => by have y := q H' k' g'; rw [if_pos c1] at y; exact y⟩
  rw [if_neg c1]
  by_cases c2 : k = kT
  · rw [if_pos c2]
    exact ⟨v, d, rfl, hR, ho, hG, fun H' k' g' => by have y := q H' k' g'; rw [if_neg c1, if_pos c2] at y; exact y⟩
  rw [if_neg c2]
  by_cases c3 : k = kF
  · rw [if_pos c3]
    exact ⟨v, d, rfl, hR, ho, hG, fun H' k' g' => by have y := q H' k' g'; rw [if_neg c1, if_neg c2, if_pos c3] at y; exact y⟩
  rw [if_neg c3]
  by_cases c4 : k = kL
  · rw [if_pos c4]
    exact ⟨v, d, rfl, hR, ho, hG, fun H' k' g' => by have y := q H' k' g'; rw [if_neg c1, if_neg c2, if_neg c3, decide_eq_true c4] at y; exact y⟩
  rw [if_neg c4]
  have y := q H (Kp.refl _ _) hG
  rw [if_neg c1, if_neg c2, if_neg c3, decide_eq_false c4] at y
  exact y
theorem ok_read {CR : Addr} (F : Fun K "read" "read" s_read f fd) (B : Blt mg) (T : EsC P w K mg base CB C0 CR) (mt : Pt ∈ Ts) (c_decode : Cal P w K mg base (CXG P w) 23 "decode" (spDec CB Pt)) (c_is_document : Cal P w K mg base CX0 16 "_is_document" (spIsK Ts)) :
    FnOk P w K mg base (CXG P w) 24 f fd ["kind", "text"] (spRead C0 Ts) := by
  refine F.okG sc_read (fun vs H Q E h => ?_) (fun cdv A outer s H vs Q E hr h => ?_)
  · obtain ⟨k, v, rfl, _⟩ := h; rfl
  obtain ⟨k, v, rfl, hty, hz, hG, q, qe⟩ := h
  refine ⟨_, (pss_cons (ps_try_G (i := 0) (n := "kind") (out := fun cls d _ H => E cls d H) rfl rfl sc_read.nd rfl rfl (fun hd => L2H.passesAt_of rfl hd) (takesG_of rfl rfl rfl rfl) (fun V held ex tk _ => by_given (pss_one (ps_set (i := 2) sc_read.nd rfl (Or.inl rfl) (c_decode.peG hr tk (pa_cons (pv 1) pa_nil)))) rfl) (.bare (k := (_, _)) (.one ⟨rfl, by decide, .inl T.bad.g⟩) (fun a oe cls d pn hz hf tk hot => (by_given (pss_one (T.BadDocument.raiseS hot tk)) rfl)) .none))
    (pss_cons (ps_if (pt_not (pt_val (c_is_document.pe hr (pa_cons (pv 0) (pa_cons (pv 2) pa_nil))))) (pss_one (T.BadDocument.raiseG (takesG_of rfl rfl rfl rfl))) pss_nil)
    (pss_one (ps_ret (pv 2))))), ?_⟩
  walk_at "wp"
  refine ⟨_, rfl, v, rfl, hty, hz, hG Pt mt, fun z t e1 l p pv u H1 k1 g1 r1 => ?_, fun no H1 k1 g1 => ⟨true, exm1 T.bad.em, if_yes rfl fun _ _ => qe no H1 (k1.in1 mt) (hG.kp1 k1 g1)⟩⟩
  obtain ⟨ok, q1, q2⟩ := q z t e1 l p pv
  have hpl : pl 8 t = true := (pval_back 8 _ _ _ pv).2 (by
    unfold prn at p
    rw [List.all_eq_true] at p
    exact p)
  have G1 := hG.kp1 k1 g1
  refine ⟨k, u, dT t, rfl, r1.rq 8 hpl, ok, G1, fun H2 k2 g2 => ⟨_, rfl, ?_⟩⟩
  cases c : isK k (dT t) with
  | true =>
    rw [if_neg (by decide)]
    exact q1 c u H2 ((k1.in1 mt).trans k2) g2 (r1.any k2 (pl_pure 8 t hpl))
  | false =>
    rw [if_pos rfl]
    exact q2 c H2 ((k1.in1 mt).trans k2) g2
end

/-! the trusted set -/
abbrev s_role_of : Stmt := top 75
abbrev N_role_of : List Str := ["charter", "name"]
theorem sc_role_of : FnScope N_role_of ["charter", "name"] (defScope s_role_of) := ⟨rfl, rfl, rfl, by decide +kernel, rfl, by decide +kernel, by decide +kernel⟩
abbrev s_document_in : Stmt := top 76
abbrev N_document_in : List Str := ["kind", "sealed", "text", "_"]
theorem sc_document_in : FnScope N_document_in ["kind", "sealed"] (defScope s_document_in) := ⟨rfl, rfl, rfl, by decide +kernel, rfl, by decide +kernel, by decide +kernel⟩
abbrev s_require_signed : Stmt := top 77
abbrev N_require_signed : List Str := ["office", "sealed", "role", "threshold", "keys"]
theorem sc_require_signed : FnScope N_require_signed ["office", "sealed", "role"] (defScope s_require_signed) := ⟨rfl, rfl, rfl, by decide +kernel, rfl, by decide +kernel, by decide +kernel⟩
mutual
/-- what is read is of small parts -/
theorem ok_dT : ∀ (n : Nat) (t : Tr), pl n t = true → (txt t).length ≤ 200000 → okD n (dT t) = true
  | n, .int i, h, _ => by
    have h : (decide (0 ≤ i) && decide (i ≤ 99999999999999999999)) = true := h
    rw [Bool.and_eq_true, decide_eq_true_eq, decide_eq_true_eq] at h
    exact okD_int.mpr ⟨by omega, h.2⟩
  | n, .str z, h, l => by
    have h : prn z = true := h
    have l : (dig z.length ++ 58 :: TL.tl z).length ≤ 200000 := l
    rw [List.length_append, List.length_cons, ← TL.len_tl] at l
    exact okD_str.mpr ⟨by omega, strOk_prn h⟩
  | 0, .tup _, h, _ => by cases h
  | n + 1, .tup ts, h, l => by
    have h : pls n ts = true := h
    have e : (txt (.tup ts)).length = (txts ts).length + 2 := by
      show (91 :: (txts ts ++ [93])).length = _
      rw [List.length_cons, List.length_append]; rfl
    obtain ⟨a, b⟩ := oks_dT n ts h (by omega)
    exact okD_tup.mpr ⟨by omega, b⟩
  | _, .oth _, h, _ => by cases h
theorem oks_dT : ∀ (n : Nat) (ts : List Tr), pls n ts = true → (txts ts).length ≤ 200000 → (dTs ts).length ≤ (txts ts).length ∧ ∀ d ∈ dTs ts, okD n d = true
  | _, [], _, _ => ⟨Nat.le_refl _, fun _ m => absurd m List.not_mem_nil⟩
  | n, t :: ts, h, l => by
    have h : (pl n t && pls n ts) = true := h
    rw [Bool.and_eq_true] at h
    have e : (txts (t :: ts)).length = (txt t).length + (txts ts).length := by
      show (txt t ++ txts ts).length = _
      rw [List.length_append]
    obtain ⟨a, b⟩ := oks_dT n ts h.2 (by omega)
    have p := txt_pos n t h.1
    refine ⟨by show (dTs ts).length + 1 ≤ _; omega, fun d m => ?_⟩
    have m : d ∈ dT t :: dTs ts := m
    rcases List.mem_cons.mp m with rfl | m
    · exact ok_dT n t h.1 (by omega)
    · exact b d m
end
theorem opn_back {x : Str} {t : Tr} (o : opn x t) : TL.tl x = txt t ∧ pl 8 t = true := by
  obtain ⟨a, b⟩ := pval_back 8 _ _ _ o.2.2.1
  exact ⟨by rw [a, List.append_nil], b (by have := o.2.1; unfold prn at this; exact List.all_eq_true.mp this)⟩
theorem opn_in {x z : Str} {ss : List Tr} (o : opn x (.tup [.str z, .tup ss])) : z.length ≤ 100000 ∧ prn z = true := by
  obtain ⟨a, b⟩ := opn_back o
  have b : pls 7 [Tr.str z, Tr.tup ss] = true := b
  have b : (pl 7 (.str z) && pls 7 [Tr.tup ss]) = true := b
  rw [Bool.and_eq_true] at b
  refine ⟨?_, b.1⟩
  have l := o.1
  rw [TL.len_tl, a] at l
  have e : txt (.tup [.str z, .tup ss]) = 91 :: (((dig z.length ++ 58 :: TL.tl z) ++ (txt (.tup ss) ++ [])) ++ [93]) := rfl
  rw [e, List.length_cons, List.length_append, List.length_append, List.length_append, List.length_cons, ← TL.len_tl] at l
  omega
theorem opn_uni {x : Str} {t u : Tr} (o : opn x t) (p : opn x u) : u = t := by
  have := o.2.2.1.symm.trans p.2.2.1
  injection this with h; injection h with h; exact h.symm
/-- a sealed text of a document of the kind k -/
def DocIn (k x : Str) (d : PyData) : Prop := ∃ (z : Str) (ss : List Tr) (t : Tr), opn x (.tup [.str z, .tup ss]) ∧ z.length ≤ 100000 ∧ prn z = true ∧ pval 8 (TL.tl z) = some (t, []) ∧ d = dT t ∧ isK k d = true
theorem Kp.gone {Ts : List Addr} {H H1 : Hp} (k : Kp Ts H H1) (g : Tabs Ts H1) {e : Addr} (h : H1 e = none) : H e = none := by
  cases c : H e with
  | none => rfl
  | some o =>
    have n : e ∉ Ts := fun m => by
      obtain ⟨ps, t, _⟩ := g e m
      rw [h] at t; cases t
    rw [k.keep e o n c] at h
    cases h
def rnm : List Str := [kC, kT, kF, kL]
structure RnC (K : PySem.W.Frag) (mg : Str → Option Value) (R : Addr) : Prop where
  g : mg "_ROLE_NAMES" = some (.ref R)
  o : ∃ (o : Obj) (its : Array Value) (n : Nat), K.lookup R = some o ∧ o.cls = .type "tuple" ∧ o.dict = none ∧ o.data = .seq its n ∧ its.size ≤ sizeLine ∧ Vals (rnm.map V.str) its.toList
theorem RnC.s {K : PySem.W.Frag} {mg : Str → Option Value} {R : Addr} (h : RnC K mg R) (H : Hp) : SqT K H R (rnm.map V.str) := by
  obtain ⟨o, its, n, l, c, d, x, y, z⟩ := h.o
  exact .inr ⟨o, its, n, l, c, x, y, z⟩
theorem RnC.t {K : PySem.W.Frag} {mg : Str → Option Value} {R : Addr} (h : RnC K mg R) (H : Hp) : tyV K "tuple" (V.ref R) H := by
  obtain ⟨o, its, n, l, c, d, x, y, z⟩ := h.o
  exact .inr (.inl ⟨rfl, o, l, c, d⟩)
theorem Rq.part {a b : Nat} {H : Hp} {v : V} {d : PyData} (r : Rq H v d) (h : tupB a b d = true) {i : Nat} (hi : i < a) :
    ∃ (p : Addr) (xs : List V), v = .ref p ∧ H p = some (.tup xs) ∧ xs.length = (itD d).length ∧ RqA H xs (itD d) ∧ ∃ x, atI xs (i : Nat) = some x ∧ Rq H x (ixD d i) := by
  obtain ⟨p, xs, ds, rfl, ep, rfl, rr, l1, l2⟩ := tupB_of r h
  obtain ⟨x, hx, hr⟩ := rr.ix (i := i) (by omega)
  exact ⟨p, xs, rfl, ep, rr.len, rr, x, hx, hr⟩
theorem ch_tup {d : PyData} (h : isCharter d = true) : tupB 4 4 d = true := by
  unfold isCharter headB at h; simp only [Bool.and_eq_true] at h; exact h.1.1
theorem ch_rls {d : PyData} (h : isCharter d = true) : tupB 4 4 (ixD d 3) = true := by
  unfold isCharter headB at h; simp only [Bool.and_eq_true] at h; exact h.2.2.2.1
theorem ch_all {d : PyData} (h : isCharter d = true) : (itD (ixD d 3)).all isRole = true := by
  unfold isCharter headB at h; simp only [Bool.and_eq_true] at h; exact h.2.2.2.2
theorem tupB_len {a b : Nat} {d : PyData} (h : tupB a b d = true) : a ≤ (itD d).length ∧ (itD d).length ≤ b := by
  cases d with
  | tuple ds =>
    have h : (decide (a ≤ ds.length) && decide (ds.length ≤ b)) = true := h
    rw [Bool.and_eq_true, decide_eq_true_eq, decide_eq_true_eq] at h
    exact h
  | _ => cases h
theorem ix_mem {d : PyData} {i : Nat} (h : i < (itD d).length) : ixD d i ∈ itD d := getD_mem h
theorem rl_tup {d : PyData} (h : isRole d = true) : tupB 2 2 d = true := by
  unfold isRole at h; simp only [Bool.and_eq_true] at h; exact h.1
theorem rl_keys {d : PyData} (h : isRole d = true) : tupB 1 16 (ixD d 1) = true := by
  unfold isRole at h; simp only [Bool.and_eq_true] at h; exact h.2.1
theorem rl_strs {d : PyData} (h : isRole d = true) : ∀ e ∈ itD (ixD d 1), isS e = true := by
  unfold isRole at h; simp only [Bool.and_eq_true] at h
  exact fun e m => kyD_s (List.all_eq_true.mp h.2.2.1 e m)
theorem rl_thr {d : PyData} (h : isRole d = true) : ∃ t : Int, ixD d 0 = .int t ∧ 1 ≤ t ∧ t ≤ ((itD (ixD d 1)).length : Nat) := by
  unfold isRole at h; simp only [Bool.and_eq_true] at h
  have e := h.2.2.2.2
  generalize ixD d 0 = x at e ⊢
  cases x with
  | int i =>
    have e : (decide (1 ≤ i) && decide (i ≤ _)) = true := e
    rw [Bool.and_eq_true, decide_eq_true_eq, decide_eq_true_eq] at e
    exact ⟨i, rfl, e⟩
  | _ => cases e
theorem rnm_nd : ∀ j < 4, ∀ m < j, rnm[m]? ≠ rnm[j]? := by decide +kernel
theorem rnm_lt0 {j : Nat} {n : Str} (h : rnm[j]? = some n) : j < 4 := (List.getElem?_eq_some_iff.mp h).1
theorem rnm_first {j : Nat} {n : Str} (h : rnm[j]? = some n) : ∀ m, m < j → rnm[m]? ≠ some n := fun m l e => rnm_nd j (rnm_lt0 h) m l (e.trans h.symm)
theorem rnm_lt {j : Nat} {n : Str} (h : rnm[j]? = some n) : j < 4 := (List.getElem?_eq_some_iff.mp h).1
theorem ch_role {d : PyData} (h : isCharter d = true) {j : Nat} (hj : j < 4) : isRole (ixD (ixD d 3) j) = true :=
  List.all_eq_true.mp (ch_all h) _ (ix_mem (by have := (tupB_len (ch_rls h)).1; omega))
/-- the role j of a charter -/
def rlD (d : PyData) (j : Nat) : PyData := ixD (ixD d 3) j
def spRoleOf : Sp := fun vs H Q _ => ∃ (v : V) (d : PyData) (n : Str) (j : Nat), vs = [v, .str n] ∧ Rq H v d ∧ isCharter d = true ∧ rnm[j]? = some n ∧ ∀ u, Rq H u (rlD d j) → Q u H
def xdR (z : Str) : HO := .xd [("reason", .str z)]
def spDocIn (CR : Addr) (Ts : List Addr) : Sp := fun vs H Q E => ∃ (k : Str) (v : V), vs = [.str k, v] ∧ (∃ t, tyN H v = some t) ∧ (∀ z, v = .str z → z.length ≤ 10000000) ∧ Tabs Ts H ∧
  (∀ x d, v = .str x → DocIn k x d → ∀ u H', Kp Ts H H' → Tabs Ts H' → Rq H' u d → okD 12 d = true → Q u H') ∧
  ((∀ x d, v = .str x → ¬ DocIn k x d) → ∀ (e : Addr) (H' : Hp), Kp Ts H H' → Tabs Ts H' → H e = none → H' e = some (xdR "form") → E (.ref CR) (some e) H')
/-- the keys of a role, its threshold -/
def keysD (d : PyData) : List Str := (itD (ixD d 1)).map strD
def thrD (d : PyData) : Int := match ixD d 0 with | .int i => i | _ => 0
def sgn (made : List (Str × Str)) (z : Str) (ss : List Tr) (d : PyData) : Bool := decide (thrD d ≤ ((suN made (keysD d) z ss : Nat) : Int))
def spSgn (C CR : Addr) (Ts : List Addr) : Sp := fun vs H Q E => ∃ (o dm : Addr) (made : List (Str × Str)) (x z : Str) (ss : List Tr) (rv : V) (d : PyData), vs = [.ref o, .str x, rv] ∧ Ofc C o dm made H ∧ opn x (.tup [.str z, .tup ss]) ∧ Rq H rv d ∧ isRole d = true ∧ Tabs Ts H ∧
  (sgn made z ss d = true → ∀ H', Kp Ts H H' → Tabs Ts H' → Q .non H') ∧
  (sgn made z ss d = false → ∀ (e : Addr) (H' : Hp), Kp Ts H H' → Tabs Ts H' → H e = none → H' e = some (xdR "seals") → E (.ref CR) (some e) H')
section
variable {P : Program} {w : World} {K : PySem.W.Frag} {mg : Str → Option Value} {base : Heap} {f : Addr} {fd : FuncData} {C CB CD CR R : Addr} {Ts : List Addr}
theorem ok_roleof (F : Fun K "role_of" "role_of" s_role_of f fd) (RN : RnC K mg R) : FnOk P w K mg base CX0 1 f fd ["charter", "name"] spRoleOf := by
  refine F.ok sc_role_of (fun vs H Q E h => ?_) (fun cdv A outer s H vs Q E hr h => ?_)
  · obtain ⟨v, d, n, j, rfl, _⟩ := h; rfl
  obtain ⟨v, d, n, j, rfl, hR, hc, hn, q⟩ := h
  refine ⟨_, (pss_one (ps_ret (pe_ix ix_tM (pe_ix ix_tM (pv 0) pe_int (fun _ _ => rfl)) (pe_bm PySem.F.plainAttrs_tuple PySem.F.slot_tuple_index PySem.F.type_tuple_index mt_tup_index (pe_glob (v := .ref R) rfl RN.g rfl) (pa_cons (pv 1) pa_nil)) (fun _ _ => rfl)))), ?_⟩
  walk_at "wq"
  obtain ⟨p, xs, rfl, ep, _, _, x, hx, rx⟩ := hR.part (ch_tup hc) (i := 3) (by omega)
  obtain ⟨b, ys, rfl, eb, _, _, y, hy, ry⟩ := rx.part (ch_rls hc) (i := j) (rnm_lt hn)
  exact ⟨p, rfl, xs, ep, _, hx, RN.t H, rnm, RN.s H, j, hn, rnm_first hn, b, rfl, ys, eb, y, hy, q y ry⟩
theorem ok_docin (F : Fun K "_document_in" "_document_in" s_document_in f fd) (T : EsC P w K mg base CB CD CR) (c_opened : Cal P w K mg base (CXG P w) 24 "opened" (spOpen CB Ts)) (c_read : Cal P w K mg base (CXG P w) 24 "read" (spRead CD Ts)) :
    FnOk P w K mg base (CXG P w) 25 f fd ["kind", "sealed"] (spDocIn CR Ts) := by
  refine F.okG sc_document_in (fun vs H Q E h => ?_) (fun cdv A outer s H vs Q E hr h => ?_)
  · obtain ⟨k, v, rfl, _⟩ := h; rfl
  obtain ⟨k, v, rfl, hty, hz, hG, q, qe⟩ := h
  refine ⟨_, (pss_one (ps_try_G (i := 0) (n := "kind") (out := fun cls d _ H => E cls d H) rfl rfl sc_document_in.nd rfl rfl (fun hd => L2H.passesAt_of rfl hd) (takesG_of rfl rfl rfl rfl) (fun V held ex tk _ => by_given (pss_cons (ps_asg (c_opened.peG hr tk (pa_cons (pv 1) pa_nil)) (pg_tupK (K := K) (n := 2) (pgs_cons (pg_name (i := 2) sc_document_in.nd rfl (Or.inl rfl)) (pgs_cons (pg_name (i := 3) sc_document_in.nd rfl (Or.inl rfl)) pgs_nil)) rfl rfl))
    (pss_one (ps_ret (c_read.peG hr tk (pa_cons (pv 0) (pa_cons (pv 2) pa_nil)))))) rfl) (.bare (k := (_, _)) (.two ⟨rfl, by decide, .inl T.bad.g⟩ ⟨rfl, by decide, .inl T.BadDocument.g⟩) (fun a oe cls d pn hz hf tk hot => (by_given (pss_one (T.Refused.raiseH (L2H.roomH_mark hr _) hot tk)) rfl)) .none))), ?_⟩
  walk_at "wq"
  have no : (∀ x d, v = .str x → ¬ DocIn k x d) → ∀ H1, Kp Ts H H1 → Tabs Ts H1 → ∀ (e : Addr), H1 e = none → ∀ (d : Addr) (G : Hp), H1 d = none → G d = some (xdR "form") → Kp [] H1 G → E (.ref CR) (some d) G :=
    fun nd H1 k1 g1 e he d G hd hg kk => qe nd d G (k1.trans kk.in0) (g1.kp0 kk) (k1.gone g1 hd) hg
  refine ⟨_, rfl, v, rfl, hty, hz, hG, fun x t e o1 u H1 k1 g1 R1 => ?_, fun nope H1 k1 g1 => ⟨_, exm2 T.bad.em T.m1, if_yes rfl (no (fun x d e ⟨z, ss, t, o1, _⟩ => nope x _ e o1) H1 k1 g1)⟩⟩
  obtain ⟨z, ss, rfl, c1, c2, c3⟩ := isCo_two o1.2.2.2
  cases R1 with
  | @tup a xs _ ea r =>
  cases r with
  | cons r1 r =>
  cases r with
  | cons r2 r =>
  cases r
  cases r1
  refine ⟨a, _, rfl, SqT.of ea, rfl, _, _, rfl, _, _, rfl, rfl, ?_⟩
  obtain ⟨lz, pz⟩ := opn_in o1
  refine ⟨_, rfl, _, rfl, k, .str z, rfl, ⟨_, rfl⟩, fun z' e' => by cases e'; omega, g1, fun z' t e' l p pv => ?_, fun np H2 k2 g2 => ?_⟩
  · cases e'
    have lp := pval_back 8 _ _ _ pv
    have pl8 : pl 8 t = true := lp.2 (by unfold prn at pz; exact List.all_eq_true.mp pz)
    have od : okD 12 (dT t) = true := ok_mono 8 12 _ (by decide) (ok_dT 8 t pl8 (by rw [← List.append_nil (txt t), ← lp.1, ← TL.len_tl]; omega))
    refine ⟨od, fun ok u H2 k2 g2 R2 => ?_, fun nok H2 k2 g2 => ⟨_, exm2 T.m2 T.BadDocument.em, if_yes rfl (no (fun x' d e' D => ?_) H2 (k1.trans k2) g2)⟩⟩
    · exact q x (dT t) e ⟨z, ss, t, o1, lz, pz, pv, rfl, ok⟩ u H2 (k1.trans k2) g2 (R2.rq 8 pl8) od
    · obtain ⟨z2, ss2, t2, o2, _, _, p2, rfl, ok⟩ := D
      cases e.symm.trans e'
      cases opn_uni o1 o2
      rw [pv] at p2
      cases p2
      rw [nok] at ok; cases ok
  · refine ⟨_, exm2 T.m2 T.BadDocument.em, if_yes rfl (no (fun x' d e' D => ?_) H2 (k1.trans k2) g2)⟩
    obtain ⟨z2, ss2, t2, o2, _, _, p2, _⟩ := D
    cases e.symm.trans e'
    cases opn_uni o1 o2
    exact np z t2 rfl lz pz p2
theorem ok_reqsigned (F : Fun K "_require_signed" "_require_signed" s_require_signed f fd) (T : EsC P w K mg base CB CD CR) (c_support : Cal P w K mg base (L2.CX P w) 25 "support" (spSupp C CB Ts K)) :
    FnOk P w K mg base (CXG P w) 26 f fd ["office", "sealed", "role"] (spSgn C CR Ts) := by
  refine F.okG sc_require_signed (fun vs H Q E h => ?_) (fun cdv A outer s H vs Q E hr h => ?_)
  · obtain ⟨o, dm, made, x, z, ss, rv, d, rfl, _⟩ := h; rfl
  obtain ⟨o, dm, made, x, z, ss, rv, d, rfl, hO, ho, hR, hr2, hG, q, qe⟩ := h
  refine ⟨_, (pss_cons (ps_asg (pv 2) (pg_tup rfl (pgs_cons (pg_name (i := 3) sc_require_signed.nd rfl (Or.inl rfl)) (pgs_cons (pg_name (i := 4) sc_require_signed.nd rfl (Or.inl rfl)) pgs_nil))))
    (pss_one (ps_if (pt_cmpR op_lt (c_support.peL hr (pa_cons (pv 0) (pa_cons (pv 1) (pa_cons (pv 4) pa_nil)))) (pv 3) (nomark _)) (pss_one (T.Refused.raiseG hr (takesG_of rfl rfl rfl rfl))) pss_nil))), ?_⟩
  obtain ⟨p, xs, rfl, ep, lx, rx, k, hk, Rk⟩ := hR.part (rl_tup hr2) (i := 1) (by omega)
  have l2 : (itD d).length = 2 := by have := tupB_len (rl_tup hr2); omega
  generalize ed : itD d = ds at rx l2 lx
  obtain ⟨x0, x1, d0, d1, rfl, rfl, R0, R1⟩ := rq2 rx l2
  have e0 : ixD d 0 = d0 := by unfold ixD; rw [ed]; rfl
  have e1 : ixD d 1 = d1 := by unfold ixD; rw [ed]; rfl
  obtain ⟨t, et, t1, t2⟩ := rl_thr hr2
  have ek := rl_strs hr2
  have tk := rl_keys hr2
  rw [e1] at ek tk t2
  rw [e0] at et
  subst et
  cases R0
  obtain ⟨b, ys, es, rfl, eb, rfl, rr, l3, l4⟩ := tupB_of R1 tk
  have ey : ys = (es.map strD).map V.str := rqa_strs rr ek
  subst ey
  walk_at "wq"
  refine ⟨_, _, rfl, SqT.of ep, rfl, _, _, rfl, _, _, rfl, rfl, ?_⟩
  walk_at "wq"
  have eth : thrD d = t := by unfold thrD; rw [e0]
  have eky : keysD d = es.map strD := by unfold keysD; rw [e1]; rfl
  have esg : sgn made z ss d = decide (t ≤ ((suN made (es.map strD) z ss : Nat) : Int)) := by unfold sgn; rw [eth, eky]
  refine ⟨o, dm, b, made, .str x, es.map strD, rfl, hO, ⟨_, rfl⟩, fun z' e => by cases e; have := ho.1; omega, hG, .inr (SqT.of eb), fun x' z' ss' e o' H1 k1 g1 => ⟨_, rfl, ?_⟩, fun no => absurd ho (no x _ rfl)⟩
  cases e
  cases opn_uni ho o'
  refine ite_dec (fun lt => ?_) fun nlt => ?_
  · intro dx G hd hg kk
    exact qe (by rw [esg]; exact decide_eq_false (by omega)) dx G (k1.trans kk.in0) (g1.kp0 kk) (k1.gone g1 hd) hg
  · exact q (by rw [esg]; exact decide_eq_true (by omega)) H1 k1 g1
end

/-! the trusted set: the class -/
abbrev s_Trusted___init : Stmt := inClass (top 74) 0
abbrev N_Trusted___init : List Str := ["self", "office", "sealed", "charter"]
theorem sc_Trusted___init : FnScope N_Trusted___init ["self", "office", "sealed"] (defScope s_Trusted___init) := ⟨rfl, rfl, rfl, by decide +kernel, rfl, by decide +kernel, by decide +kernel⟩
abbrev s_Trusted_outdated : Stmt := inClass (top 74) 7
abbrev N_Trusted_outdated : List Str := ["self"]
theorem sc_Trusted_outdated : FnScope N_Trusted_outdated ["self"] (defScope s_Trusted_outdated) := ⟨rfl, rfl, rfl, by decide +kernel, rfl, by decide +kernel, by decide +kernel⟩
abbrev s_Trusted_forget : Stmt := inClass (top 74) 8
abbrev N_Trusted_forget : List Str := ["self"]
theorem sc_Trusted_forget : FnScope N_Trusted_forget ["self"] (defScope s_Trusted_forget) := ⟨rfl, rfl, rfl, by decide +kernel, rfl, by decide +kernel, by decide +kernel⟩
abbrev s_Trusted_is_current : Stmt := inClass (top 74) 9
abbrev N_Trusted_is_current : List Str := ["self", "sealed"]
theorem sc_Trusted_is_current : FnScope N_Trusted_is_current ["self"] (defScope s_Trusted_is_current) := ⟨rfl, rfl, rfl, by decide +kernel, rfl, by decide +kernel, by decide +kernel⟩
abbrev s_Trusted_charter : Stmt := inClass (top 74) 10
abbrev N_Trusted_charter : List Str := ["self"]
theorem sc_Trusted_charter : FnScope N_Trusted_charter ["self"] (defScope s_Trusted_charter) := ⟨rfl, rfl, rfl, by decide +kernel, rfl, by decide +kernel, by decide +kernel⟩
abbrev s_Trusted_stamp : Stmt := inClass (top 74) 11
abbrev N_Trusted_stamp : List Str := ["self"]
theorem sc_Trusted_stamp : FnScope N_Trusted_stamp ["self"] (defScope s_Trusted_stamp) := ⟨rfl, rfl, rfl, by decide +kernel, rfl, by decide +kernel, by decide +kernel⟩
abbrev s_Trusted_shelf : Stmt := inClass (top 74) 12
abbrev N_Trusted_shelf : List Str := ["self"]
theorem sc_Trusted_shelf : FnScope N_Trusted_shelf ["self"] (defScope s_Trusted_shelf) := ⟨rfl, rfl, rfl, by decide +kernel, rfl, by decide +kernel, by decide +kernel⟩
abbrev s_Trusted_list_of : Stmt := inClass (top 74) 13
abbrev N_Trusted_list_of : List Str := ["self", "name"]
theorem sc_Trusted_list_of : FnScope N_Trusted_list_of ["self", "name"] (defScope s_Trusted_list_of) := ⟨rfl, rfl, rfl, by decide +kernel, rfl, by decide +kernel, by decide +kernel⟩
abbrev s_Trusted_list_role : Stmt := inClass (top 74) 14
abbrev N_Trusted_list_role : List Str := ["self", "name"]
theorem sc_Trusted_list_role : FnScope N_Trusted_list_role ["self", "name"] (defScope s_Trusted_list_role) := ⟨rfl, rfl, rfl, by decide +kernel, rfl, by decide +kernel, by decide +kernel⟩
abbrev s_Trusted_sealed : Stmt := inClass (top 74) 15
abbrev N_Trusted_sealed : List Str := ["self", "kind"]
theorem sc_Trusted_sealed : FnScope N_Trusted_sealed ["self", "kind"] (defScope s_Trusted_sealed) := ⟨rfl, rfl, rfl, by decide +kernel, rfl, by decide +kernel, by decide +kernel⟩
abbrev s_Trusted_roles : Stmt := inClass (top 74) 16
abbrev N_Trusted_roles : List Str := ["self"]
theorem sc_Trusted_roles : FnScope N_Trusted_roles ["self"] (defScope s_Trusted_roles) := ⟨rfl, rfl, rfl, by decide +kernel, rfl, by decide +kernel, by decide +kernel⟩
abbrev s_Trusted__present_roles : Stmt := inClass (top 74) 17
abbrev N_Trusted__present_roles : List Str := ["self", "charter"]
theorem sc_Trusted__present_roles : FnScope N_Trusted__present_roles ["self"] (defScope s_Trusted__present_roles) := ⟨rfl, rfl, rfl, by decide +kernel, rfl, by decide +kernel, by decide +kernel⟩
mutual
theorem pur_dT : ∀ (n : Nat) (t : Tr), pl n t = true → purD (dT t) = true
  | _, .int _, _ => rfl
  | _, .str _, _ => rfl
  | 0, .tup _, h => by cases h
  | n + 1, .tup ts, h => purs_dT n ts h
  | _, .oth _, h => by cases h
theorem purs_dT : ∀ (n : Nat) (ts : List Tr), pls n ts = true → purDs (dTs ts) = true
  | _, [], _ => rfl
  | n, t :: ts, h => by
    have h : (pl n t && pls n ts) = true := h
    rw [Bool.and_eq_true] at h
    show (purD (dT t) && purDs (dTs ts)) = true
    rw [pur_dT n t h.1, purs_dT n ts h.2]; rfl
end
def getA {α : Type} (l : List (Str × α)) (n : Str) : Option α := (l.find? fun p => decide (p.1 = n)).map (·.2)
inductive KvD (H : Hp) : List (Key × V) → List (Str × PyData) → Prop
  | nil : KvD H [] []
  | cons {n : Str} {v : V} {d : PyData} {r : List (Key × V)} {l : List (Str × PyData)} : Rq H v d → KvD H r l → KvD H ((Sum.inr n, v) :: r) ((n, d) :: l)
theorem KvD.val {H : Hp} {n : Str} : ∀ {kvs : List (Key × V)} {l : List (Str × PyData)}, KvD H kvs l → (∃ v d, valV kvs (Sum.inr n) = some v ∧ getA l n = some d ∧ Rq H v d) ∨ (valV kvs (Sum.inr n) = none ∧ getA l n = none)
  | _, _, .nil => .inr ⟨rfl, rfl⟩
  | _, _, .cons (n := m) (v := v) (d := d) h r => by
    by_cases e : m = n
    · exact .inl ⟨v, d, valV_pos (by rw [e]), by simp [getA, List.find?_cons, e], h⟩
    · have := r.val (n := n)
      rw [valV_neg (fun z => e (Sum.inr.inj z))]
      simp only [getA, List.find?_cons, e, decide_false]
      exact this
theorem KvD.opt {H : Hp} {n : Str} {kvs : List (Key × V)} {l : List (Str × PyData)} (h : KvD H kvs l) : Rq H ((valV kvs (Sum.inr n)).getD .non) ((getA l n).getD .none) := by
  rcases h.val (n := n) with ⟨v, d, a, b, c⟩ | ⟨a, b⟩
  · rw [a, b]; exact c
  · rw [a, b]; exact .non
theorem KvD.kp {S : List Addr} {H H' : Hp} (k : Kp S H H') : ∀ {kvs : List (Key × V)} {l : List (Str × PyData)}, KvD H kvs l → (∀ p ∈ l, purD p.2 = true) → KvD H' kvs l
  | _, _, .nil, _ => .nil
  | _, _, .cons h r, p => .cons (h.pure k (p _ List.mem_cons_self)) (r.kp k fun q m => p q (List.mem_cons_of_mem _ m))
theorem getA_mem {α : Type} {l : List (Str × α)} {n : Str} {a : α} (h : getA l n = some a) : (n, a) ∈ l := by
  unfold getA at h
  obtain ⟨p, e, rfl⟩ := Option.map_eq_some_iff.mp h
  have := List.find?_some e
  have m := List.mem_of_find?_eq_some e
  rw [decide_eq_true_eq] at this
  rw [← this]; exact m
/-- what a set holds: documents, sealed texts, the roles of the stamp, lists (document, role, entry) -/
structure Tst where
  docs : List (Str × PyData)
  txs : List (Str × Str)
  rol : PyData
  lsts : List (Str × PyData)
def Tst.ch (s : Tst) : PyData := (getA s.docs kC).getD .none
structure Tst.Ok (s : Tst) : Prop where
  ch : getA s.docs kC = some s.ch ∧ isCharter s.ch = true
  st : ∀ d, getA s.docs kT = some d → isStamp d = true
  sh : ∀ d, getA s.docs kF = some d → isShelf d = true
  ok : ∀ p ∈ s.docs, okD 12 p.2 = true ∧ purD p.2 = true
  cx : (getT s.txs kC).isSome = true
  sx : (getA s.docs kF).isSome = true → (getT s.txs kF).isSome = true
  tx : ∀ p ∈ s.txs, p.2.length ≤ 100000
  rol : okD 13 s.rol = true ∧ purD s.rol = true
  ls : ∀ p ∈ s.lsts, okD 13 p.2 = true ∧ purD p.2 = true ∧ tupB 3 3 p.2 = true
/-- a trusted set at o, its dicts at dd, ds and dl, its office at off -/
structure Trs (C o dd ds dl off : Addr) (s : Tst) (H : Hp) : Prop where
  ob : ∃ dx rv, H o = some (.ins C dx [("_office", .ref off), ("_documents", .ref dd), ("_sealed", .ref ds), ("_roles", rv), ("_lists", .ref dl)]) ∧ Rq H rv s.rol
  d1 : ∃ kvs, H dd = some (.dK kvs) ∧ KvD H kvs s.docs
  d2 : H ds = some (.dK (txK s.txs))
  d3 : ∃ kvs, H dl = some (.dK kvs) ∧ KvD H kvs s.lsts
  n1 : dd ≠ ds
  n2 : dd ≠ dl
  n3 : ds ≠ dl
  ok : s.Ok
theorem Trs.kp {S : List Addr} {C o dd ds dl off : Addr} {s : Tst} {H H' : Hp} (h : Trs C o dd ds dl off s H) (k : Kp S H H') (m1 : o ∉ S) (m2 : dd ∉ S) (m3 : ds ∉ S) (m4 : dl ∉ S) : Trs C o dd ds dl off s H' :=
  let ⟨dx, rv, e, r⟩ := h.ob
  let ⟨k1, e1, r1⟩ := h.d1
  let ⟨k3, e3, r3⟩ := h.d3
  ⟨⟨dx, rv, k.keep _ _ m1 e, r.pure k h.ok.rol.2⟩, ⟨k1, k.keep _ _ m2 e1, r1.kp k fun p m => (h.ok.ok p m).2⟩, k.keep _ _ m3 h.d2, ⟨k3, k.keep _ _ m4 e3, r3.kp k fun p m => (h.ok.ls p m).2.1⟩, h.n1, h.n2, h.n3, h.ok⟩
theorem Trs.kp0 {C o dd ds dl off : Addr} {s : Tst} {H H' : Hp} (h : Trs C o dd ds dl off s H) (k : Kp [] H H') : Trs C o dd ds dl off s H' := h.kp k List.not_mem_nil List.not_mem_nil List.not_mem_nil List.not_mem_nil
theorem Trs.tabs {Ts : List Addr} {C o dd ds dl off : Addr} {s : Tst} {H H' : Hp} (h : Trs C o dd ds dl off s H) (k : Kp Ts H H') (g : Tabs Ts H) : Trs C o dd ds dl off s H' :=
  let ⟨_, _, e, _⟩ := h.ob
  let ⟨_, e1, _⟩ := h.d1
  let ⟨_, e3, _⟩ := h.d3
  h.kp k (g.ne e) (g.ne e1) (g.ne h.d2) (g.ne e3)
/-- enough seals on the sealed text x for the role r -/
def Sgn (made : List (Str × Str)) (x : Str) (r : PyData) : Prop := ∃ z ss, opn x (.tup [.str z, .tup ss]) ∧ sgn made z ss r = true
def Tst.one (d : PyData) (x : Str) : Tst := ⟨[(kC, d)], [(kC, x)], .none, []⟩
def spTInit (C CO CR : Addr) (Ts : List Addr) : Sp := fun vs H Q E => ∃ (o dx off dm : Addr) (made : List (Str × Str)) (v : V), vs = [.ref o, .ref off, v] ∧ H o = some (.ins C dx []) ∧ Ofc CO off dm made H ∧ (∃ t, tyN H v = some t) ∧ (∀ z, v = .str z → z.length ≤ 10000000) ∧ Tabs Ts H ∧
  (∀ x d, v = .str x → DocIn kC x d → Sgn made x (rlD d 0) → ∀ dd ds dl H', H dd = none → H ds = none → H dl = none → Trs C o dd ds dl off (Tst.one d x) H' → Kp (o :: Ts) H H' → Tabs Ts H' → Q .non H') ∧
  ((∀ x d, v = .str x → ¬ DocIn kC x d) → ∀ (e : Addr) (H' : Hp), Kp (o :: Ts) H H' → Tabs Ts H' → H e = none → H' e = some (xdR "form") → E (.ref CR) (some e) H') ∧
  (∀ x d, v = .str x → DocIn kC x d → ¬ Sgn made x (rlD d 0) → ∀ (e : Addr) (H' : Hp), Kp (o :: Ts) H H' → Tabs Ts H' → H e = none → H' e = some (xdR "seals") → E (.ref CR) (some e) H')
def spTDoc (C : Addr) (k : Str) : Sp := fun vs H Q _ => ∃ (o dd ds dl off : Addr) (s : Tst), vs = [.ref o] ∧ Trs C o dd ds dl off s H ∧ ∀ u, Rq H u ((getA s.docs k).getD .none) → Q u H
def optZ : Option Str → V
  | none => .non
  | some t => .str t
def spTSealed (C : Addr) : Sp := fun vs H Q _ => ∃ (o dd ds dl off : Addr) (s : Tst) (k : Str), vs = [.ref o, .str k] ∧ Trs C o dd ds dl off s H ∧ Q (optZ (getT s.txs k)) H
def spTRoles (C : Addr) : Sp := fun vs H Q _ => ∃ (o dd ds dl off : Addr) (s : Tst), vs = [.ref o] ∧ Trs C o dd ds dl off s H ∧ ∀ u, Rq H u s.rol → Q u H
def lstAt (s : Tst) (z : Str) (i : Nat) : PyData := match getA s.lsts z with | none => .none | some d => ixD d i
def spTList (C : Addr) (i : Nat) : Sp := fun vs H Q _ => ∃ (o dd ds dl off : Addr) (s : Tst) (z : Str), vs = [.ref o, .str z] ∧ Trs C o dd ds dl off s H ∧ ∀ u, Rq H u (lstAt s z i) → Q u H
def Tst.pres (s : Tst) : PyData := .tuple [rlD s.ch 1, rlD s.ch 2]
def spTPres (C : Addr) : Sp := fun vs H Q _ => ∃ (o dd ds dl off : Addr) (s : Tst), vs = [.ref o] ∧ Trs C o dd ds dl off s H ∧ ∀ u H', Kp [] H H' → Rq H' u s.pres → Q u H'
def Tst.outd (s : Tst) : Bool := (getA s.docs kT).isSome && !PyData.eqv s.rol s.pres
def spTOut (C : Addr) : Sp := fun vs H Q _ => ∃ (o dd ds dl off : Addr) (s : Tst), vs = [.ref o] ∧ Trs C o dd ds dl off s H ∧ ∀ H', Kp [] H H' → Q (.bl s.outd) H'
def Tst.curr (s : Tst) : Bool := match getA s.docs kT, getA s.docs kF, getT s.txs kF with
  | some t, some f, some x => PyData.eqv (ixD t 3) (.tuple [ixD f 1, .int (x.length : Nat), .str (dgs x)])
  | _, _, _ => false
def spTCur (C : Addr) : Sp := fun vs H Q _ => ∃ (o dd ds dl off : Addr) (s : Tst), vs = [.ref o] ∧ Trs C o dd ds dl off s H ∧ ∀ H', Kp [] H H' → Q (.bl s.curr) H'
def Tst.forg (s : Tst) : Tst := Tst.one s.ch ((getT s.txs kC).getD Str.empty)
def spTForg (C : Addr) : Sp := fun vs H Q _ => ∃ (o dd ds dl off : Addr) (s : Tst), vs = [.ref o] ∧ Trs C o dd ds dl off s H ∧ ∀ d1 d2 d3 H', H d1 = none → H d2 = none → H d3 = none → Kp [o] H H' → Trs C o d1 d2 d3 off s.forg H' → Q .non H'
theorem dgs_ok (x : Str) : PyData.strOk (dgs x) = true := strOk_low fun c hc => by
  have := hx18_in _ c (by simpa [dgs] using hc)
  exact (show ∀ c ∈ hxs, c < 128 by decide) c this
theorem st_tup {d : PyData} (h : isStamp d = true) : tupB 4 4 d = true := by
  unfold isStamp headB at h; simp only [Bool.and_eq_true] at h; exact h.1.1
theorem sh_tup {d : PyData} (h : isShelf d = true) : tupB 4 4 d = true := by
  unfold isShelf headB at h; simp only [Bool.and_eq_true] at h; exact h.1.1
theorem ok_ix {n a b : Nat} {d : PyData} (h : okD (n + 1) d = true) (t : tupB a b d = true) {i : Nat} (hi : i < a) : okD n (ixD d i) = true := by
  have l := (tupB_len t).1
  cases d with
  | tuple ds => exact (okD_tup.mp h).2 _ (getD_mem (by have : a ≤ ds.length := l; omega))
  | _ => cases t
theorem pur_ix {a b : Nat} {d : PyData} (h : purD d = true) (t : tupB a b d = true) {i : Nat} (hi : i < a) : purD (ixD d i) = true := by
  have l := (tupB_len t).1
  cases d with
  | tuple ds => exact purD_tup.mp h _ (getD_mem (by have : a ≤ ds.length := l; omega))
  | _ => cases t
theorem Kp.gone1 {S : List Addr} {H H1 : Hp} (k : Kp S H H1) (g : ∀ b ∈ S, H1 b ≠ none) {e : Addr} (h : H1 e = none) : H e = none := by
  cases c : H e with
  | none => rfl
  | some o =>
    have n : e ∉ S := fun m => g e m h
    rw [k.keep e o n c] at h
    cases h
theorem one_okA {x : Str} {d : PyData} (ic : isCharter d = true) (od : okD 12 d = true) (pu : purD d = true) (lx : x.length ≤ 100000) : (Tst.one d x).Ok := by
  have e1 : getA [(kC, d)] kC = some d := by simp [getA]
  have e2 : getA [(kC, d)] kT = none := by simp [getA, kd_ne.1]
  have e3 : getA [(kC, d)] kF = none := by simp [getA, kd_ne.2.1]
  have ec : (Tst.one d x).ch = d := by show (getA [(kC, d)] kC).getD .none = _; rw [e1]; rfl
  refine ⟨⟨by rw [ec]; exact e1, by rw [ec]; exact ic⟩, fun e h => (by rw [show (Tst.one d x).docs = [(kC, d)] from rfl, e2] at h; cases h), fun e h => (by rw [show (Tst.one d x).docs = [(kC, d)] from rfl, e3] at h; cases h), fun q m => ?_, by simp [Tst.one, getT], fun h => (by rw [show (Tst.one d x).docs = [(kC, d)] from rfl, e3] at h; cases h), fun q m => ?_, ⟨rfl, rfl⟩, fun q m => absurd m List.not_mem_nil⟩
  · cases List.mem_singleton.mp m
    exact ⟨od, pu⟩
  · cases List.mem_singleton.mp m
    exact lx
theorem one_ok {x : Str} {d : PyData} (hd : DocIn kC x d) : (Tst.one d x).Ok := by
  obtain ⟨z, ss, t, o1, l, p, pv, rfl, ok⟩ := hd
  have lp := pval_back 8 _ _ _ pv
  have pl8 : pl 8 t = true := lp.2 (by unfold prn at p; exact List.all_eq_true.mp p)
  have ic : isCharter (dT t) = true := by unfold isK at ok; rw [if_pos rfl] at ok; exact ok
  exact one_okA ic (ok_mono 8 12 _ (by decide) (ok_dT 8 t pl8 (by rw [← List.append_nil (txt t), ← lp.1, ← TL.len_tl]; omega))) (pur_dT 8 t pl8) o1.1
theorem Kp.insT {S : List Addr} {H : Hp} {p C dx dy : Addr} {fs gs : List (Str × V)} (h : H p = some (.ins C dx fs)) (m : p ∈ S) : Kp S H (L2.upd H p (.ins C dy gs)) :=
  ⟨fun b u n q => by rw [upd_ne (fun z => n (by rw [z]; exact m))]; exact q, fun b xs q => by rw [upd_ne (ne_of q h (by intro z; cases z))]; exact q⟩
theorem kp_new2 {S : List Addr} {H : Hp} {p : Addr} {o1 o2 : HO} (h : H p = none) : Kp S H (upd (upd H p o1) p o2) :=
  ⟨fun b u _ q => by have n := ne_of_none q h; rw [upd_ne n, upd_ne n]; exact q, fun b xs q => by have n := ne_of_none q h; rw [upd_ne n, upd_ne n]; exact q⟩
structure TrC (K : PySem.W.Frag) (C : Addr) : Prop where
  cl : Cls K C
  n1 : NoAttr K C "_office"
  n2 : NoAttr K C "_documents"
  n3 : NoAttr K C "_sealed"
  n4 : NoAttr K C "_roles"
  n5 : NoAttr K C "_lists"
section
variable {P : Program} {w : World} {K : PySem.W.Frag} {mg : Str → Option Value} {base : Heap} {f : Addr} {fd : FuncData} {C CO CB CD CR R : Addr} {Ts : List Addr}
theorem ok_tch (F : Fun K "charter" "Trusted.charter" s_Trusted_charter f fd) (B : Blt mg) (T : TrC K C)  : FnOk P w K mg base CX0 1 f fd ["self"] (spTDoc C kC) := by
  refine F.ok sc_Trusted_charter (fun vs H Q E h => ?_) (fun cdv A outer s H vs Q E hr h => ?_)
  · obtain ⟨o, dd, ds, dl, off, st, rfl, _⟩ := h; rfl
  obtain ⟨o, dd, ds, dl, off, st, rfl, hT, q⟩ := h
  refine ⟨_, (pss_one (ps_ret (pe_dget (hu_of hr) (pe_fld (pv 0) rfl) pe_str (fun _ _ => rfl)))), ?_⟩
  obtain ⟨dx, rv, ho, hrv⟩ := hT.ob
  walk_at "wq"
  obtain ⟨kvs, e1, r1⟩ := hT.d1
  rcases r1.val (n := kC) with ⟨v, d, a, b, c⟩ | ⟨a, b⟩
  · have g := DGet.k (k := Sum.inr kC) e1
    rw [a] at g
    rw [b] at q
    exact ⟨C, dx, _, ho, T.cl, T.n2, _, rfl, dd, rfl, v, g, q v c⟩
  · have := hT.ok.ch.1
    rw [b] at this; cases this
theorem ok_tst (F : Fun K "stamp" "Trusted.stamp" s_Trusted_stamp f fd) (B : Blt mg) (T : TrC K C)  : FnOk P w K mg base CX0 1 f fd ["self"] (spTDoc C kT) := by
  refine F.ok sc_Trusted_stamp (fun vs H Q E h => ?_) (fun cdv A outer s H vs Q E hr h => ?_)
  · obtain ⟨o, dd, ds, dl, off, st, rfl, _⟩ := h; rfl
  obtain ⟨o, dd, ds, dl, off, st, rfl, hT, q⟩ := h
  refine ⟨_, (pss_one (ps_ret (pe_dget1 (hu_of hr) (pe_fld (pv 0) rfl) pe_str ⟨rfl, rfl, rfl, rfl⟩))), ?_⟩
  obtain ⟨dx, rv, ho, hrv⟩ := hT.ob
  walk_at "wq"
  obtain ⟨kvs, e1, r1⟩ := hT.d1
  exact ⟨C, dx, _, ho, T.cl, T.n2, _, rfl, dd, rfl, .inl ⟨_, .inl e1⟩, _, DGet.k (k := Sum.inr kT) e1, q _ r1.opt⟩
theorem ok_tsh (F : Fun K "shelf" "Trusted.shelf" s_Trusted_shelf f fd) (B : Blt mg) (T : TrC K C)  : FnOk P w K mg base CX0 1 f fd ["self"] (spTDoc C kF) := by
  refine F.ok sc_Trusted_shelf (fun vs H Q E h => ?_) (fun cdv A outer s H vs Q E hr h => ?_)
  · obtain ⟨o, dd, ds, dl, off, st, rfl, _⟩ := h; rfl
  obtain ⟨o, dd, ds, dl, off, st, rfl, hT, q⟩ := h
  refine ⟨_, (pss_one (ps_ret (pe_dget1 (hu_of hr) (pe_fld (pv 0) rfl) pe_str ⟨rfl, rfl, rfl, rfl⟩))), ?_⟩
  obtain ⟨dx, rv, ho, hrv⟩ := hT.ob
  walk_at "wq"
  obtain ⟨kvs, e1, r1⟩ := hT.d1
  exact ⟨C, dx, _, ho, T.cl, T.n2, _, rfl, dd, rfl, .inl ⟨_, .inl e1⟩, _, DGet.k (k := Sum.inr kF) e1, q _ r1.opt⟩
theorem ok_tse (F : Fun K "sealed" "Trusted.sealed" s_Trusted_sealed f fd) (B : Blt mg) (T : TrC K C)  : FnOk P w K mg base CX0 1 f fd ["self", "kind"] (spTSealed C) := by
  refine F.ok sc_Trusted_sealed (fun vs H Q E h => ?_) (fun cdv A outer s H vs Q E hr h => ?_)
  · obtain ⟨o, dd, ds, dl, off, st, k, rfl, _⟩ := h; rfl
  obtain ⟨o, dd, ds, dl, off, st, k, rfl, hT, q⟩ := h
  refine ⟨_, (pss_one (ps_ret (pe_dget1 (hu_of hr) (pe_fld (pv 0) rfl) (pv 1) ⟨rfl, rfl, rfl, rfl⟩))), ?_⟩
  obtain ⟨dx, rv, ho, hrv⟩ := hT.ob
  walk_at "wq"
  refine ⟨C, dx, _, ho, T.cl, T.n3, _, rfl, ds, rfl, .inl ⟨_, .inl hT.d2⟩, _, DGet.k (k := Sum.inr k) hT.d2, ?_⟩
  rw [txK_val]
  cases h : getT st.txs k <;> (rw [h] at q; exact q)
theorem ok_tro (F : Fun K "roles" "Trusted.roles" s_Trusted_roles f fd) (B : Blt mg) (T : TrC K C)  : FnOk P w K mg base CX0 1 f fd ["self"] (spTRoles C) := by
  refine F.ok sc_Trusted_roles (fun vs H Q E h => ?_) (fun cdv A outer s H vs Q E hr h => ?_)
  · obtain ⟨o, dd, ds, dl, off, st, rfl, _⟩ := h; rfl
  obtain ⟨o, dd, ds, dl, off, st, rfl, hT, q⟩ := h
  refine ⟨_, (pss_one (ps_ret (pe_fld (pv 0) rfl))), ?_⟩
  obtain ⟨dx, rv, ho, hrv⟩ := hT.ob
  walk_at "wq"
  exact ⟨C, dx, _, ho, T.cl, T.n4, _, rfl, q _ hrv⟩
theorem ok_tlo (F : Fun K "list_of" "Trusted.list_of" s_Trusted_list_of f fd) (B : Blt mg) (T : TrC K C)  : FnOk P w K mg base CX0 1 f fd ["self", "name"] (spTList C 0) := by
  refine F.ok sc_Trusted_list_of (fun vs H Q E h => ?_) (fun cdv A outer s H vs Q E hr h => ?_)
  · obtain ⟨o, dd, ds, dl, off, st, z, rfl, _⟩ := h; rfl
  obtain ⟨o, dd, ds, dl, off, st, z, rfl, hT, q⟩ := h
  refine ⟨_, (pss_cons (ps_if (pt_cmp (pc_dnotin (hu_of hr) (pv 1) (pe_fld (pv 0) rfl))) (pss_one (ps_ret pe_non)) pss_nil)
    (pss_one (ps_ret (pe_ix ix_tM (pe_dget (hu_of hr) (pe_fld (pv 0) rfl) (pv 1) (fun _ _ => rfl)) pe_int (fun _ _ => rfl))))), ?_⟩
  obtain ⟨dx, rv, ho, hrv⟩ := hT.ob
  walk_at "wq"
  obtain ⟨kvs, e3, r3⟩ := hT.d3
  have g := DGet.k (k := Sum.inr z) e3
  refine ⟨C, dx, _, ho, T.cl, T.n5, _, rfl, dl, rfl, _, g, ?_⟩
  unfold lstAt at q
  rcases r3.val (n := z) with ⟨v, d, a, b, c⟩ | ⟨a, b⟩
  · rw [a] at g
    rw [b] at q
    rw [a]
    refine if_no (by simp) ?_
    obtain ⟨p, xs, rfl, ep, _, _, x, hx, rx⟩ := c.part (hT.ok.ls _ (getA_mem b)).2.2 (i := 0) (by omega)
    exact ⟨C, dx, _, ho, T.cl, T.n5, _, rfl, dl, rfl, _, g, p, rfl, xs, ep, x, hx, q x rx⟩
  · rw [a]
    rw [b] at q
    exact if_yes rfl (q _ .non)
theorem ok_tlr (F : Fun K "list_role" "Trusted.list_role" s_Trusted_list_role f fd) (B : Blt mg) (T : TrC K C)  : FnOk P w K mg base CX0 1 f fd ["self", "name"] (spTList C 1) := by
  refine F.ok sc_Trusted_list_role (fun vs H Q E h => ?_) (fun cdv A outer s H vs Q E hr h => ?_)
  · obtain ⟨o, dd, ds, dl, off, st, z, rfl, _⟩ := h; rfl
  obtain ⟨o, dd, ds, dl, off, st, z, rfl, hT, q⟩ := h
  refine ⟨_, (pss_cons (ps_if (pt_cmp (pc_dnotin (hu_of hr) (pv 1) (pe_fld (pv 0) rfl))) (pss_one (ps_ret pe_non)) pss_nil)
    (pss_one (ps_ret (pe_ix ix_tM (pe_dget (hu_of hr) (pe_fld (pv 0) rfl) (pv 1) (fun _ _ => rfl)) pe_int (fun _ _ => rfl))))), ?_⟩
  obtain ⟨dx, rv, ho, hrv⟩ := hT.ob
  walk_at "wq"
  obtain ⟨kvs, e3, r3⟩ := hT.d3
  have g := DGet.k (k := Sum.inr z) e3
  refine ⟨C, dx, _, ho, T.cl, T.n5, _, rfl, dl, rfl, _, g, ?_⟩
  unfold lstAt at q
  rcases r3.val (n := z) with ⟨v, d, a, b, c⟩ | ⟨a, b⟩
  · rw [a] at g
    rw [b] at q
    rw [a]
    refine if_no (by simp) ?_
    obtain ⟨p, xs, rfl, ep, _, _, x, hx, rx⟩ := c.part (hT.ok.ls _ (getA_mem b)).2.2 (i := 1) (by omega)
    exact ⟨C, dx, _, ho, T.cl, T.n5, _, rfl, dl, rfl, _, g, p, rfl, xs, ep, x, hx, q x rx⟩
  · rw [a]
    rw [b] at q
    exact if_yes rfl (q _ .non)
theorem ok_tpr (F : Fun K "_present_roles" "Trusted._present_roles" s_Trusted__present_roles f fd) (B : Blt mg) (T : TrC K C) (m_Trusted_charter : CalM P w K mg base CX0 1 C "charter" (spTDoc C kC)) (c_role_of : Cal P w K mg base CX0 1 "role_of" spRoleOf) : FnOk P w K mg base CX0 2 f fd ["self"] (spTPres C) := by
  refine F.ok sc_Trusted__present_roles (fun vs H Q E h => ?_) (fun cdv A outer s H vs Q E hr h => ?_)
  · obtain ⟨o, dd, ds, dl, off, st, rfl, _⟩ := h; rfl
  obtain ⟨o, dd, ds, dl, off, st, rfl, hT, q⟩ := h
  refine ⟨_, (pss_cons (ps_set (i := 1) sc_Trusted__present_roles.nd rfl (Or.inl rfl) (m_Trusted_charter.pe0 hr (pv 0)))
    (pss_one (ps_ret (pe_tup (pa_cons (c_role_of.pe hr (pa_cons (pv 1) (pa_cons pe_str pa_nil))) (pa_cons (c_role_of.pe hr (pa_cons (pv 1) (pa_cons pe_str pa_nil))) pa_nil)))))), ?_⟩
  obtain ⟨dx, rv, ho, hrv⟩ := hT.ob
  walk_at "wq"
  have ch := hT.ok.ch.2
  refine ⟨dx, _, ho, rfl, o, dd, ds, dl, off, st, rfl, hT, fun u hu => ⟨u, st.ch, kT, 1, rfl, hu, ch, rfl, fun u2 r2 => ⟨u, st.ch, kF, 2, rfl, hu, ch, rfl, fun u3 r3 => ⟨by decide, fun p hp => ?_⟩⟩⟩⟩
  have k : Kp [] H (upd H p (.tup [u2, u3])) := Kp.new hp _
  exact q _ _ k (.tup upd_same (.cons (r2.kp0 k) (.cons (r3.kp0 k) .nil)))
theorem ok_tou (F : Fun K "outdated" "Trusted.outdated" s_Trusted_outdated f fd) (B : Blt mg) (T : TrC K C) (m_Trusted_stamp : CalM P w K mg base CX0 1 C "stamp" (spTDoc C kT)) (m_Trusted_present_roles : CalM P w K mg base CX0 2 C "_present_roles" (spTPres C)) : FnOk P w K mg base CX0 3 f fd ["self"] (spTOut C) := by
  refine F.ok sc_Trusted_outdated (fun vs H Q E h => ?_) (fun cdv A outer s H vs Q E hr h => ?_)
  · obtain ⟨o, dd, ds, dl, off, st, rfl, _⟩ := h; rfl
  obtain ⟨o, dd, ds, dl, off, st, rfl, hT, q⟩ := h
  refine ⟨_, (pss_one (ps_ret (pe_and (pe_cmpR op_notN (m_Trusted_stamp.pe0 hr (pv 0)) pe_non (nomark _)) (pe_one (pe_cmpR (op_neD hr.units) (pe_fld (pv 0) rfl) (m_Trusted_present_roles.pe0 hr (pv 0)) (nomark _)))))), ?_⟩
  obtain ⟨dx, rv, ho, hrv⟩ := hT.ob
  walk_at "wq"
  have ch := hT.ok.ch.2
  have och := (hT.ok.ok _ (getA_mem hT.ok.ch.1)).1
  unfold Tst.outd at q
  refine ⟨dx, _, ho, rfl, o, dd, ds, dl, off, st, rfl, hT, fun u hu => ?_⟩
  cases g : getA st.docs kT with
  | none =>
    rw [g] at hu q
    cases hu
    exact if_no (by simp) (q H (Kp.refl _ _))
  | some d =>
    rw [g] at hu q
    have hd := hT.ok.st d g
    obtain ⟨p, xs, rfl, _⟩ := hu.part (st_tup hd) (i := 0) (by omega)
    refine if_yes (by simp) ⟨C, dx, _, ho, T.cl, T.n4, _, rfl, dx, _, ho, rfl, o, dd, ds, dl, off, st, rfl, hT, fun u H' k r => ⟨st.rol, st.pres, (hrv.kp0 k).dp, r.dp, ok_shaped hT.ok.rol.1 (by decide), ok_shaped (n := 12) ?_ (by decide), q H' k⟩⟩
    have o3 : ∀ j < 4, okD 11 (ixD (ixD st.ch 3) j) = true := fun j hj => ok_mono 10 11 _ (by decide) (ok_ix (ok_ix och (ch_tup ch) (i := 3) (by omega)) (ch_rls ch) hj)
    exact okD_tup.mpr ⟨by show 2 ≤ 200000; decide, fun d m => by
      rcases List.mem_cons.mp m with rfl | m
      · exact o3 1 (by omega)
      · cases List.mem_singleton.mp m
        exact o3 2 (by omega)⟩
theorem ok_tcu (F : Fun K "is_current" "Trusted.is_current" s_Trusted_is_current f fd) (B : Blt mg) (T : TrC K C) (m_Trusted_stamp : CalM P w K mg base CX0 1 C "stamp" (spTDoc C kT)) (m_Trusted_shelf : CalM P w K mg base CX0 1 C "shelf" (spTDoc C kF)) (c_digest : Cal P w K mg base CX0 1 "digest" spDigest) : FnOk P w K mg base CX0 2 f fd ["self"] (spTCur C) := by
  refine F.ok sc_Trusted_is_current (fun vs H Q E h => ?_) (fun cdv A outer s H vs Q E hr h => ?_)
  · obtain ⟨o, dd, ds, dl, off, st, rfl, _⟩ := h; rfl
  obtain ⟨o, dd, ds, dl, off, st, rfl, hT, q⟩ := h
  refine ⟨_, (pss_cons (ps_if (PW.pt (pw_or (pt_cmpR op_isN (m_Trusted_stamp.pe0 hr (pv 0)) pe_non (nomark _)) (pw_or1 (pt_cmpR op_isN (m_Trusted_shelf.pe0 hr (pv 0)) pe_non (nomark _))))) (pss_one (ps_ret pe_bl)) pss_nil)
    (pss_cons (ps_set (i := 1) sc_Trusted_is_current.nd rfl (Or.inl rfl) (pe_dget (hu_of hr) (pe_fld (pv 0) rfl) pe_str (fun _ _ => rfl)))
    (pss_one (ps_ret (pe_cmpR (op_eqD hr.units) (pe_ix ix_tM (m_Trusted_stamp.pe0 hr (pv 0)) pe_int (fun _ _ => rfl)) (pe_tup (pa_cons (pe_ix ix_tM (m_Trusted_shelf.pe0 hr (pv 0)) pe_int (fun _ _ => rfl)) (pa_cons (B.len_s (pa_cons (pv 1) pa_nil)) (pa_cons (c_digest.pe hr (pa_cons (pv 1) pa_nil)) pa_nil)))) (nomark _)))))), ?_⟩
  obtain ⟨dx, rv, ho, hrv⟩ := hT.ob
  walk_at "wq"
  unfold Tst.curr at q
  refine ⟨dx, _, ho, rfl, o, dd, ds, dl, off, st, rfl, hT, fun u hu => ?_⟩
  cases g : getA st.docs kT with
  | none =>
    rw [g] at hu q
    cases hu
    exact if_yes rfl (q H (Kp.refl _ _))
  | some d =>
  rw [g] at hu q
  have hd := hT.ok.st d g
  have od := (hT.ok.ok _ (getA_mem g)).1
  obtain ⟨p, xs, rfl, ep, _, _, x3, hx3, rx3⟩ := hu.part (st_tup hd) (i := 3) (by omega)
  refine if_no (by intro z; cases z) ⟨dx, _, ho, rfl, o, dd, ds, dl, off, st, rfl, hT, fun w hw => ?_⟩
  cases g2 : getA st.docs kF with
  | none =>
    rw [g2] at hw q
    cases hw
    exact if_yes rfl (q H (Kp.refl _ _))
  | some e =>
  rw [g2] at hw q
  have he := hT.ok.sh e g2
  have oe := (hT.ok.ok _ (getA_mem g2)).1
  obtain ⟨b, ys, rfl, eb, _, _, y1, hy1, ry1⟩ := hw.part (sh_tup he) (i := 1) (by omega)
  obtain ⟨x, hx⟩ := Option.isSome_iff_exists.mp (hT.ok.sx (by rw [g2]; rfl))
  rw [hx] at q
  have lx : x.length ≤ 100000 := hT.ok.tx _ (getT_mem hx)
  have gg := DGet.k (k := Sum.inr kF) hT.d2
  rw [txK_val, hx] at gg
  refine if_no (by intro z; cases z) ⟨C, dx, _, ho, T.cl, T.n3, _, rfl, ds, rfl, _, gg, ?_⟩
  refine ⟨dx, _, ho, rfl, o, dd, ds, dl, off, st, rfl, hT, fun u1 h1 => ?_⟩
  rw [g] at h1
  obtain ⟨p', xs', e1',  ep', _, _, x3', hx3', rx3'⟩ := h1.part (st_tup hd) (i := 3) (by omega)
  refine ⟨_, e1', xs', ep', x3', hx3', dx, _, ho, rfl, o, dd, ds, dl, off, st, rfl, hT, fun w1 hw1 => ?_⟩
  rw [g2] at hw1
  obtain ⟨b', ys', e2',  eb', _, _, y1', hy1', ry1'⟩ := hw1.part (sh_tup he) (i := 1) (by omega)
  refine ⟨_, e2', ys', eb', y1', hy1', ?_⟩
  refine ⟨x, rfl, by rw [sizeLine_eq]; omega, x, rfl, by rw [sizeLine_eq]; omega, by decide, fun r hr => ?_⟩
  have k : Kp [] H (upd H r (.tup [y1', .int (x.length : Nat), .str (dgs x)])) := Kp.new hr _
  have R : Rq (upd H r (.tup [y1', .int (x.length : Nat), .str (dgs x)])) (.ref r) (.tuple [ixD e 1, .int (x.length : Nat), .str (dgs x)]) := .tup upd_same (.cons (ry1'.kp0 k) (.cons (.int _) (.cons (.str _) .nil)))
  refine ⟨_, _, (rx3'.kp0 k).dp, R.dp, ok_shaped (ok_ix od (st_tup hd) (i := 3) (by omega)) (by decide), ok_shaped (n := 12) (okD_tup.mpr ⟨by show 3 ≤ 200000; decide, fun z m => ?_⟩) (by decide), q _ k⟩
  rcases List.mem_cons.mp m with rfl | m
  · exact ok_ix oe (sh_tup he) (i := 1) (by omega)
  rcases List.mem_cons.mp m with rfl | m
  · exact okD_int.mpr ⟨by omega, by omega⟩
  cases List.mem_singleton.mp m
  exact okD_str.mpr ⟨by rw [dgs_len]; decide, dgs_ok x⟩
theorem ok_tfo (F : Fun K "forget" "Trusted.forget" s_Trusted_forget f fd) (B : Blt mg) (T : TrC K C)  : FnOk P w K mg base CX0 1 f fd ["self"] (spTForg C) := by
  refine F.ok sc_Trusted_forget (fun vs H Q E h => ?_) (fun cdv A outer s H vs Q E hr h => ?_)
  · obtain ⟨o, dd, ds, dl, off, st, rfl, _⟩ := h; rfl
  obtain ⟨o, dd, ds, dl, off, st, rfl, hT, q⟩ := h
  refine ⟨_, (C8.pss_cut (ps_fld (pv 0) (pe_disp (pps_cons pe_str (pe_dget (hu_of hr) (pe_fld (pv 0) rfl) pe_str (fun _ _ => rfl)) pps_nil) rfl rfl (by intro h; cases h) (by decide)) rfl)
    (C8.pss_cut (ps_fld (pv 0) (pe_disp (pps_cons pe_str (pe_dget (hu_of hr) (pe_fld (pv 0) rfl) pe_str (fun _ _ => rfl)) pps_nil) rfl rfl (by intro h; cases h) (by decide)) rfl)
    (C8.pss_cut (ps_fld (pv 0) pe_non rfl)
    (pss_one (ps_fld (pv 0) pe_dnewK rfl))))), ?_⟩
  obtain ⟨dx, rv, ho, hrv⟩ := hT.ob
  have m : o ∈ [o] := List.mem_singleton.mpr rfl
  obtain ⟨kvs, e1, r1⟩ := hT.d1
  refine ⟨fun σ H1 => σ = [some (.ref o)] ∧ ∃ d1 v, H d1 = none ∧ Kp [o] H H1 ∧ H1 o = some (.ins C dx [("_office", .ref off), ("_documents", .ref d1), ("_sealed", .ref ds), ("_roles", rv), ("_lists", .ref dl)]) ∧ H1 d1 = some (.dK [(Sum.inr kC, v)]) ∧ Rq H v st.ch, ?_, fun σ H1 ⟨hσ, d1, v, h1, k1, ho1, hd1, hv⟩ => ?_⟩
  · walk_at "wq"
    intro p hp
    have no : o ≠ p := ne_of_none ho hp
    have nd : dd ≠ p := ne_of_none e1 hp
    have e1' : upd H p (.dK []) dd = some (.dK kvs) := by rw [upd_ne nd]; exact e1
    have g := DGet.k (k := Sum.inr kC) e1'
    obtain ⟨v, ev, rw1⟩ : ∃ v, valV kvs (Sum.inr kC) = some v ∧ Rq H v st.ch := by
      rcases r1.val (n := kC) with ⟨v, d, a, b, c⟩ | ⟨a, b⟩
      · have := hT.ok.ch.1
        rw [b] at this; cases this
        exact ⟨v, a, c⟩
      · have := hT.ok.ch.1
        rw [b] at this; cases this
    rw [ev] at g
    have eo : upd (upd H p (.dK [])) p (.dK (mergeK [] [(Sum.inr kC, v)])) o = some (.ins C dx [("_office", .ref off), ("_documents", .ref dd), ("_sealed", .ref ds), ("_roles", rv), ("_lists", .ref dl)]) := by rw [upd_ne no, upd_ne no]; exact ho
    exact ⟨C, dx, _, by rw [upd_ne no]; exact ho, T.cl, T.n2, _, rfl, dd, rfl, v, g, [(Sum.inr kC, v)], rfl, by show 1 ≤ 15; decide, C, dx, _, eo, T.cl, T.n2, by show 5 < 1000; decide, p, hp, (kp_new2 hp).trans (Kp.insT eo m), rfl, v, by rw [upd_ne no.symm, upd_same]; rfl, rw1⟩
  subst hσ
  refine ⟨fun σ H2 => σ = [some (.ref o)] ∧ ∃ d2 z, getT st.txs kC = some z ∧ H d2 = none ∧ d2 ≠ d1 ∧ Kp [o] H H2 ∧ H2 o = some (.ins C dx [("_office", .ref off), ("_documents", .ref d1), ("_sealed", .ref d2), ("_roles", rv), ("_lists", .ref dl)]) ∧ H2 d1 = some (.dK [(Sum.inr kC, v)]) ∧ H2 d2 = some (.dK [(Sum.inr kC, .str z)]), ?_, fun σ H2 ⟨hσ, d2, z, hz, h2, n2, k2, ho2, hd2, hs2⟩ => ?_⟩
  · walk_at "wq"
    intro p hp
    have no : o ≠ p := ne_of_none ho1 hp
    have n1 : d1 ≠ p := ne_of_none hd1 hp
    have es1 : H1 ds = some (.dK (txK st.txs)) := k1.keep _ _ (by rw [List.mem_singleton]; exact ne_of hT.d2 ho (by intro z; cases z)) hT.d2
    have nd : ds ≠ p := ne_of_none es1 hp
    have es1' : upd H1 p (.dK []) ds = some (.dK (txK st.txs)) := by rw [upd_ne nd]; exact es1
    have g := DGet.k (k := Sum.inr kC) es1'
    obtain ⟨z, hz⟩ := Option.isSome_iff_exists.mp hT.ok.cx
    rw [txK_val, hz] at g
    have eo : upd (upd H1 p (.dK [])) p (.dK (mergeK [] [(Sum.inr kC, V.str z)])) o = some (.ins C dx [("_office", .ref off), ("_documents", .ref d1), ("_sealed", .ref ds), ("_roles", rv), ("_lists", .ref dl)]) := by rw [upd_ne no, upd_ne no]; exact ho1
    have n01 : o ≠ d1 := ne_of ho1 hd1 (by intro z; cases z)
    exact ⟨C, dx, _, by rw [upd_ne no]; exact ho1, T.cl, T.n3, _, rfl, ds, rfl, .str z, g, [(Sum.inr kC, .str z)], rfl, by show 1 ≤ 15; decide, C, dx, _, eo, T.cl, T.n3, by show 5 < 1000; decide, p, z, hz, k1.gone1 (fun b hb => by rw [List.mem_singleton.mp hb, ho1]; simp) hp, n1.symm, k1.trans ((kp_new2 hp).trans (Kp.insT eo m)), rfl, by rw [upd_ne n01.symm, upd_ne n1, upd_ne n1]; exact hd1, by rw [upd_ne no.symm, upd_same]; rfl⟩
  subst hσ
  refine ⟨fun σ H3 => σ = [some (.ref o)] ∧ Kp [o] H H3 ∧ H3 o = some (.ins C dx [("_office", .ref off), ("_documents", .ref d1), ("_sealed", .ref d2), ("_roles", .non), ("_lists", .ref dl)]) ∧ H3 d1 = some (.dK [(Sum.inr kC, v)]) ∧ H3 d2 = some (.dK [(Sum.inr kC, .str z)]), ?_, fun σ H3 ⟨hσ, k3, ho3, hd3, hs3⟩ => ?_⟩
  · walk_at "wq"
    have n1 : o ≠ d1 := ne_of ho2 hd2 (by intro z; cases z)
    have n2 : o ≠ d2 := ne_of ho2 hs2 (by intro z; cases z)
    exact ⟨C, dx, _, ho2, T.cl, T.n4, by show 5 < 1000; decide, k2.trans (Kp.insT ho2 m), rfl, by rw [upd_ne n1.symm]; exact hd2, by rw [upd_ne n2.symm]; exact hs2⟩
  subst hσ
  walk_at "wq"
  intro p hp
  have no : o ≠ p := ne_of_none ho3 hp
  have n1 : d1 ≠ p := ne_of_none hd3 hp
  have n2' : d2 ≠ p := ne_of_none hs3 hp
  have m1 : o ≠ d1 := ne_of ho3 hd3 (by intro z; cases z)
  have m2 : o ≠ d2 := ne_of ho3 hs3 (by intro z; cases z)
  have eo : upd H3 p (.dK []) o = some (.ins C dx [("_office", .ref off), ("_documents", .ref d1), ("_sealed", .ref d2), ("_roles", .non), ("_lists", .ref dl)]) := by rw [upd_ne no]; exact ho3
  refine ⟨C, dx, _, eo, T.cl, T.n5, by show 5 < 1000; decide, ?_⟩
  have kk : Kp [o] H3 (upd (upd H3 p (.dK [])) o (.ins C dx (putF "_lists" (.ref p) [("_office", .ref off), ("_documents", .ref d1), ("_sealed", .ref d2), ("_roles", .non), ("_lists", .ref dl)]))) := (Kp.new hp _).trans (Kp.insT eo m)
  have kf := k3.trans kk
  refine q d1 d2 p _ h1 h2 (k3.gone1 (fun b hb => by rw [List.mem_singleton.mp hb, ho3]; simp) hp) kf ?_
  have oks : st.forg.Ok := by
    have m1 := hT.ok.ok _ (getA_mem hT.ok.ch.1)
    unfold Tst.forg
    rw [hz]
    exact one_okA hT.ok.ch.2 m1.1 m1.2 (hT.ok.tx _ (getT_mem hz))
  refine ⟨⟨dx, .non, upd_same, .non⟩, ⟨_, by rw [upd_ne m1.symm, upd_ne n1]; exact hd3, .cons (hv.pure kf (hT.ok.ok _ (getA_mem hT.ok.ch.1)).2) .nil⟩, ?_, ⟨_, by rw [upd_ne no.symm, upd_same], .nil⟩, n2.symm, n1, n2', oks⟩
  rw [upd_ne m2.symm, upd_ne n2', hs3]
  show _ = some (HO.dK (txK [(kC, (getT st.txs kC).getD Str.empty)]))
  rw [hz]; rfl
theorem ok_tinit (F : Fun K "__init__" "Trusted.__init__" s_Trusted___init f fd) (T : TrC K C) (c_document_in : Cal P w K mg base (CXG P w) 25 "_document_in" (spDocIn CR Ts)) (c_require_signed : Cal P w K mg base (CXG P w) 26 "_require_signed" (spSgn CO CR Ts)) (c_role_of : Cal P w K mg base CX0 1 "role_of" spRoleOf) :
    FnOk P w K mg base (CXG P w) 27 f fd ["self", "office", "sealed"] (spTInit C CO CR Ts) := by
  refine F.okG sc_Trusted___init (fun vs H Q E h => ?_) (fun cdv A outer s H vs Q E hr h => ?_)
  · obtain ⟨o, dx, off, dm, made, v, rfl, _⟩ := h; rfl
  obtain ⟨o, dx, off, dm, made, v, rfl, ho, hO, hty, hz, hG, q, q1, q2⟩ := h
  refine ⟨_, (pss_cons (ps_set (i := 3) sc_Trusted___init.nd rfl (Or.inl rfl) (c_document_in.pex hr (passG (takesG_of rfl rfl rfl rfl) fun _ _ _ _ h => h) (pa_cons pe_str (pa_cons (pv 2) pa_nil))))
    (C8.pss_cut (ps_expr (c_require_signed.pex hr (passG (takesG_of rfl rfl rfl rfl) fun _ _ _ _ h => h) (pa_cons (pv 1) (pa_cons (pv 2) (pa_cons (c_role_of.pe hr (pa_cons (pv 3) (pa_cons pe_str pa_nil))) pa_nil)))))
    (C8.pss_cut (ps_fld (pv 0) (pv 1) rfl)
    (C8.pss_cut (ps_fld (pv 0) (pe_disp (pps_cons pe_str (pv 3) pps_nil) rfl rfl (by intro h; cases h) (by decide)) rfl)
    (C8.pss_cut (ps_fld (pv 0) (pe_disp (pps_cons pe_str (pv 2) pps_nil) rfl rfl (by intro h; cases h) (by decide)) rfl)
    (C8.pss_cut (ps_fld (pv 0) pe_non rfl)
    (pss_one (ps_fld (pv 0) pe_dnewK rfl)))))))), ?_⟩
  walk_at "wq"
  refine ⟨kC, v, rfl, hty, hz, hG, fun x d e hd u H1 k1 g1 R1 od => ?_, fun no e H1 k1 g1 he hx => q1 no e H1 (k1.mono fun b m => List.mem_cons_of_mem _ m) g1 he hx⟩
  subst e
  have w := (one_ok hd).ok _ List.mem_cons_self
  have ic : isCharter d = true := by
    obtain ⟨_, _, _, _, _, _, _, _, ok⟩ := hd
    unfold isK at ok; rw [if_pos rfl] at ok; exact ok
  have oT : o ∉ Ts := hG.ne ho
  have ho1 := k1.keep _ _ oT ho
  refine ⟨fun σ H2 => σ = [some (.ref o), some (.ref off), some (.str x), some u] ∧ Sgn made x (rlD d 0) ∧ Kp Ts H H2 ∧ Tabs Ts H2 ∧ Rq H2 u d, ?_, fun σ H2 ⟨hσ, sg, k2, g2, R2⟩ => ?_⟩
  · walk_at "wq"
    refine ⟨u, d, kC, 0, rfl, R1, ic, rfl, fun r hr2 => ?_⟩
    obtain ⟨z, ss, t, o1, rest⟩ := hd
    refine ⟨off, dm, made, x, z, ss, r, _, rfl, hO.tabs k1 hG, o1, hr2, ch_role ic (by omega), g1, fun sg H2 k2 g2 => ⟨⟨z, ss, o1, sg⟩, k1.trans k2, g2, R1.pure k2 w.2⟩, fun ns e H2 k2 g2 he hx => ?_⟩
    refine q2 x d rfl ⟨z, ss, t, o1, rest⟩ (fun ⟨z2, ss2, o2, s2⟩ => ?_) e H2 ((k1.trans k2).mono fun b m => List.mem_cons_of_mem _ m) g2 (k1.gone g1 he) hx
    cases opn_uni o1 o2
    rw [ns] at s2; cases s2
  subst hσ
  have m : o ∈ o :: Ts := List.mem_cons_self
  have up : ∀ {G G' : Hp}, Kp [o] G G' → Kp (o :: Ts) G G' := fun k => k.mono fun b mb => by rw [List.mem_singleton.mp mb]; exact m
  have ho2 : H2 o = some (.ins C dx []) := k2.keep _ _ oT ho
  have m1 : o ∈ [o] := List.mem_singleton.mpr rfl
  have H2o : ∀ {G : Hp} {e : Addr}, Kp [o] H2 G → (∃ fs, G o = some (.ins C dx fs)) → G e = none → H e = none := fun k ⟨fs, hf⟩ he => (k2.gone g2 (k.gone1 (fun b hb => by rw [List.mem_singleton.mp hb, hf]; simp) he))
  refine ⟨fun σ H3 => σ = [some (.ref o), some (.ref off), some (.str x), some u] ∧ H3 o = some (.ins C dx [("_office", .ref off)]) ∧ Kp [o] H2 H3, ?_, fun σ H3 ⟨hσ, ho3, k3⟩ => ?_⟩
  · walk_at "wq"
    exact ⟨C, dx, _, ho2, T.cl, T.n1, by show 0 < 1000; decide, rfl, Kp.insT ho2 m1⟩
  subst hσ
  refine ⟨fun σ H4 => σ = [some (.ref o), some (.ref off), some (.str x), some u] ∧ ∃ d1, H d1 = none ∧ H4 o = some (.ins C dx [("_office", .ref off), ("_documents", .ref d1)]) ∧ H4 d1 = some (.dK [(Sum.inr kC, u)]) ∧ Kp [o] H2 H4, ?_, fun σ H4 ⟨hσ, d1, h1, ho4, hd4, k4⟩ => ?_⟩
  · walk_at "wq"
    intro p hp
    have no : o ≠ p := ne_of_none ho3 hp
    have eo : upd (upd H3 p (.dK [])) p (.dK (mergeK [] [(Sum.inr kC, u)])) o = some (.ins C dx [("_office", .ref off)]) := by rw [upd_ne no, upd_ne no]; exact ho3
    exact ⟨[(Sum.inr kC, u)], rfl, by show 1 ≤ 15; decide, C, dx, _, eo, T.cl, T.n2, by show 1 < 1000; decide, p, H2o k3 ⟨_, ho3⟩ hp, rfl, by rw [upd_ne no.symm, upd_same]; rfl, k3.trans ((kp_new2 hp).trans (Kp.insT eo m1))⟩
  subst hσ
  refine ⟨fun σ H5 => σ = [some (.ref o), some (.ref off), some (.str x), some u] ∧ ∃ d2, H d2 = none ∧ d2 ≠ d1 ∧ H5 o = some (.ins C dx [("_office", .ref off), ("_documents", .ref d1), ("_sealed", .ref d2)]) ∧ H5 d1 = some (.dK [(Sum.inr kC, u)]) ∧ H5 d2 = some (.dK [(Sum.inr kC, .str x)]) ∧ Kp [o] H2 H5, ?_, fun σ H5 ⟨hσ, d2, h2, n2, ho5, hd5, hs5, k5⟩ => ?_⟩
  · walk_at "wq"
    intro p hp
    have no : o ≠ p := ne_of_none ho4 hp
    have n1 : d1 ≠ p := ne_of_none hd4 hp
    have n01 : o ≠ d1 := ne_of ho4 hd4 (by intro z; cases z)
    have eo : upd (upd H4 p (.dK [])) p (.dK (mergeK [] [(Sum.inr kC, V.str x)])) o = some (.ins C dx [("_office", .ref off), ("_documents", .ref d1)]) := by rw [upd_ne no, upd_ne no]; exact ho4
    exact ⟨[(Sum.inr kC, .str x)], rfl, by show 1 ≤ 15; decide, C, dx, _, eo, T.cl, T.n3, by show 2 < 1000; decide, p, H2o k4 ⟨_, ho4⟩ hp, n1.symm, rfl, by rw [upd_ne n01.symm, upd_ne n1, upd_ne n1]; exact hd4, by rw [upd_ne no.symm, upd_same]; rfl, k4.trans ((kp_new2 hp).trans (Kp.insT eo m1))⟩
  subst hσ
  have n1 : o ≠ d1 := ne_of ho5 hd5 (by intro z; cases z)
  have n3 : o ≠ d2 := ne_of ho5 hs5 (by intro z; cases z)
  refine ⟨fun σ H6 => σ = [some (.ref o), some (.ref off), some (.str x), some u] ∧ H6 o = some (.ins C dx [("_office", .ref off), ("_documents", .ref d1), ("_sealed", .ref d2), ("_roles", .non)]) ∧ H6 d1 = some (.dK [(Sum.inr kC, u)]) ∧ H6 d2 = some (.dK [(Sum.inr kC, .str x)]) ∧ Kp [o] H2 H6, ?_, fun σ H6 ⟨hσ, ho6, hd6, hs6, k6⟩ => ?_⟩
  · walk_at "wq"
    exact ⟨C, dx, _, ho5, T.cl, T.n4, by show 3 < 1000; decide, rfl, by rw [upd_ne n1.symm]; exact hd5, by rw [upd_ne n3.symm]; exact hs5, k5.trans (Kp.insT ho5 m1)⟩
  subst hσ
  walk_at "wq"
  intro p hp
  have no : o ≠ p := ne_of_none ho6 hp
  have n4 : d1 ≠ p := ne_of_none hd6 hp
  have n5 : d2 ≠ p := ne_of_none hs6 hp
  have eo : upd H6 p (.dK []) o = some (.ins C dx [("_office", .ref off), ("_documents", .ref d1), ("_sealed", .ref d2), ("_roles", .non)]) := by rw [upd_ne no]; exact ho6
  refine ⟨C, dx, _, eo, T.cl, T.n5, by show 4 < 1000; decide, ?_⟩
  have kf : Kp [o] H2 (upd (upd H6 p (.dK [])) o (.ins C dx (putF "_lists" (.ref p) [("_office", .ref off), ("_documents", .ref d1), ("_sealed", .ref d2), ("_roles", .non)]))) := k6.trans ((Kp.new hp _).trans (Kp.insT eo m1))
  refine q x d rfl hd sg d1 d2 p _ h1 h2 (H2o k6 ⟨_, ho6⟩ hp) ?_ ((k2.mono fun b m => List.mem_cons_of_mem _ m).trans (up kf)) (g2.kp kf fun P mP mo => oT (List.mem_singleton.mp mo ▸ mP))
  exact ⟨⟨dx, .non, upd_same, .non⟩, ⟨_, by rw [upd_ne n1.symm, upd_ne n4]; exact hd6, .cons (R2.pure kf w.2) .nil⟩, by rw [upd_ne n3.symm, upd_ne n5]; exact hs6, ⟨_, by rw [upd_ne no.symm, upd_same], .nil⟩, n2.symm, n4, n5, one_ok hd⟩
end

/-! the law's keys, roles, times, pairs of keys and marks: k35, k37, k54 -/
abbrev s_law_keys : Stmt := top 89
abbrev N_law_keys : List Str := ["stream", "keys", "k"]
theorem sc_law_keys : FnScope N_law_keys ["stream"] (defScope s_law_keys) := ⟨rfl, rfl, rfl, by decide +kernel, rfl, by decide +kernel, by decide +kernel⟩
abbrev s_law_role : Stmt := top 90
abbrev N_law_role : List Str := ["stream", "keys"]
theorem sc_law_role : FnScope N_law_role ["stream"] (defScope s_law_role) := ⟨rfl, rfl, rfl, by decide +kernel, rfl, by decide +kernel, by decide +kernel⟩
abbrev s_law_time : Stmt := top 91
abbrev N_law_time : List Str := ["stream"]
theorem sc_law_time : FnScope N_law_time ["stream"] (defScope s_law_time) := ⟨rfl, rfl, rfl, by decide +kernel, rfl, by decide +kernel, by decide +kernel⟩
abbrev s_law_pairs : Stmt := top 92
abbrev N_law_pairs : List Str := ["stream", "office", "text", "role", "pairs", "good", "keys", "many", "key", "mode", "mark"]
theorem sc_law_pairs : FnScope N_law_pairs ["stream", "office", "text", "role"] (defScope s_law_pairs) := ⟨rfl, rfl, rfl, by decide +kernel, rfl, by decide +kernel, by decide +kernel⟩
theorem mkS_prn (k z : Str) : prn (mkS k z) = true := by
  unfold prn
  rw [List.all_eq_true]
  intro c hc
  have h := hx18_in _ c hc
  exact (by decide +kernel : ∀ c ∈ hxs, prc c = true) c h
def PrsAt (H : Hp) (ts : List Addr) (made : List (Str × Str)) : Prop := ts.length = made.length ∧ ∀ (i : Nat) (t : Addr) (p : Str × Str), ts[i]? = some t → made[i]? = some p → H t = some (.tup [.str p.1, .str p.2])
theorem PrsAt.kp {S : List Addr} {H H' : Hp} {ts : List Addr} {made : List (Str × Str)} (h : PrsAt H ts made) (k : Kp S H H') : PrsAt H' ts made := ⟨h.1, fun i t p e1 e2 => k.tup _ _ (h.2 i t p e1 e2)⟩
theorem mkS_len (k t : Str) : (mkS k t).length = 18 := dgs_len _
theorem strOk_mk (k t : Str) : PyData.strOk (mkS k t) = true := strOk_of fun c hc => by
  have h := hx18_in _ c hc
  simp only [hxs, List.mem_cons, List.not_mem_nil, or_false] at h
  omega
theorem PrsAt.snoc {H : Hp} {ts : List Addr} {ml : List (Str × Str)} {p : Addr} {q : Str × Str} (h : PrsAt H ts ml) (e : H p = some (.tup [.str q.1, .str q.2])) : PrsAt H (ts ++ [p]) (ml ++ [q]) := by
  have tl := h.1
  refine ⟨by rw [List.length_append, List.length_append, tl]; rfl, fun j u v q1 q2 => ?_⟩
  by_cases hj : j < ts.length
  · rw [List.getElem?_append_left hj] at q1
    rw [List.getElem?_append_left (by rw [← tl]; exact hj)] at q2
    exact h.2 j u v q1 q2
  · rw [List.getElem?_append_right (by omega)] at q1
    rw [List.getElem?_append_right (by rw [← tl]; omega)] at q2
    have j0 : j - ts.length = 0 := by
      have := (List.getElem?_eq_some_iff.mp q1).1
      simp at this; omega
    rw [j0] at q1
    rw [← tl, j0] at q2
    cases q1; cases q2
    exact e
def seT (p : Str × Str) : Tr := .tup [.str p.1, .str p.2]
def seaT (t0 : Str) (prs : List (Str × Str)) : Tr := .tup [.str t0, .tup (prs.map seT)]
theorem prs_rep {H : Hp} : ∀ {ts : List Addr} {made : List (Str × Str)}, PrsAt H ts made → RepAll H (ts.map V.ref) (made.map seT)
  | [], [], _ => .nil
  | [], _ :: _, h => absurd h.1 (by simp)
  | _ :: _, [], h => absurd h.1 (by simp)
  | t :: ts, p :: made, h => .cons (.tup (h.2 0 t p rfl rfl) (.cons (.str _) (.cons (.str _) .nil))) (prs_rep ⟨by have := h.1; simpa using this, fun i t p e1 e2 => h.2 (i + 1) t p e1 e2⟩)
theorem sea_ok {t0 : Str} {prs : List (Str × Str)} (h1 : prn t0 = true) (h2 : t0.length ≤ 1000) (h3 : prs.length ≤ 20) (hk : ∀ p ∈ prs, prn p.1 = true ∧ p.1.length ≤ 12) (hm : ∀ p ∈ prs, prn p.2 = true ∧ p.2.length ≤ 40) : okT 8 (seaT t0 prs) 5000 := by
  have a1 : ∀ t ∈ prs.map seT, okT 6 t 124 := fun t ht => by
    obtain ⟨p, hp, rfl⟩ := List.mem_map.mp ht
    have q1 : okT 5 (.str p.1) 61 := okT_str (m := 40) (hk p hp).1 (by have := (hk p hp).2; omega) (by omega)
    have q2 : okT 5 (.str p.2) 61 := okT_str (m := 40) (hm p hp).1 (hm p hp).2 (by omega)
    exact okT_tup (d := 5) (n := 61) (m := 2) (ts := [.str p.1, .str p.2]) (fun t ht => by
      rcases List.mem_cons.mp ht with rfl | ht
      · exact q1
      · rw [List.mem_singleton.mp ht]; exact q2) (by simp) (by omega)
  have a2 : okT 7 (.tup (prs.map seT)) 2482 := okT_tup (m := 20) a1 (by rw [List.length_map]; exact h3) (by omega)
  have a3 : okT 7 (.str t0) 2482 := (okT_str (m := 1000) h1 h2 (by omega)).le (by omega)
  exact (okT_tup (d := 7) (n := 2482) (m := 2) (ts := [.str t0, .tup (prs.map seT)]) (fun t ht => by
    rcases List.mem_cons.mp ht with rfl | ht
    · exact a3
    · rw [List.mem_singleton.mp ht]; exact a2) (by simp) (by omega)).le (by omega)
theorem sea_co {t0 : Str} {prs : List (Str × Str)} (h3 : prs.length ≤ 20) (hk : ∀ p ∈ prs, kyS p.1 = true) (hm : ∀ p ∈ prs, prn p.2 = true ∧ p.2.length ≤ 40) (ha : asc (prs.map (·.1)) = true) : isCo (seaT t0 prs) = true := by
  show (decide ((prs.map seT).length ≤ 32) && (prs.map seT).all isSl && asc ((prs.map seT).map keyT)) = true
  rw [decide_eq_true (by rw [List.length_map]; omega), Bool.true_and, Bool.and_eq_true]
  refine ⟨List.all_eq_true.mpr fun t ht => ?_, ?_⟩
  · obtain ⟨p, hp, rfl⟩ := List.mem_map.mp ht
    show (kyS p.1 && decide (p.2.length ≤ 40)) = true
    rw [hk p hp, decide_eq_true (hm p hp).2]; rfl
  · rw [List.map_map]; exact ha
theorem tl_txt (t : Tr) : TL.tl (⟨(txt t).toArray⟩ : Str) = txt t := rfl
theorem opn_own {t : Tr} {n : Nat} (h : okT 8 t n) (hn : n ≤ 100000) (c : isCo t = true) : opn ⟨(txt t).toArray⟩ t := by
  refine ⟨?_, txt_prn h.1, ?_, c⟩
  · rw [TL.len_tl]; exact Nat.le_trans h.2.2 hn
  · have := pval_txt 8 t [] h.1 h.2.1
    rw [List.append_nil] at this
    exact this
theorem opn_same {t u : Tr} {n : Nat} (h : okT 8 t n) (o : opn ⟨(txt t).toArray⟩ u) : u = t := by
  have := pval_txt 8 t [] h.1 h.2.1
  rw [List.append_nil] at this
  have e := o.2.2.1
  rw [show TL.tl (⟨(txt t).toArray⟩ : Str) = txt t from rfl, this] at e
  exact (Prod.mk.inj (Option.some.inj e)).1.symm
theorem opn_more {t u : Tr} {n : Nat} {z : Str} (h : okT 8 t n) (hz : TL.tl z ≠ []) : ¬ opn (⟨(txt t).toArray⟩ ++ z) u := fun o => by
  have e := o.2.2.1
  rw [TL.tl_append, tl_txt, pval_txt 8 t _ h.1 h.2.1] at e
  exact hz (Prod.mk.inj (Option.some.inj e)).2
theorem opn_txt {x : Str} {t : Tr} (o : opn x t) : TL.tl x = txt t ∧ pl 8 t = true ∧ sml t = true := by
  obtain ⟨h1, h2, h3, h4⟩ := o
  obtain ⟨e, p⟩ := pval_back 8 _ _ _ h3
  rw [List.append_nil] at e
  have p := p (by unfold prn at h2; exact List.all_eq_true.mp h2)
  refine ⟨e, p, sml_of 8 t p ?_⟩
  rw [← e, ← TL.len_tl]; omega
theorem opn_less {t u : Tr} {n k : Nat} {x : Str} (h : okT 8 t n) (hx : TL.tl x = (txt t).take k) (hk : k < (txt t).length) : ¬ opn x u := fun o => by
  obtain ⟨e, p, s⟩ := opn_txt o
  have a := pval_txt 8 u ((txt t).drop k) p s
  rw [← e, hx, List.take_append_drop] at a
  have b := pval_txt 8 t [] h.1 h.2.1
  rw [List.append_nil, a] at b
  have := congrArg List.length (Prod.mk.inj (Option.some.inj b)).2
  rw [List.length_drop, List.length_nil] at this
  omega
theorem opn_last {u : Tr} {x y : Str} {c : Nat} (hx : TL.tl x = TL.tl y ++ [c]) (hc : c ≠ 93) : ¬ opn x u := fun o => by
  obtain ⟨e, _, _⟩ := opn_txt o
  obtain ⟨z, ss, rfl, _⟩ := isCo_two o.2.2.2
  have e2 : txt (.tup [.str z, .tup ss]) = (91 :: txts [.str z, .tup ss]) ++ [93] := rfl
  rw [hx, e2] at e
  exact hc (List.cons.inj (List.append_inj_right' e rfl)).1
/-- a key of the law: k and a digit from 1 to 9 -/
def k1 (z : Str) : Prop := ∃ n : Nat, 1 ≤ n ∧ n ≤ 9 ∧ z = ⟨#[107, 48 + n]⟩
theorem k1_ky {z : Str} (h : k1 z) : kyS z = true ∧ z.length = 2 ∧ prn z = true := by
  obtain ⟨n, a, b, rfl⟩ := h
  have : n = 1 ∨ n = 2 ∨ n = 3 ∨ n = 4 ∨ n = 5 ∨ n = 6 ∨ n = 7 ∨ n = 8 ∨ n = 9 := by omega
  rcases this with rfl | rfl | rfl | rfl | rfl | rfl | rfl | rfl | rfl <;> decide +kernel
def spKeys35 : Sp := fun vs H Q _ => ∃ s : Addr, vs = [.ref s] ∧ Strm H s ∧
  ∀ (p : Addr) (ks : List Str) (H' : Hp), H' p = some (.lst (ks.map V.str)) → asc ks = true → (∀ k ∈ ks, k1 k) → 1 ≤ ks.length → ks.length ≤ 5 → Kp [s] H H' → Strm H' s → Q (.ref p) H'
def spRole35 : Sp := fun vs H Q _ => ∃ s : Addr, vs = [.ref s] ∧ Strm H s ∧ ∀ (p b : Addr) (t : Int) (ks : List Str) (H' : Hp), H' p = some (.tup [.int t, .ref b]) → H' b = some (.tup (ks.map V.str)) → RoleOk t ks → (∀ k ∈ ks, k1 k) → ks.length ≤ 5 → Kp [s] H H' → Strm H' s → Q (.ref p) H'
def spTime35 : Sp := fun vs H Q _ => ∃ s : Addr, vs = [.ref s] ∧ Strm H s ∧ ∀ (i : Int) (H' : Hp), 0 ≤ i → i ≤ 1000000000000 → Kp [s] H H' → Strm H' s → Q (.int i) H'
/-- what is drawn: pairs of a key and a mark; of them so many are the seals of these keys -/
structure PrOk (made : List (Str × Str)) (ks : List Str) (x : Str) (prs : List (Str × Str)) (good : Int) : Prop where
  n : prs.length ≤ 10
  ky : ∀ p ∈ prs, k1 p.1
  mr : ∀ p ∈ prs, prn p.2 = true ∧ p.2.length ≤ 19
  a : asc (prs.map (·.1)) = true
  g : good = (suN made ks x (prs.map seT) : Nat)
theorem asc_sub {xs ys : List Str} (h : ys.Sublist xs) : asc xs = true → asc ys = true := by
  induction h with
  | slnil => exact id
  | cons a _ ih => exact fun k => ih (asc_cons.mp k).2
  | cons_cons a s ih => exact fun k => asc_cons.mpr ⟨fun y m => (asc_cons.mp k).1 y (s.mem m), ih (asc_cons.mp k).2⟩
structure LpOk (made : List (Str × Str)) (ks : List Str) (x : Str) (done : List Str) (prs : List (Str × Str)) (good : Int) : Prop where
  n : prs.length ≤ done.length
  su : (prs.map (·.1)).Sublist done
  mr : ∀ p ∈ prs, prn p.2 = true ∧ p.2.length ≤ 19
  mm : ∀ p ∈ made, p.1 ∈ done
  ml : made.length ≤ done.length
  g : good = (suN made ks x (prs.map seT) : Nat)
theorem addP_mem {made : List (Str × Str)} {p q : Str × Str} : p ∈ addP made q ↔ p ∈ made ∨ p = q := by
  unfold addP
  split
  · rename_i h
    exact ⟨.inl, fun c => c.elim id fun e => e ▸ h⟩
  · rw [List.mem_append, List.mem_singleton]
theorem LpOk.skip {made : List (Str × Str)} {ks : List Str} {x y : Str} {done : List Str} {prs : List (Str × Str)} {good : Int} (h : LpOk made ks x done prs good) : LpOk made ks x (done ++ [y]) prs good :=
  ⟨by rw [List.length_append]; have := h.n; omega, h.su.trans (List.sublist_append_left _ _), h.mr, fun p m => List.mem_append.mpr (.inl (h.mm p m)), by rw [List.length_append]; have := h.ml; omega, h.g⟩
theorem suC_eq (made : List (Str × Str)) (ks : List Str) (x : Str) (p : Str × Str) : suC made ks x (seT p) = (decide (p.1 ∈ ks) && (decide ((p.1, x) ∈ made) && decide (p.2 = mkS p.1 x))) := rfl
theorem LpOk.add {made made2 : List (Str × Str)} {ks : List Str} {x y mark : Str} {done : List Str} {prs : List (Str × Str)} {good g2 : Int} (h : LpOk made ks x done prs good) (ny : y ∉ done) (hm : prn mark = true ∧ mark.length ≤ 19)
    (ad : made2 = made ∨ ∃ t2, made2 = addP made (y, t2)) (hg : g2 = good + if suC made2 ks x (seT (y, mark)) = true then 1 else 0) : LpOk made2 ks x (done ++ [y]) (prs ++ [(y, mark)]) g2 := by
  have same : ∀ z, z ≠ y → (decide ((z, x) ∈ made2) = decide ((z, x) ∈ made)) := fun z hz => by
    rcases ad with rfl | ⟨t2, rfl⟩
    · rfl
    · rw [decide_eq_decide, addP_mem]
      exact ⟨fun c => c.elim id fun e => absurd (Prod.mk.inj e).1 hz, .inl⟩
  refine ⟨by rw [List.length_append, List.length_append]; have := h.n; simp; omega, by rw [List.map_append]; exact h.su.append (List.Sublist.refl _), fun p m => ?_, fun p m => ?_, ?_, ?_⟩
  · rcases List.mem_append.mp m with m | m
    · exact h.mr p m
    · cases List.mem_singleton.mp m; exact hm
  · rcases ad with rfl | ⟨t2, rfl⟩
    · exact List.mem_append.mpr (.inl (h.mm p m))
    · rcases addP_mem.mp m with m | rfl
      · exact List.mem_append.mpr (.inl (h.mm p m))
      · exact List.mem_append.mpr (.inr List.mem_cons_self)
  · rw [List.length_append]
    have := h.ml
    rcases ad with rfl | ⟨t2, rfl⟩
    · simp; omega
    · have := addP_len made (y, t2); simp; omega
  · have e : suN made2 ks x (prs.map seT) = suN made ks x (prs.map seT) := by
      unfold suN
      refine List.countP_congr fun t ht => ?_
      obtain ⟨p, hp, rfl⟩ := List.mem_map.mp ht
      have np : p.1 ≠ y := fun e => ny (e ▸ h.su.mem (List.mem_map_of_mem hp))
      rw [suC_eq, suC_eq, same _ np]
    rw [hg, h.g, List.map_append]
    unfold suN at e ⊢
    rw [List.countP_append, e, List.map_singleton, List.countP_singleton]
    split <;> rfl
theorem LpOk.fin {made : List (Str × Str)} {ks kk : List Str} {x : Str} {prs : List (Str × Str)} {good : Int} (h : LpOk made ks x kk prs good) (ha : asc kk = true) (hk : ∀ k ∈ kk, k1 k) (l : kk.length ≤ 10) : PrOk made ks x prs good :=
  ⟨by have := h.n; omega, fun p m => hk _ (h.su.mem (List.mem_map_of_mem m)), h.mr, asc_sub h.su ha, h.g⟩
def spPairs35 (C : Addr) (Ts : List Addr) : Sp := fun vs H Q _ => ∃ (st o dm r b : Addr) (x : Str) (t : Int) (ks : List Str), vs = [.ref st, .ref o, .str x, .ref r] ∧ Strm H st ∧ Ofc C o dm [] H ∧ Tabs Ts H ∧
  H r = some (.tup [.int t, .ref b]) ∧ H b = some (.tup (ks.map V.str)) ∧ (∀ k ∈ ks, k1 k) ∧ ks.length ≤ 5 ∧ prn x = true ∧ x.length ≤ 1200 ∧
  ∀ (L p : Addr) (ts : List Addr) (prs made : List (Str × Str)) (good : Int) (H' : Hp), H' L = some (.lst [.ref p, .int good]) → H' p = some (.tup (ts.map V.ref)) → PrsAt H' ts prs → PrOk made ks x prs good → Ofc C o dm made H' → Kp (st :: dm :: Ts) H H' → Strm H' st → Tabs Ts H' → Q (.ref L) H'
section
variable {P : Program} {w : World} {K : PySem.W.Frag} {mg : Str → Option Value} {base : Heap} {f : Addr} {fd : FuncData} {C CK CT : Addr} {Ts : List Addr}
theorem ok_lkeys35 (F : Fun K "_law_keys" "_law_keys" s_law_keys f fd) (B : Blt mg) (c_law_take : Cal P w K mg base CX0 1 "_law_take" spTake) (c_law_once : Cal P w K mg base CX0 1 "_law_once" (spOnce K)) : FnOk P w K mg base CX0 2 f fd ["stream"] spKeys35 := by
  refine F.ok sc_law_keys (fun vs H Q E h => ?_) (fun cdv A outer s H vs Q E hr h => ?_)
  · obtain ⟨st, rfl, _⟩ := h; rfl
  obtain ⟨st, rfl, hs, q⟩ := h
  refine ⟨_, (pss_cons (ps_setLc (i := 1) (own := [("k", 2)]) (g := gName 2) (tt := tYes) rfl sc_law_keys.nd rfl rfl (sw_true rfl rfl rfl (by decide +kernel)) (B.range1 (pa_cons (pe_op op_add pe_int (c_law_take.pe hr (pa_cons (pv 0) (pa_cons (pe_ix ix_lM (pe_lst (pa_cons pe_int (pa_cons pe_int pa_nil))) (c_law_take.pe hr (pa_cons (pv 0) (pa_cons pe_int pa_nil))) (fun _ _ => rfl)) pa_nil)))) pa_nil)) (blkOk_by (own := [("k", 2)]) (N := N_law_keys) (sc := defScope s_law_keys) (by decide +kernel)) (fun _ _ _ _ _ => pg_name (i := 2) sc_law_keys.nd rfl (Or.inl rfl)) (fun _ _ _ _ _ => pts_nil) (fun _ _ _ _ _ => (pe_op op_add_str pe_str (B.str_i (pa_cons (pe_op op_add pe_int (c_law_take.pe hr (pa_cons (pv 0) (pa_cons pe_int pa_nil)))) pa_nil)))))
    (pss_one (ps_ret (c_law_once.pe hr (pa_cons (pv 1) pa_nil))))), ?_⟩
  walk_at "wq"
  have lim : sizeLine = 16777216 := sizeLine_eq
  refine draw_lst (st := st) (fun n H' => 1 ≤ n ∧ n ≤ 5 ∧ Kp [st] H H' ∧ Strm H' st) k1 (fun R h => ?_) (fun n H' ⟨n0, n1, k, s⟩ => ⟨by omega, by omega, s⟩) (fun _ => rfl)
    (fun x H3 R s3 h => ?_) (fun n H3 D cs H4 ⟨n0, n1, k3, s3⟩ eD lc pc k4 s4 hD => ?_)
  · walk_at "wq"
    refine ⟨by omega, fun p1 h1 => ?_⟩
    have k1 := Kp.new (S := []) h1 (.lst [.int 2, .int 5])
    have s1 := hs.kp k1 List.not_mem_nil
    have n1 : p1 ≠ st := by
      obtain ⟨x, y, e⟩ := hs
      exact (ne_of_none e h1).symm
    refine ⟨st, 2, rfl, s1, ⟨by decide, by decide⟩, fun v H2 v0 v1 k2 s2 => ?_⟩
    have f2 := k2.keep p1 _ (by simpa using n1) upd_same
    have : v = 0 ∨ v = 1 := by omega
    rcases this with rfl | rfl
    · exact ⟨_, f2, _, rfl, _, rfl, st, 2, rfl, s2, ⟨by decide, by decide⟩, fun w H3 w0 w1 k3 s3 => ⟨w, rfl, h _ _ ⟨by omega, by omega, (k1.in0.trans k2).trans k3, s3⟩⟩⟩
    · exact ⟨_, f2, _, rfl, _, rfl, st, 5, rfl, s2, ⟨by decide, by decide⟩, fun w H3 w0 w1 k3 s3 => ⟨w, rfl, h _ _ ⟨by omega, by omega, (k1.in0.trans k2).trans k3, s3⟩⟩⟩
  · walk_at "wq"
    refine ⟨_, rfl, st, 9, rfl, s3, ⟨by decide, by decide⟩, fun w H4 w0 w1 k4 s4 => ?_⟩
    have ew : w = 0 ∨ w = 1 ∨ w = 2 ∨ w = 3 ∨ w = 4 ∨ w = 5 ∨ w = 6 ∨ w = 7 ∨ w = 8 := by omega
    have key : k1 (Str.ofString "k" ++ Str.ofString (toString (1 + w))) := by
      rcases ew with rfl | rfl | rfl | rfl | rfl | rfl | rfl | rfl | rfl
      · exact ⟨1, by decide, by decide, by decide +kernel⟩
      · exact ⟨2, by decide, by decide, by decide +kernel⟩
      · exact ⟨3, by decide, by decide, by decide +kernel⟩
      · exact ⟨4, by decide, by decide, by decide +kernel⟩
      · exact ⟨5, by decide, by decide, by decide +kernel⟩
      · exact ⟨6, by decide, by decide, by decide +kernel⟩
      · exact ⟨7, by decide, by decide, by decide +kernel⟩
      · exact ⟨8, by decide, by decide, by decide +kernel⟩
      · exact ⟨9, by decide, by decide, by decide +kernel⟩
    have sm : (1 + w).natAbs.log2 < 1920 := by rcases ew with rfl | rfl | rfl | rfl | rfl | rfl | rfl | rfl | rfl <;> decide +kernel
    have ll : (Str.ofString "k").length + (Str.ofString (toString (1 + w))).length ≤ sizeLine := by
      rw [lim]
      rcases ew with rfl | rfl | rfl | rfl | rfl | rfl | rfl | rfl | rfl <;> decide +kernel
    exact ⟨w, rfl, sm, ll, h _ H4 key k4 s4⟩
  · refine ⟨D, cs, rfl, SqL.of eD, by omega, fun z hz => strOk_ky (k1_ky (pc z hz)).1, fun ks p2 H5 ha mem lk hp2 e5 k5 => ?_⟩
    have kne : ks ≠ [] := by
      cases cs with
      | nil => simp at lc; omega
      | cons c r => intro e; have := (mem c).mpr List.mem_cons_self; rw [e] at this; cases this
    exact q p2 ks H5 e5 ha (fun k hk => pc k ((mem k).mp hk)) (List.length_pos_iff.mpr kne) (by omega) ((k3.trans k4).trans k5.in0) (s4.kp k5 List.not_mem_nil)
theorem ok_lrole35 (F : Fun K "_law_role" "_law_role" s_law_role f fd) (B : Blt mg) (c_law_take : Cal P w K mg base CX0 1 "_law_take" spTake) (c_law_keys : Cal P w K mg base CX0 2 "_law_keys" spKeys35) : FnOk P w K mg base CX0 3 f fd ["stream"] spRole35 := by
  refine F.ok sc_law_role (fun vs H Q E h => ?_) (fun cdv A outer s H vs Q E hr h => ?_)
  · obtain ⟨st, rfl, _⟩ := h; rfl
  obtain ⟨st, rfl, hs, q⟩ := h
  refine ⟨_, (pss_cons (ps_set (i := 1) sc_law_role.nd rfl (Or.inl rfl) (c_law_keys.pe hr (pa_cons (pv 0) pa_nil)))
    (pss_one (ps_ret (pe_tup (pa_cons (pe_op op_add pe_int (c_law_take.pe hr (pa_cons (pv 0) (pa_cons (B.len_q (pa_cons (pv 1) pa_nil)) pa_nil)))) (pa_cons (B.tuple_l (pa_cons (pv 1) pa_nil)) pa_nil)))))), ?_⟩
  walk_at "wq"
  have lim : sizeLine = 16777216 := sizeLine_eq
  refine ⟨st, rfl, hs, fun p ks H1 e1 ha hk l1 l2 k1 s1 => ⟨p, rfl, _, .inl (SqL.of e1), st, _, rfl, s1, ?_, fun t H2 t0 t1 k2 s2 => ⟨t, rfl, p, rfl, ks.map V.str, .inl ?_⟩⟩⟩
  · rw [List.length_map]; exact ⟨by omega, by omega⟩
  rw [List.length_map] at t1
  have np : p ≠ st := by
    obtain ⟨x, y, e⟩ := s1
    intro z
    rw [z, e] at e1
    injection e1 with e1; injection e1 with e1
    cases ks with
    | nil => cases e1
    | cons k r => cases (List.cons.inj e1).1
  have e2 := k2.keep p _ (by simpa using np) e1
  refine ⟨SqL.of e2, fun l hl => ⟨by omega, fun r hr => ?_⟩⟩
  have k7 := Kp.new (S := []) hl (.tup (ks.map V.str))
  have k8 := Kp.new (S := []) hr (.tup [V.int (1 + t), V.ref l])
  exact q r l (1 + t) ks _ upd_same (k8.tup _ _ upd_same) ⟨by omega, by omega, by omega, fun k m => (k1_ky (hk k m)).1, ha⟩ hk l2 (((k1.trans k2).trans k7.in0).trans k8.in0) ((s2.kp k7 List.not_mem_nil).kp k8 List.not_mem_nil)
theorem ok_ltime35 (F : Fun K "_law_time" "_law_time" s_law_time f fd) (B : Blt mg) (c_law_take : Cal P w K mg base CX0 1 "_law_take" spTake) : FnOk P w K mg base CX0 2 f fd ["stream"] spTime35 := by
  refine F.ok sc_law_time (fun vs H Q E h => ?_) (fun cdv A outer s H vs Q E hr h => ?_)
  · obtain ⟨st, rfl, _⟩ := h; rfl
  obtain ⟨st, rfl, hs, q⟩ := h
  refine ⟨_, (pss_one (ps_ret (pe_ix ix_lM (pe_lst (pa_cons pe_int (pa_cons pe_int (pa_cons (pe_op op_pow pe_int pe_int) (pa_cons (c_law_take.pe hr (pa_cons (pv 0) (pa_cons pe_int pa_nil))) pa_nil))))) (c_law_take.pe hr (pa_cons (pv 0) (pa_cons pe_int pa_nil))) (fun _ _ => rfl)))), ?_⟩
  walk_at "wq"
  have cp : CPow 10 12 := by refine ⟨?_, ?_, ?_⟩ <;> decide
  refine ⟨cp, st, 100, rfl, hs, ⟨by decide, by decide⟩, fun t H1 t0 t1 k1 s1 => ⟨by rw [sizeLine_eq]; omega, fun p hp => ?_⟩⟩
  have k2 := Kp.new (S := []) hp (.lst [V.int 0, V.int 10, V.int (10 ^ Int.toNat 12), V.int t])
  have n1 : p ≠ st := by
    obtain ⟨x, y, e⟩ := s1
    exact (ne_of_none e hp).symm
  refine ⟨st, 4, rfl, s1.kp k2 List.not_mem_nil, ⟨by decide, by decide⟩, fun v H2 v0 v1 k3 s3 => ⟨_, k3.keep p _ (by simpa using n1) upd_same, v, rfl, ?_⟩⟩
  have kk : Kp [st] H H2 := (k1.trans k2.in0).trans k3
  have : v = 0 ∨ v = 1 ∨ v = 2 ∨ v = 3 := by omega
  rcases this with rfl | rfl | rfl | rfl
  · exact ⟨_, rfl, q _ _ (by decide) (by decide) kk s3⟩
  · exact ⟨_, rfl, q _ _ (by decide) (by decide) kk s3⟩
  · exact ⟨_, rfl, q _ _ (by decide) (by decide) kk s3⟩
  · exact ⟨_, rfl, q _ _ (by omega) (by omega) kk s3⟩
theorem ok_lpairs35 (F : Fun K "_law_pairs" "_law_pairs" s_law_pairs f fd) (B : Blt mg) (c_law_take : Cal P w K mg base CX0 1 "_law_take" spTake) (c_law_keys : Cal P w K mg base CX0 2 "_law_keys" spKeys35) (c_law_once : Cal P w K mg base CX0 1 "_law_once" (spOnce K)) (c_law_digest : Cal P w K mg base CX0 1 "_law_digest" spLDig) (m_Seals_make : CalM P w K mg base (L2.CX P w) 5 C "make" (spMake C CK CT Ts)) :
    FnOk P w K mg base CX0 7 f fd ["stream", "office", "text", "role"] (spPairs35 C Ts) := by
  refine F.ok sc_law_pairs (fun vs H Q E h => ?_) (fun cdv A outer s H vs Q E hr h => ?_)
  · obtain ⟨st, o, dm, r, b, x, t, ks, rfl, _⟩ := h; rfl
  obtain ⟨st, o, dm, r, b, x, t, ks, rfl, hs, hO, hG, er, eb, hk, l5, hx, lx, q⟩ := h
  refine ⟨_, (pss_cons (ps_set (i := 4) sc_law_pairs.nd rfl (Or.inl rfl) (pe_lst pa_nil))
    (pss_cons (ps_set (i := 5) sc_law_pairs.nd rfl (Or.inl rfl) pe_int)
    (pss_cons (ps_set (i := 6) sc_law_pairs.nd rfl (Or.inl rfl) (c_law_once.pe hr (pa_cons (pe_op op_cat (B.list_q (pa_cons (pe_ix ix_tM (pv 3) pe_int (fun _ _ => rfl)) pa_nil)) (c_law_keys.pe hr (pa_cons (pv 0) pa_nil))) pa_nil)))
    (pss_cons (ps_set (i := 7) sc_law_pairs.nd rfl (Or.inl rfl) (c_law_take.pe hr (pa_cons (pv 0) (pa_cons pe_int pa_nil))))
    (pss_cons (ps_for PassesOwn.never rfl (pi_list (pv 6)) (pg_name (i := 8) sc_law_pairs.nd rfl (Or.inl rfl)) (pss_cons (ps_set (i := 9) sc_law_pairs.nd rfl (Or.inl rfl) (c_law_take.pe hr (pa_cons (pv 0) (pa_cons (pe_op op_sub pe_int (pe_op op_mul pe_int (pv 7))) pa_nil))))
    (pss_cons (ps_set (i := 10) sc_law_pairs.nd rfl (Or.inl rfl) (c_law_digest.pe hr (pa_cons (pe_op op_add_str (pe_op op_add_str (pv 8) pe_str) (pv 2)) pa_nil)))
    (pss_one (ps_if (pt_cmpR op_lt (pv 9) pe_int (nomark _)) (pss_cons (ps_expr (m_Seals_make.peL hr (pv 1) (pa_cons (pv 8) (pa_cons (pv 2) pa_nil))))
    (pss_cons (ps_expr (pe_bm PySem.F.plainAttrs_list PySem.F.slot_list_append PySem.F.type_list_append mt_append (pv 4) (pa_cons (pe_tup (pa_cons (pv 8) (pa_cons (pv 10) pa_nil))) pa_nil)))
    (pss_one (ps_set (i := 5) sc_law_pairs.nd rfl (Or.inl rfl) (pe_op op_add (pv 5) (B.int_b (pa_cons (pe_cmpR op_in_seq (pv 8) (pe_ix ix_tM (pv 3) pe_int (fun _ _ => rfl)) (by rfl)) pa_nil))))))) (pss_one (ps_if (pt_cmpR op_eq (pv 9) pe_int (nomark _)) (pss_cons (ps_expr (m_Seals_make.peL hr (pv 1) (pa_cons (pv 8) (pa_cons (pv 2) pa_nil))))
    (pss_one (ps_expr (pe_bm PySem.F.plainAttrs_list PySem.F.slot_list_append PySem.F.type_list_append mt_append (pv 4) (pa_cons (pe_tup (pa_cons (pv 8) (pa_cons (pe_ix ix_lM (pe_lst (pa_cons pe_str (pa_cons (pe_slice sl_str (pv 10) (po_some pe_int) po_none) (pa_cons (pe_op op_add_str (pv 10) pe_str) pa_nil)))) (c_law_take.pe hr (pa_cons (pv 0) (pa_cons pe_int pa_nil))) (fun _ _ => rfl)) pa_nil))) pa_nil))))) (pss_one (ps_if (pt_cmpR op_eq (pv 9) pe_int (nomark _)) (pss_one (ps_expr (pe_bm PySem.F.plainAttrs_list PySem.F.slot_list_append PySem.F.type_list_append mt_append (pv 4) (pa_cons (pe_tup (pa_cons (pv 8) (pa_cons (pv 10) pa_nil))) pa_nil)))) (pss_one (ps_if (pt_cmpR op_eq (pv 9) pe_int (nomark _)) (pss_one (ps_expr (pe_bm PySem.F.plainAttrs_list PySem.F.slot_list_append PySem.F.type_list_append mt_append (pv 4) (pa_cons (pe_tup (pa_cons (pv 8) (pa_cons (m_Seals_make.peL hr (pv 1) (pa_cons (pv 8) (pa_cons (pe_op op_add_str (pv 2) pe_str) pa_nil))) pa_nil))) pa_nil)))) pss_nil)))))))))))
    (pss_one (ps_ret (pe_lst (pa_cons (B.tuple_l (pa_cons (pv 4) pa_nil)) (pa_cons (pv 5) pa_nil)))))))))), ?_⟩
  walk_at "wq"
  have lim : sizeLine = 16777216 := sizeLine_eq
  refine ⟨by omega, fun pl hpl => ?_⟩
  have k1' := Kp.new (S := []) hpl (.lst [])
  refine ⟨_, k1'.tup _ _ er, _, rfl, b, rfl, _, .inr (SqT.of (k1'.tup _ _ eb)), fun l hl => ?_⟩
  have k2 := Kp.new (S := []) hl (.lst (ks.map V.str))
  refine ⟨st, rfl, (hs.kp k1' List.not_mem_nil).kp k2 List.not_mem_nil, fun p2 ls H1 e2 ha hl1 l1 l2 k3 s3 => ?_⟩
  have nl : l ≠ st := by
    obtain ⟨y, z, e⟩ := hs.kp k1' List.not_mem_nil
    exact (ne_of_none e hl).symm
  have el := k3.keep l _ (by simpa using nl) upd_same
  have lk : (ks.map V.str).length + (ls.map V.str).length ≤ 10 := by rw [List.length_map, List.length_map]; omega
  refine ⟨l, p2, _, _, rfl, rfl, el, e2, by omega, fun l3 hl3 => ⟨l3, ks ++ ls, rfl, SqL.of (by rw [upd_same, List.map_append]), by rw [List.length_append]; rw [List.length_map, List.length_map] at lk; omega, fun z hz => ?_, fun kk ak H3 ha3 mem lkk hak e3 k4 => ?_⟩⟩
  · rcases List.mem_append.mp hz with m | m
    · exact strOk_ky (k1_ky (hk z m)).1
    · exact strOk_ky (k1_ky (hl1 z m)).1
  have kk1 : ∀ k ∈ kk, k1 k := fun k m => by
    rcases List.mem_append.mp ((mem k).mp m) with m | m
    · exact hk k m
    · exact hl1 k m
  have lkk : kk.length ≤ 10 := by
    rw [List.length_append] at lkk; rw [List.length_map, List.length_map] at lk; omega
  have k5 := (Kp.new (S := []) hl3 (.lst (ks.map V.str ++ ls.map V.str))).trans k4
  have s5 := (s3.kp k5 List.not_mem_nil)
  refine ⟨st, 3, rfl, s5, ⟨by decide, by decide⟩, fun many H4 y0 y1 k6 s6 => ?_⟩
  have K4 : Kp [st] H H4 := (((k1'.trans k2).in0.trans k3).trans k5.in0).trans k6
  have npl : pl ≠ st := by
    obtain ⟨y, z, e⟩ := hs
    exact (ne_of_none e hpl).symm
  have epl : H4 pl = some (.lst []) := ((((k2.in0 : Kp [st] _ _).trans k3).trans k5.in0).trans k6).keep pl _ (by simpa using npl) upd_same
  have nak : ak ≠ st := by
    obtain ⟨y, z, e⟩ := s3.kp (Kp.new (S := []) hl3 (.lst (ks.map V.str ++ ls.map V.str))) List.not_mem_nil
    exact (ne_of_none e hak).symm
  have eak := k6.keep ak _ (by simpa using nak) e3
  have sT : st ∉ Ts := fun m => hs.nT (hG st m) rfl
  obtain ⟨dxo, hob⟩ := hO.ob
  have nost : o ≠ st := by obtain ⟨y, z, e⟩ := hs; exact ne_of hob e (by intro z; cases z)
  have ndst : dm ≠ st := by obtain ⟨y, z, e⟩ := hs; exact ne_of hO.dc e (by intro z; cases z)
  have O4 : Ofc C o dm [] H4 := hO.kp K4 (by simpa using nost) (by simpa using ndst)
  have G4 : Tabs Ts H4 := hG.kp K4 fun P mP mo => sT (List.mem_singleton.mp mo ▸ mP)
  have npd : pl ≠ dm := (ne_of_none hO.dc hpl).symm
  have npo : pl ≠ o := (ne_of_none hob hpl).symm
  have npT : pl ∉ Ts := G4.ne epl
  have nap : ak ≠ pl := by
    have := (((k2.in0 : Kp [st] _ _).trans k3).trans (Kp.new (S := []) hl3 (.lst (ks.map V.str ++ ls.map V.str))).in0).keep pl _ (by simpa using npl) upd_same
    exact (ne_of_none this hak).symm
  have nad : ak ≠ dm := ne_of eak O4.dc (by intro z; cases z)
  have naT : ak ∉ Ts := G4.ne eak
  have m1 : pl ∈ pl :: st :: dm :: Ts := List.mem_cons_self
  have m2 : ∀ b ∈ [st], b ∈ pl :: st :: dm :: Ts := fun b mb => by rw [List.mem_singleton.mp mb]; exact List.mem_cons_of_mem _ List.mem_cons_self
  have m3 : ∀ b ∈ dm :: Ts, b ∈ pl :: st :: dm :: Ts := fun b mb => List.mem_cons_of_mem _ (List.mem_cons_of_mem _ mb)
  refine ⟨_, rfl, ak, rfl, ⟨_, SqL.of eak⟩, ?_⟩
  refine for_list (K := K) (a := ak) (xs := kk.map V.str) (fun i σ H' => ∃ (prs made : List (Str × Str)) (ts : List Addr) (good : Int), (∃ o8 o9 o10 : Option V, σ = [some (.ref st), some (.ref o), some (.str x), some (.ref r), some (.ref pl), some (.int good), some (.ref ak), some (.int many), o8, o9, o10]) ∧ H' pl = some (.lst (ts.map V.ref)) ∧ PrsAt H' ts prs ∧ LpOk made ks x (kk.take i) prs good ∧ Ofc C o dm made H' ∧ Kp (pl :: st :: dm :: Ts) H4 H' ∧ Strm H' st ∧ Tabs Ts H')
    ⟨[], [], [], 0, ⟨none, none, none, rfl⟩, epl, ⟨rfl, fun i t p e => by cases e⟩, ⟨Nat.zero_le _, List.nil_sublist _, fun p m => absurd m List.not_mem_nil, fun p m => absurd m List.not_mem_nil, Nat.zero_le _, rfl⟩, O4, Kp.refl _ _, s6, G4⟩ (fun i σ H' _ ⟨_, _, _, _, _, _, _, _, _, k, _, _⟩ => SqL.of (k.keep ak _ (by simp [nap, nak, nad, naT]) eak)) (fun i y σ H' hy ⟨prs, made, ts, good, ⟨o8, o9, o10, hσ⟩, ep, PA, LP, O', kH, s', G'⟩ => ?_) (fun σ H' ⟨prs, made, ts, good, ⟨o8, o9, o10, hσ⟩, ep, PA, LP, O', kH, s', G'⟩ => ?_)
  · subst hσ
    rw [List.getElem?_map] at hy
    obtain ⟨ky, hky, rfl⟩ := Option.map_eq_some_iff.mp hy
    have li := (List.getElem?_eq_some_iff.mp hky).1
    have tk : kk.take (i + 1) = kk.take i ++ [ky] := by rw [List.take_add_one, hky]; rfl
    have ky1 := kk1 ky (List.mem_of_getElem? hky)
    have nky : ky ∉ kk.take i := fun m => by
      have nd := asc_nodup ha3
      rw [← List.take_append_drop (i + 1) kk, tk] at nd
      have := (List.nodup_append.mp (List.nodup_append.mp nd).1).2.2
      exact this ky m ky List.mem_cons_self rfl
    rw [tk]
    have lky := (k1_ky ky1).2.1
    have ltk : (kk.take i).length ≤ 10 := by rw [List.length_take]; omega
    have lm := LP.ml
    walk_at "wq"
    have e1 : (Str.ofString " ").length = 1 := by decide +kernel
    have a1 : (ky ++ Str.ofString " ").length = 3 := by rw [Str.length_append, lky, e1]
    refine ⟨.inl ⟨by decide, by decide⟩, st, _, rfl, s', ⟨by omega, by omega⟩, fun m H5 m0 m1' k5 s5 => ⟨by omega, by omega, _, rfl, by rw [Str.length_append]; omega, m, rfl, ?_⟩⟩
    have ep5 := k5.keep pl _ (by simpa using npl) ep
    have PA5 := PA.kp k5
    have O5 : Ofc C o dm made H5 := O'.kp k5 (by simpa using nost) (by simpa using ndst)
    have G5 : Tabs Ts H5 := G'.kp k5 fun P mP mo => sT (List.mem_singleton.mp mo ▸ mP)
    have lts : ts.length ≤ 10 := by have := PA.1; have := LP.n; omega
    have fin : ∀ (H6 : Hp) (mark : Str) (made2 : List (Str × Str)) (g2 : Int) (tp : Addr), Ofc C o dm made2 H6 → Kp (st :: dm :: Ts) H5 H6 → Strm H6 st → Tabs Ts H6 → H6 tp = none →
        PrsAt (upd (upd H6 tp (.tup [.str ky, .str mark])) pl (.lst (ts.map V.ref ++ [.ref tp]))) (ts ++ [tp]) (prs ++ [(ky, mark)]) ∧ Ofc C o dm made2 (upd (upd H6 tp (.tup [.str ky, .str mark])) pl (.lst (ts.map V.ref ++ [.ref tp]))) ∧
        Kp (pl :: st :: dm :: Ts) H4 (upd (upd H6 tp (.tup [.str ky, .str mark])) pl (.lst (ts.map V.ref ++ [.ref tp]))) ∧ Strm (upd (upd H6 tp (.tup [.str ky, .str mark])) pl (.lst (ts.map V.ref ++ [.ref tp]))) st ∧ Tabs Ts (upd (upd H6 tp (.tup [.str ky, .str mark])) pl (.lst (ts.map V.ref ++ [.ref tp]))) ∧
        upd H6 tp (.tup [.str ky, .str mark]) pl = some (.lst (ts.map V.ref)) ∧ ts.map V.ref ++ [.ref tp] = (ts ++ [tp]).map V.ref := fun H6 mark made2 g2 tp O6 k6 s6 G6 htp => by
      have ep6 := k6.keep pl _ (by simp [npl, npd, npT]) ep5
      have ntp : pl ≠ tp := ne_of_none ep6 htp
      have k7 := Kp.new (S := []) htp (.tup [.str ky, .str mark])
      have ep7 : upd H6 tp (.tup [.str ky, .str mark]) pl = some (.lst (ts.map V.ref)) := by rw [upd_ne ntp]; exact ep6
      have k8 : Kp [pl] (upd H6 tp (.tup [.str ky, .str mark])) (upd (upd H6 tp (.tup [.str ky, .str mark])) pl (.lst (ts.map V.ref ++ [.ref tp]))) := Kp.lst ep7 (List.mem_singleton.mpr rfl)
      have k9 : Kp [pl] H6 _ := k7.in0.trans k8
      refine ⟨PrsAt.snoc ((PA5.kp k6).kp k9) (by rw [upd_ne ntp.symm]; exact upd_same), O6.kp k9 (by simpa using npo.symm) (by simpa using npd.symm), (kH.trans (k5.mono m2)).trans ((k6.mono fun b mb => List.mem_cons_of_mem _ mb).trans (k9.mono fun b mb => by rw [List.mem_singleton.mp mb]; exact m1)), s6.kp k9 (by simpa using npl.symm), G6.kp k9 fun P mP mo => npT (List.mem_singleton.mp mo ▸ mP), ep7, by rw [List.map_append]; rfl⟩
    have mkof : ∀ {R : VK} (t2 : Str), prn t2 = true → t2.length ≤ 1300 → (∀ H6, Kp (dm :: Ts) H5 H6 → Tabs Ts H6 → Ofc C o dm (addP made (ky, t2)) H6 → R (.str (mkS ky t2)) H6) → spMake C CK CT Ts [V.ref o, V.str ky, V.str t2] H5 R E0 := fun {R} t2 p2 l2 h =>
      ⟨o, dm, made, _, _, rfl, O5, by omega, G5, ⟨_, rfl⟩, ⟨_, rfl⟩, (by show ky.length ≤ sizeLine; rw [lim]; omega), (fun z e => by cases e; omega), (fun c => by rw [show kyV (.str ky) = kyS ky from rfl, (k1_ky ky1).1] at c; cases c), (fun _ c => by rw [show prV (.str t2) = prn t2 from rfl, p2] at c; cases c), fun a b e1 e2 _ _ H6 k6 g6 O6 => by cases e1; cases e2; exact h H6 k6 g6 O6⟩
    obtain ⟨dx5, hob5⟩ := O5.ob
    have mlen : (mkS ky x).length = 18 := mkS_len _ _
    have mprn : prn (mkS ky x) = true := mkS_prn _ _
    split
    · refine ⟨dx5, _, hob5, rfl, mkof x hx (by omega) fun H6 k6 G6 O6 => ?_⟩
      have s6 : Strm H6 st := s5.kp k6 (by simp [ndst.symm, sT])
      have k6' : Kp (st :: dm :: Ts) H5 H6 := k6.mono fun b mb => List.mem_cons_of_mem _ mb
      have ep6 := k6'.keep pl _ (by simp [npl, npd, npT]) ep5
      refine ⟨.inl ⟨rfl, _, SqL.of ep6⟩, by omega, fun tp htp => ?_⟩
      obtain ⟨f1, f2, f3, f4, f5, f6, f7⟩ := fin H6 (mkS ky x) _ 0 tp O6 k6' s6 G6 htp
      have KA := (K4.mono m2).trans f3
      refine ⟨_, f6, by rw [List.length_map]; omega, _, KA.tup _ _ er, _, rfl, ?_⟩
      refine ⟨b, _, rfl, .inr (SqT.of (KA.tup _ _ eb)), rfl, flat_strs ks, _, rfl, ⟨_, rfl⟩, prs ++ [(ky, mkS ky x)], _, ts ++ [tp], by rw [upd_same, f7], f1, LP.add nky ⟨mprn, by omega⟩ (.inr ⟨x, rfl⟩) ?_, f2, f3, f4, f5⟩
      rw [if_neg Bool.false_ne_true, inV_strs, suC_eq]
      have e2 : decide ((ky, x) ∈ addP made (ky, x)) = true := decide_eq_true (addP_mem.mpr (.inr rfl))
      show _ = good + if (decide (ky ∈ ks) && (decide ((ky, x) ∈ addP made (ky, x)) && decide (mkS ky x = mkS ky x))) = true then 1 else 0
      rw [e2, decide_eq_true rfl, Bool.and_true, Bool.and_true]
    · have nmx : (ky, x) ∉ made := fun m => nky (LP.mm _ m)
      have lof : ∀ {n : Nat}, n ≤ 16 → (ts.map V.ref).length < sizeLine := fun _ => by rw [List.length_map]; omega
      have s1 : (Str.ofString "0").length = 1 := by decide +kernel
      refine ⟨rfl, ?_⟩
      split
      · refine ⟨dx5, _, hob5, rfl, mkof x hx (by omega) fun H6 k6 G6 O6 => ?_⟩
        have s6 : Strm H6 st := s5.kp k6 (by simp [ndst.symm, sT])
        have k6' : Kp (st :: dm :: Ts) H5 H6 := k6.mono fun b mb => List.mem_cons_of_mem _ mb
        have ep6 := k6'.keep pl _ (by simp [npl, npd, npT]) ep5
        have lm2 : (dgs (ky ++ Str.ofString " " ++ x)).length = 18 := dgs_len _
        have pm2 : prn (dgs (ky ++ Str.ofString " " ++ x)) = true := mkS_prn ky x
        refine ⟨.inl ⟨rfl, _, SqL.of ep6⟩, _, rfl, by omega, _, rfl, by omega, by omega, fun l9 hl9 => ?_⟩
        have kl := Kp.new (S := []) hl9 (.lst [V.str (Str.ofString "none"), V.str (cutS (dgs (ky ++ Str.ofString " " ++ x)) (some 1) none), V.str (dgs (ky ++ Str.ofString " " ++ x) ++ Str.ofString "0")])
        have nl9 : l9 ≠ st := by obtain ⟨y, z, e⟩ := s6; exact (ne_of_none e hl9).symm
        refine ⟨st, 3, rfl, s6.kp kl List.not_mem_nil, ⟨by decide, by decide⟩, fun j H7 j0 j1 k7 s7 => ⟨_, k7.keep l9 _ (by simpa using nl9) upd_same, j, rfl, ?_⟩⟩
        obtain ⟨wd, hw, w1, w2, w3⟩ : ∃ wd, atI [V.str (Str.ofString "none"), V.str (cutS (dgs (ky ++ Str.ofString " " ++ x)) (some 1) none), V.str (dgs (ky ++ Str.ofString " " ++ x) ++ Str.ofString "0")] j = some (.str wd) ∧ prn wd = true ∧ wd.length ≤ 19 ∧ wd.length ≠ 18 := by
          have : j = 0 ∨ j = 1 ∨ j = 2 := by omega
          rcases this with rfl | rfl | rfl
          · exact ⟨_, rfl, by decide +kernel, by decide +kernel, by decide +kernel⟩
          · have l17 : (cutS (dgs (ky ++ Str.ofString " " ++ x)) (some 1) none).length = 17 := by
              rw [TL.len_tl, show (some (1 : Int)) = some ((1 : Nat) : Int) from rfl, cut_from, List.length_drop, ← TL.len_tl]; omega
            exact ⟨_, rfl, prn_cut pm2 _ _, by omega, by omega⟩
          · have l19 : (dgs (ky ++ Str.ofString " " ++ x) ++ Str.ofString "0").length = 19 := by rw [Str.length_append, lm2, s1]
            exact ⟨_, rfl, by rw [prn_app, pm2]; decide +kernel, by omega, by omega⟩
        refine ⟨_, hw, by omega, fun tp htp => ?_⟩
        have k67 : Kp [st] H6 H7 := kl.in0.trans k7
        obtain ⟨f1, f2, f3, f4, f5, f6, f7⟩ := fin H7 wd _ 0 tp (O6.kp k67 (by simpa using nost) (by simpa using ndst)) (k6'.trans (k67.mono fun b mb => by rw [List.mem_singleton.mp mb]; exact List.mem_cons_self)) s7 (G6.kp k67 fun P mP mo => sT (List.mem_singleton.mp mo ▸ mP)) htp
        refine ⟨_, f6, lof (n := 0) (by decide), ⟨_, rfl⟩, prs ++ [(ky, wd)], _, ts ++ [tp], f7, f1, LP.add nky ⟨w1, w2⟩ (.inr ⟨x, rfl⟩) ?_, f2, f3, f4, f5⟩
        have ne : wd ≠ mkS ky x := fun e => w3 (by rw [e]; exact mlen)
        rw [suC_eq]
        show good = good + if (decide (ky ∈ ks) && (decide ((ky, x) ∈ addP made (ky, x)) && decide (wd = mkS ky x))) = true then 1 else 0
        rw [decide_eq_false ne, Bool.and_false, Bool.and_false, if_neg (by decide)]
        omega
      refine ⟨rfl, ?_⟩
      split
      · refine ⟨.inl ⟨rfl, _, SqL.of ep5⟩, by omega, fun tp htp => ?_⟩
        obtain ⟨f1, f2, f3, f4, f5, f6, f7⟩ := fin H5 (mkS ky x) _ 0 tp O5 (Kp.refl _ _) s5 G5 htp
        refine ⟨_, f6, lof (n := 0) (by decide), ⟨_, rfl⟩, prs ++ [(ky, mkS ky x)], _, ts ++ [tp], f7, f1, LP.add nky ⟨mprn, by omega⟩ (.inl rfl) ?_, f2, f3, f4, f5⟩
        rw [suC_eq]
        show good = good + if (decide (ky ∈ ks) && (decide ((ky, x) ∈ made) && decide (mkS ky x = mkS ky x))) = true then 1 else 0
        rw [decide_eq_false nmx, Bool.false_and, Bool.and_false, if_neg (by decide)]
        omega
      refine ⟨rfl, ?_⟩
      split
      · have l2 : (x ++ Str.ofString " ").length = x.length + 1 := by rw [Str.length_append, e1]
        refine ⟨.inl ⟨rfl, _, SqL.of ep5⟩, dx5, _, hob5, rfl, by omega, mkof (x ++ Str.ofString " ") (by rw [prn_app, hx]; decide +kernel) (by omega) fun H6 k6 G6 O6 => ⟨by omega, fun tp htp => ?_⟩⟩
        have s6 : Strm H6 st := s5.kp k6 (by simp [ndst.symm, sT])
        have k6' : Kp (st :: dm :: Ts) H5 H6 := k6.mono fun b mb => List.mem_cons_of_mem _ mb
        obtain ⟨f1, f2, f3, f4, f5, f6, f7⟩ := fin H6 (mkS ky (x ++ Str.ofString " ")) _ 0 tp O6 k6' s6 G6 htp
        refine ⟨_, f6, lof (n := 0) (by decide), ⟨_, rfl⟩, prs ++ [(ky, mkS ky (x ++ Str.ofString " "))], _, ts ++ [tp], f7, f1, LP.add nky ⟨mkS_prn _ _, by rw [mkS_len]; decide⟩ (.inr ⟨_, rfl⟩) ?_, f2, f3, f4, f5⟩
        have nm2 : (ky, x) ∉ addP made (ky, x ++ Str.ofString " ") := fun m => by
          rcases addP_mem.mp m with m | m
          · exact nmx m
          · have := congrArg (fun z : Str × Str => z.2.length) m
            simp only [l2] at this; omega
        rw [suC_eq]
        show good = good + if (decide (ky ∈ ks) && (decide ((ky, x) ∈ addP made (ky, x ++ Str.ofString " ")) && decide (mkS ky (x ++ Str.ofString " ") = mkS ky x))) = true then 1 else 0
        rw [decide_eq_false nm2, Bool.false_and, Bool.and_false, if_neg (by decide)]
        omega
      exact ⟨⟨_, rfl⟩, prs, made, ts, ep5, PA5, LP.skip, O5, kH.trans (k5.mono m2), s5, G5⟩
  · subst hσ
    walk_at "wq"
    rw [List.length_map, List.take_length] at LP
    have nps := PA.1
    have lpr := LP.n
    refine ⟨_, .inl ⟨SqL.of ep, fun l9 hl9 => ⟨by omega, fun L hL => ?_⟩⟩⟩
    have k8 := (Kp.new (S := []) hl9 (.tup (ts.map V.ref))).trans (Kp.new hL (.lst [V.ref l9, V.int good]))
    have n9 : l9 ≠ L := fun e => by rw [← e, upd_same] at hL; cases hL
    have kk9 : Kp (pl :: st :: dm :: Ts) (upd H pl (.lst [])) _ := ((((k2.in0 : Kp [st] _ _).trans k3).trans k5.in0).trans k6).mono m2 |>.trans (kH.trans k8.in0)
    refine q L l9 ts prs made good _ upd_same (by rw [upd_ne n9]; exact upd_same) (PA.kp k8) (LP.fin ha3 kk1 lkk) (O'.kp k8 List.not_mem_nil List.not_mem_nil) (Kp.drop hpl ((Kp.new hpl _).trans kk9)) (s'.kp k8 List.not_mem_nil) (G'.kp0 k8)
end

/-! the first charter and its sealed text that a law draws: k35, k54 -/
abbrev s_law_first : Stmt := top 93
abbrev N_law_first : List Str := ["stream", "office", "roles", "charter", "text", "made", "sealed", "due", "mode", "bad", "stamp", "k"]
theorem sc_law_first : FnScope N_law_first ["stream", "office"] (defScope s_law_first) := ⟨rfl, rfl, rfl, by decide +kernel, rfl, by decide +kernel, by decide +kernel⟩
theorem sea_okB {t0 : Str} {prs : List (Str × Str)} (h1 : prn t0 = true) (h2 : t0.length ≤ 1200) (h3 : prs.length ≤ 20) (hk : ∀ p ∈ prs, prn p.1 = true ∧ p.1.length ≤ 12) (hm : ∀ p ∈ prs, prn p.2 = true ∧ p.2.length ≤ 40) : okT 8 (seaT t0 prs) 5000 := by
  have a1 : ∀ t ∈ prs.map seT, okT 6 t 124 := fun t ht => by
    obtain ⟨p, hp, rfl⟩ := List.mem_map.mp ht
    have q1 : okT 5 (.str p.1) 61 := okT_str (m := 40) (hk p hp).1 (by have := (hk p hp).2; omega) (by omega)
    have q2 : okT 5 (.str p.2) 61 := okT_str (m := 40) (hm p hp).1 (hm p hp).2 (by omega)
    exact okT_tup (d := 5) (n := 61) (m := 2) (ts := [.str p.1, .str p.2]) (fun t ht => by
      rcases List.mem_cons.mp ht with rfl | ht
      · exact q1
      · rw [List.mem_singleton.mp ht]; exact q2) (by simp) (by omega)
  have a2 : okT 7 (.tup (prs.map seT)) 2482 := okT_tup (m := 20) a1 (by rw [List.length_map]; exact h3) (by omega)
  have a3 : okT 7 (.str t0) 2482 := by
    refine ⟨h1, decide_eq_true (show t0.length ≤ 10000000 by omega), ?_⟩
    have := dig_len (n := t0.length) (by omega)
    show (dig t0.length ++ 58 :: TL.tl t0).length ≤ _
    rw [List.length_append, List.length_cons, ← TL.len_tl]
    omega
  exact (okT_tup (d := 7) (n := 2482) (m := 2) (ts := [.str t0, .tup (prs.map seT)]) (fun t ht => by
    rcases List.mem_cons.mp ht with rfl | ht
    · exact a3
    · rw [List.mem_singleton.mp ht]; exact a2) (by simp) (by omega)).le (by omega)
abbrev txS (t : Tr) : Str := ⟨(txt t).toArray⟩
/-- the document in the sealed text that the law writes -/
theorem in_sealed {k : Str} {d e : PyData} {prs : List (Str × Str)} (h : Sz 8 1200 d) (h3 : prs.length ≤ 20) (hk : ∀ p ∈ prs, kyS p.1 = true ∧ p.1.length ≤ 12) (hm : ∀ p ∈ prs, prn p.2 = true ∧ p.2.length ≤ 40) (ha : asc (prs.map (·.1)) = true) :
    okT 8 (seaT (txS (trD d)) prs) 5000 ∧ opn (txS (seaT (txS (trD d)) prs)) (seaT (txS (trD d)) prs) ∧ (DocIn k (txS (seaT (txS (trD d)) prs)) e ↔ e = d ∧ isK k d = true) := by
  have sm : sml (trD d) = true := sml_of 8 _ h.1 (by have := h.2; omega)
  have px : prn (txS (trD d)) = true := txt_prn h.1
  have lx : (txS (trD d)).length ≤ 1200 := by rw [TL.len_tl]; exact h.2
  have pv : pval 8 (TL.tl (txS (trD d))) = some (trD d, []) := by
    have := pval_txt 8 (trD d) [] h.1 sm
    rw [List.append_nil] at this
    exact this
  have ok := sea_okB (t0 := txS (trD d)) (prs := prs) px lx h3 (fun p m => ⟨ky_prn (hk p m).1, (hk p m).2⟩) hm
  have co : isCo (seaT (txS (trD d)) prs) = true := sea_co h3 (fun p m => (hk p m).1) hm ha
  have op := opn_own ok (by omega) co
  refine ⟨ok, op, fun ⟨z, ss, t, o1, l1, p1, v1, et, ik⟩ => ?_, fun ⟨e1, ik⟩ => ?_⟩
  · have := opn_uni op o1
    injection this with this
    injection this with ez this
    injection ez with ez
    rw [ez, pv] at v1
    injection v1 with v1
    injection v1 with v1
    rw [← v1, dT_tr 8 d h.1] at et
    exact ⟨et, et ▸ ik⟩
  · exact ⟨_, _, _, op, by omega, px, pv, by rw [dT_tr 8 d h.1]; exact e1, e1 ▸ ik⟩
/-- what is drawn: a charter, its sealed text or another value, what is due -/
inductive FrOk (made : List (Str × Str)) (d : PyData) : V → Str → Prop
  | fine {S : Str} : DocIn kC S d → Sgn made S (rlD d 0) → S.length ≤ 100000 → FrOk made d (.str S) (Str.ofString "")
  | seals {S : Str} : DocIn kC S d → ¬ Sgn made S (rlD d 0) → S.length ≤ 100000 → FrOk made d (.str S) (Str.ofString "seals")
  | form {v : V} : (∀ H, ∃ t, tyN H v = some t) → (∀ z, v = .str z → z.length ≤ 10000000) → (∀ x e, v = .str x → ¬ DocIn kC x e) → FrOk made d v (Str.ofString "form")
/-- a charter with version 0 -/
def badC (e : Int) (ds : List PyData) : PyData := .tuple [.str kC, .int 0, .int e, .tuple ds]
def zr18 : Str := ⟨(List.replicate 18 48).toArray⟩
/-- a stamp -/
def stmC (e : Int) : PyData := .tuple [.str kT, .int 1, .int e, .tuple [.int 1, .int 0, .str zr18]]
theorem sz_bad {e : Int} {ds : List PyData} (h0 : 0 ≤ e) (h1 : e ≤ 1000000000000) (l : ds.length = 4) (h : ∀ d ∈ ds, isRole d = true) : Sz 8 1200 (badC e ds) := by
  have roles : Sz 3 (4 * 258 + 2) (.tuple ds) := sz_tup (szs_all (fun d m => sz_role (h d m)) (by omega))
  exact sz_mono (sz_tup (szs_cons (sz_eqS (k := kC) (d := .str kC) (show decide (kC = kC) = true from decide_eq_true rfl) (by decide +kernel) (by decide +kernel)) (szs_cons (sz_int (i := 0) (by decide) (by decide)) (szs_cons (sz_int h0 h1) (szs_cons roles szs_nil))))) (by decide) (by decide)
theorem sz_stm {e : Int} (h0 : 0 ≤ e) (h1 : e ≤ 1000000000000) : Sz 8 1200 (stmC e) := by
  have en : Sz 1 (14 + (14 + (21 + 0)) + 2) (.tuple [.int 1, .int 0, .str zr18]) := sz_tup (szs_cons (sz_int (by decide) (by decide)) (szs_cons (sz_int (by decide) (by decide)) (szs_cons (sz_str (m := 18) (by decide +kernel) (by decide +kernel) (by decide)) szs_nil)))
  exact sz_mono (sz_tup (szs_cons (sz_eqS (k := kT) (d := .str kT) (show decide (kT = kT) = true from decide_eq_true rfl) (by decide +kernel) (by decide +kernel)) (szs_cons (sz_int (i := 1) (by decide) (by decide)) (szs_cons (sz_int h0 h1) (szs_cons en szs_nil))))) (by decide) (by decide)
theorem not_bad (e : Int) (ds : List PyData) : isK kC (badC e ds) = false := by
  unfold isK
  rw [if_pos rfl]
  unfold isCharter
  rw [show numB 1 1000000000000 (ixD (badC e ds) 1) = false from rfl, Bool.false_and, Bool.and_false]
theorem not_stm (e : Int) : isK kC (stmC e) = false := by
  unfold isK
  rw [if_pos rfl]
  unfold isCharter headB
  rw [show eqS kC (ixD (stmC e) 0) = false from decide_eq_false kd_ne.1.symm, Bool.and_false, Bool.false_and]
def spFirst35 (C : Addr) (Ts : List Addr) : Sp := fun vs H Q _ => ∃ (st o dm : Addr), vs = [.ref st, .ref o] ∧ Strm H st ∧ Ofc C o dm [] H ∧ Tabs Ts H ∧
  ∀ (L : Addr) (cv sv : V) (due : Str) (d : PyData) (made : List (Str × Str)) (H' : Hp), H' L = some (.lst [cv, sv, .str due]) → Rq H' cv d → isCharter d = true → FrOk made d sv due → Ofc C o dm made H' → Kp (st :: dm :: Ts) H H' → Strm H' st → Tabs Ts H' → Q (.ref L) H'
section
variable {P : Program} {w : World} {K : PySem.W.Frag} {mg : Str → Option Value} {base : Heap} {f : Addr} {fd : FuncData} {C CK CT : Addr} {Ts : List Addr}
theorem ok_lfirst35 (F : Fun K "_law_first" "_law_first" s_law_first f fd) (B : Blt mg) (c_law_take : Cal P w K mg base CX0 1 "_law_take" spTake) (c_law_role : Cal P w K mg base CX0 3 "_law_role" spRole35) (c_law_time : Cal P w K mg base CX0 2 "_law_time" spTime35) (c_law_pairs : Cal P w K mg base CX0 7 "_law_pairs" (spPairs35 C Ts)) (c_law_text : Cal P w K mg base CX0 9 "_law_text" (spLText 8)) :
    FnOk P w K mg base CX0 10 f fd ["stream", "office"] (spFirst35 C Ts) := by
  refine F.ok sc_law_first (fun vs H Q E h => ?_) (fun cdv A outer s H vs Q E hr h => ?_)
  · obtain ⟨st, o, dm, rfl, _⟩ := h; rfl
  obtain ⟨st, o, dm, rfl, hs, hO, hG, q⟩ := h
  refine ⟨_, (pss_cons (ps_set (i := 2) sc_law_first.nd rfl (Or.inl rfl) (B.tuple_l (pa_cons (pe_lc (own := [("k", 11)]) (g := gName 11) (tt := tYes) rfl sc_law_first.nd (B.range1 (pa_cons pe_int pa_nil)) (blkOk_by (own := [("k", 11)]) (N := N_law_first) (sc := defScope s_law_first) (by decide +kernel)) (fun _ _ _ _ _ => pg_name (i := 11) sc_law_first.nd rfl (Or.inl rfl)) (fun _ _ _ _ _ => pts_nil) (fun _ _ _ _ _ => (c_law_role.pe hr (pa_cons (pv 0) pa_nil)))) pa_nil)))
    (pss_cons (ps_set (i := 3) sc_law_first.nd rfl (Or.inl rfl) (pe_tup (pa_cons pe_str (pa_cons (pe_op op_add pe_int (c_law_take.pe hr (pa_cons (pv 0) (pa_cons (pe_ix ix_lM (pe_lst (pa_cons pe_int (pa_cons (pe_op op_pow pe_int pe_int) pa_nil))) (c_law_take.pe hr (pa_cons (pv 0) (pa_cons pe_int pa_nil))) (fun _ _ => rfl)) pa_nil)))) (pa_cons (c_law_time.pe hr (pa_cons (pv 0) pa_nil)) (pa_cons (pv 2) pa_nil))))))
    (pss_cons (ps_set (i := 4) sc_law_first.nd rfl (Or.inl rfl) (c_law_text.pe hr (pa_cons (pv 3) pa_nil)))
    (pss_cons (ps_set (i := 5) sc_law_first.nd rfl (Or.inl rfl) (c_law_pairs.pe hr (pa_cons (pv 0) (pa_cons (pv 1) (pa_cons (pv 4) (pa_cons (pe_ix ix_tM (pv 2) pe_int (fun _ _ => rfl)) pa_nil))))))
    (pss_cons (ps_set (i := 6) sc_law_first.nd rfl (Or.inl rfl) (c_law_text.pe hr (pa_cons (pe_tup (pa_cons (pv 4) (pa_cons (pe_ix ix_lM (pv 5) pe_int (fun _ _ => rfl)) pa_nil))) pa_nil)))
    (pss_cons (ps_set (i := 7) sc_law_first.nd rfl (Or.inl rfl) pe_str)
    (C8.pss_cut (ps_if (pt_cmpR op_lt (pe_ix ix_lM (pv 5) pe_int (fun _ _ => rfl)) (pe_ix ix_tM (pe_ix ix_tM (pv 2) pe_int (fun _ _ => rfl)) pe_int (fun _ _ => rfl)) (nomark _)) (pss_one (ps_set (i := 7) sc_law_first.nd rfl (Or.inl rfl) pe_str)) pss_nil)
    (pss_cons (ps_set (i := 8) sc_law_first.nd rfl (Or.inl rfl) (c_law_take.pe hr (pa_cons (pv 0) (pa_cons pe_int pa_nil))))
    (C8.pss_cut (ps_if (pt_cmpR op_lt (pv 8) pe_int (nomark _)) (pss_cons (ps_set (i := 7) sc_law_first.nd rfl (Or.inl rfl) pe_str)
    (pss_cons (ps_set (i := 9) sc_law_first.nd rfl (Or.inl rfl) (pe_tup (pa_cons pe_str (pa_cons pe_int (pa_cons (pe_ix ix_tM (pv 3) pe_int (fun _ _ => rfl)) (pa_cons (pv 2) pa_nil))))))
    (pss_cons (ps_set (i := 10) sc_law_first.nd rfl (Or.inl rfl) (pe_tup (pa_cons pe_str (pa_cons pe_int (pa_cons (pe_ix ix_tM (pv 3) pe_int (fun _ _ => rfl)) (pa_cons (pe_tup (pa_cons pe_int (pa_cons pe_int (pa_cons (pe_op op_mulS pe_str pe_int) pa_nil)))) pa_nil))))))
    (pss_one (ps_set (i := 6) sc_law_first.nd rfl (Or.inl rfl) (pe_ix ix_lM (pe_lst (pa_cons (pe_slice sl_str (pv 6) po_none (po_some (pe_op op_sub (B.len_s (pa_cons (pv 6) pa_nil)) pe_int))) (pa_cons pe_non (pa_cons pe_int (pa_cons (c_law_text.pe hr (pa_cons (pe_tup (pa_cons (c_law_text.pe hr (pa_cons (pv 9) pa_nil)) (pa_cons (pe_ix ix_lM (pv 5) pe_int (fun _ _ => rfl)) pa_nil))) pa_nil)) (pa_cons (c_law_text.pe hr (pa_cons (pe_tup (pa_cons (c_law_text.pe hr (pa_cons (pv 10) pa_nil)) (pa_cons (pe_tup pa_nil) pa_nil))) pa_nil)) pa_nil)))))) (pv 8) (fun _ _ => rfl))))))) pss_nil)
    (pss_one (ps_ret (pe_lst (pa_cons (pv 3) (pa_cons (pv 6) (pa_cons (pv 7) pa_nil))))))))))))))), ?_⟩
  walk_at "wq"
  have lim : sizeLine = 16777216 := sizeLine_eq
  refine draw_rq (st := st) (fun n H' => n = 4 ∧ H' = H) (fun d => inD 3 d = true ∧ isRole d = true ∧ ∃ t ks, d = roleD t ks ∧ RoleOk t ks ∧ (∀ k ∈ ks, k1 k) ∧ ks.length ≤ 5) (fun d h => in_pur _ _ h.1) (fun R h => by exact h 4 H ⟨rfl, rfl⟩) (fun n H' ⟨hn, hH⟩ => ⟨by omega, by omega, hH ▸ hs⟩) (fun _ => rfl)
    (fun x H2 R s2 h => by exact ⟨_, rfl, st, rfl, s2, fun p b t ks H3 e1 e2 ok hk l5 k s => h _ _ H3 (RoleOk.rq e1 e2) ⟨ok.inD 1, ok.is, t, ks, rfl, ok, hk, l5⟩ k s⟩) (fun n H1 D vs ds H2 ⟨hn, hH⟩ eD r lc pd k2 s2 hD => ?_)
  subst hn
  subst hH
  have lc : ds.length = 4 := lc
  have cp : CPow 10 12 := by refine ⟨?_, ?_, ?_⟩ <;> decide
  refine ⟨D, rfl, vs, .inl ⟨SqL.of eD, fun l hl => ⟨cp, by omega, fun p hp => ?_⟩⟩⟩
  have k3 := Kp.new (S := []) hl (.tup vs)
  have k4 := Kp.new (S := []) hp (.lst [V.int 3, V.int (10 ^ Int.toNat 12)])
  have s4 := (s2.kp k3 List.not_mem_nil).kp k4 List.not_mem_nil
  have np : p ≠ st := by
    obtain ⟨x, y, e⟩ := s2.kp k3 List.not_mem_nil
    exact (ne_of_none e hp).symm
  refine ⟨st, 2, rfl, s4, ⟨by decide, by decide⟩, fun v H5 v0 v1 k5 s5 => ⟨_, k5.keep p _ (by simpa using np) upd_same, v, rfl, ?_⟩⟩
  obtain ⟨mx, em, x0, x1⟩ : ∃ mx : Int, atI [V.int 3, V.int (10 ^ Int.toNat 12)] v = some (.int mx) ∧ 0 < mx ∧ mx ≤ 1000000000000 := by
    have : v = 0 ∨ v = 1 := by omega
    rcases this with rfl | rfl <;> exact ⟨_, rfl, by decide, by decide⟩
  refine ⟨_, em, st, mx, rfl, s5, ⟨x0, by omega⟩, fun n H6 n0 n1 k6 s6 => ⟨n, rfl, st, rfl, s6, fun e H7 e0 e1 k7 s7 => ⟨by omega, fun c hc => ?_⟩⟩⟩
  have k8 := Kp.new (S := []) hc (.tup [V.str (Str.ofString "charter"), V.int (1 + n), V.int e, V.ref l])
  have KK : Kp [st] H2 (upd H7 c (.tup [V.str (Str.ofString "charter"), V.int (1 + n), V.int e, V.ref l])) := (((((k3.trans k4).in0 : Kp [st] _ _).trans k5).trans k6).trans k7).trans k8.in0
  have il : ∀ d ∈ ds, inD 3 d = true := fun d m => (pd d m).1
  have pds : purDs ds = true := purDs_all.mpr fun d m => in_pur _ _ (il d m)
  have el : upd H7 c (.tup [V.str (Str.ofString "charter"), V.int (1 + n), V.int e, V.ref l]) l = some (.tup vs) := ((((k4.in0 : Kp [st] _ _).trans k5).trans k6).trans (k7.trans k8.in0)).tup _ _ upd_same
  have Rc : Rq (upd H7 c (.tup [V.str (Str.ofString "charter"), V.int (1 + n), V.int e, V.ref l])) (.ref c) (.tuple [.str kC, .int (1 + n), .int e, .tuple ds]) := .tup upd_same (.cons (.str _) (.cons (.int _) (.cons (.int _) (.cons (.tup el (r.pure KK pds)) .nil))))
  have icx : isCharter (.tuple [.str kC, .int (1 + n), .int e, .tuple ds]) = true := by
    unfold isCharter
    rw [head_self kC _ (n := 4) rfl]
    show (true && ((decide (1 ≤ 1 + n) && decide (1 + n ≤ 1000000000000)) && ((decide (0 ≤ e) && decide (e ≤ 1000000000000)) && ((decide (4 ≤ ds.length) && decide (ds.length ≤ 4)) && ds.all isRole)))) = true
    rw [lc, List.all_eq_true.mpr fun d m => (pd d m).2.1, decide_eq_true e0, decide_eq_true e1, decide_eq_true (p := 1 ≤ 1 + n) (by omega), decide_eq_true (p := 1 + n ≤ 1000000000000) (by omega)]
    rfl
  have sT : st ∉ Ts := fun m => hs.nT (hG st m) rfl
  obtain ⟨dxo, hob⟩ := hO.ob
  have nost : o ≠ st := by obtain ⟨y, z, e⟩ := hs; exact ne_of hob e (by intro z; cases z)
  have ndst : dm ≠ st := by obtain ⟨y, z, e⟩ := hs; exact ne_of hO.dc e (by intro z; cases z)
  have K8 := k2.trans KK
  have s8 := s7.kp k8 List.not_mem_nil
  have O8 : Ofc C o dm [] _ := hO.kp K8 (by simpa using nost) (by simpa using ndst)
  have G8 : Tabs Ts _ := hG.kp K8 fun P mP mo => sT (List.mem_singleton.mp mo ▸ mP)
  have ec8 : upd H7 c (.tup [V.str (Str.ofString "charter"), V.int (1 + n), V.int e, V.ref l]) c = some (.tup [V.str (Str.ofString "charter"), V.int (1 + n), V.int e, V.ref l]) := upd_same
  generalize upd H7 c (.tup [V.str (Str.ofString "charter"), V.int (1 + n), V.int e, V.ref l]) = H8 at *
  have szC : Sz 8 1200 (.tuple [.str kC, .int (1 + n), .int e, .tuple ds]) := sz_mono (sz_charter icx) (by decide) (by decide)
  obtain ⟨r0, r1, r2, r3, e4⟩ : ∃ a b c d, ds = [a, b, c, d] := by
    match ds, lc with
    | [a, b, c, d], _ => exact ⟨a, b, c, d, rfl⟩
  obtain ⟨_, _, t0, ks, er0, ro0, hk0, l50⟩ := pd r0 (by rw [e4]; exact List.mem_cons_self)
  have Rep0 := Rc.rep 8 szC.1
  have smC : sml (trD (.tuple [.str kC, .int (1 + n), .int e, .tuple ds])) = true := sml_of 8 _ szC.1 (by have := szC.2; omega)
  have lC := szC.2
  refine ⟨.ref c, trD (.tuple [.str kC, .int (1 + n), .int e, .tuple ds]), rfl, Rep0, szC.1, smC, by omega, fun H9 k9 => ?_⟩
  have el9 := k9.tup _ _ el
  have s9 := s8.kp k9 List.not_mem_nil
  have O9 := O8.kp k9 List.not_mem_nil List.not_mem_nil
  have G9 := G8.kp0 k9
  have r9 := r.pure (KK.trans k9.in0) pds
  have r9' := r9
  rw [e4, er0] at r9'
  cases r9' with
  | cons a9 r9b =>
  cases r9b with
  | cons b9 r9b =>
  cases r9b with
  | cons c9 r9b =>
  cases r9b with
  | cons d9 r9b =>
  cases r9b
  clear b9 c9 d9
  cases a9 with
  | @tup p0 _ _ ep0 rr =>
  cases rr with
  | cons x1' rr =>
  cases rr with
  | cons x2' rr =>
  cases rr
  cases x1'
  cases x2' with
  | @tup b0 ys _ eb0 rb =>
  have ey : ys = ks.map V.str := by
    have := rqa_strs rb (fun d m => by obtain ⟨z, _, rfl⟩ := List.mem_map.mp m; rfl)
    rw [this, List.map_map, List.map_map]; exact List.map_congr_left fun z _ => rfl
  subst ey
  refine ⟨_, el9, _, rfl, st, o, dm, p0, b0, txS (trD (.tuple [.str kC, .int (1 + n), .int e, .tuple ds])), t0, ks, rfl, s9, O9, G9, ep0, eb0, hk0, l50, txt_prn szC.1, by rw [TL.len_tl]; exact lC, fun ml pp ts prs made good H10 e10 ep10 PA PR O10 k10 s10 G10 => ⟨ml, rfl, _, e10, _, rfl, by omega, fun sp hsp => ?_⟩⟩
  have hkp : ∀ q ∈ prs, kyS q.1 = true ∧ q.1.length ≤ 12 := fun q m => ⟨(k1_ky (PR.ky q m)).1, by have := (k1_ky (PR.ky q m)).2.1; omega⟩
  have hmp : ∀ q ∈ prs, prn q.2 = true ∧ q.2.length ≤ 40 := fun q m => ⟨(PR.mr q m).1, by have := (PR.mr q m).2; omega⟩
  have IS := fun k e => in_sealed (k := k) (e := e) szC (by have := PR.n; omega) hkp hmp PR.a
  obtain ⟨ok, op, -⟩ := IS kC .none
  have k11 := Kp.new (S := []) hsp (.tup [V.str (txS (trD (.tuple [.str kC, .int (1 + n), .int e, .tuple ds]))), V.ref pp])
  refine ⟨.ref sp, seaT (txS (trD (.tuple [.str kC, .int (1 + n), .int e, .tuple ds]))) prs, rfl, .tup upd_same (.cons (.str _) (.cons (.tup (k11.tup _ _ ep10) (prs_rep (PA.kp k11))) .nil)), ok.1, ok.2.1, by have := ok.2.2; omega, fun H12 k12 => ?_⟩
  have inC : DocIn kC (txS (seaT (txS (trD (.tuple [.str kC, .int (1 + n), .int e, .tuple ds]))) prs)) (.tuple [.str kC, .int (1 + n), .int e, .tuple ds]) := (IS kC _).2.2.mpr ⟨rfl, by unfold isK; rw [if_pos rfl]; exact icx⟩
  have lS : (txS (seaT (txS (trD (.tuple [.str kC, .int (1 + n), .int e, .tuple ds]))) prs)).length ≤ 5000 := by rw [TL.len_tl]; exact ok.2.2
  have sgn_iff : Sgn made (txS (seaT (txS (trD (.tuple [.str kC, .int (1 + n), .int e, .tuple ds]))) prs)) (rlD (.tuple [.str kC, .int (1 + n), .int e, .tuple ds]) 0) ↔ t0 ≤ good := by
    have e0 : rlD (.tuple [.str kC, .int (1 + n), .int e, .tuple ds]) 0 = roleD t0 ks := by rw [e4, er0]; rfl
    have ek : keysD (roleD t0 ks) = ks := by
      show ((ks.map PyData.str).map strD) = ks
      rw [List.map_map]; exact List.map_id'' (fun z => rfl) ks
    rw [e0]
    refine ⟨fun ⟨z, ss, o1, sg⟩ => ?_, fun le => ⟨_, _, op, ?_⟩⟩
    · have := opn_uni op o1
      injection this with this
      injection this with ez this
      injection ez with ez
      injection this with this _
      injection this with this
      unfold sgn at sg
      rw [decide_eq_true_eq, ek, ez, this] at sg
      rw [PR.g]; exact sg
    · unfold sgn
      rw [decide_eq_true_eq, ek]
      rw [PR.g] at le; exact le
  generalize hS : txS (seaT (txS (trD (.tuple [.str kC, .int (1 + n), .int e, .tuple ds]))) prs) = S at *
  refine ⟨fun σ H' => ∃ due, σ = [some (.ref st), some (.ref o), some (.ref l), some (.ref c), some (.str (txS (trD (.tuple [.str kC, .int (1 + n), .int e, .tuple ds])))), some (.ref ml), some (.str S), some (.str due), none, none, none, none] ∧ FrOk made (.tuple [.str kC, .int (1 + n), .int e, .tuple ds]) (.str S) due ∧ H' = H12, ?_, fun σ H' ⟨due, hσ, fr, hH⟩ => ?_⟩
  · walk_at "wq"
    have e12 := (k11.trans k12).keep ml _ List.not_mem_nil e10
    have kA := k10.trans (k11.trans k12).in0
    refine ⟨_, e12, _, rfl, _, kA.tup _ _ el9, _, rfl, p0, rfl, _, kA.tup _ _ ep0, _, rfl, good, rfl, t0, rfl, ?_⟩
    split
    · exact ⟨hS, .seals inC (fun sg => absurd (sgn_iff.mp sg) (by omega)) (by omega)⟩
    · exact ⟨hS, .fine inC (sgn_iff.mpr (by omega)) (by omega)⟩
  subst hσ
  subst hH
  have sX : Strm H' st := s10.kp (k11.trans k12) List.not_mem_nil
  walk_at "wq"
  refine ⟨st, 12, rfl, sX, ⟨by decide, by decide⟩, fun md H13 m0 m1 k13 s13 => ?_⟩
  have kB : Kp [st] H10 H13 := (k11.trans k12).in0.trans k13
  have kC : Kp (st :: dm :: Ts) H9 H13 := k10.trans (kB.mono fun b mb => by rw [List.mem_singleton.mp mb]; exact List.mem_cons_self)
  have O13 : Ofc C o dm made H13 := O10.kp kB (by simpa using nost) (by simpa using ndst)
  have G13 : Tabs Ts H13 := G10.kp kB fun P mP mo => sT (List.mem_singleton.mp mo ▸ mP)
  have nml : ml ≠ st := by
    obtain ⟨y, z, ey⟩ := s10
    intro w
    rw [w, ey] at e10
    injection e10 with e10; injection e10 with e10
    cases (List.cons.inj e10).1
  have e13 := kB.keep ml _ (by simpa using nml) e10
  have ep13 := kB.tup _ _ ep10
  have PA13 := PA.kp kB
  have Rc13 := Rc.pure (k9.in0.trans kC) (purD_tup.mpr fun d m => by
    simp only [List.mem_cons, List.not_mem_nil, or_false] at m
    rcases m with rfl | rfl | rfl | rfl
    · rfl
    · rfl
    · rfl
    · exact pds)
  refine ⟨fun σ H' => ∃ (sv : V) (due' : Str) (o8 o9 o10 o11 : Option V), σ = [some (.ref st), some (.ref o), some (.ref l), some (.ref c), some (.str (txS (trD (.tuple [.str SC.kC, .int (1 + n), .int e, .tuple ds])))), some (.ref ml), some sv, some (.str due'), o8, o9, o10, o11] ∧ FrOk made (.tuple [.str SC.kC, .int (1 + n), .int e, .tuple ds]) sv due' ∧ Kp [] H13 H', ?_, fun σ H' ⟨sv, due', o8, o9, o10, o11, hσ, fr', k14⟩ => ?_⟩
  · walk_at "wq"
    split
    · have kc13 := k9.in0.trans kC
      have ec13 := kc13.tup _ _ ec8
      have el13 := kC.tup _ _ el9
      refine ⟨_, ec13, _, rfl, by omega, fun p1 h1 => ?_⟩
      have k1a := Kp.new (S := []) h1 (.tup [V.str (Str.ofString "charter"), V.int 0, V.int e, V.ref l])
      refine ⟨_, k1a.tup _ _ ec13, _, rfl, 48, rfl, by decide, by decide, by omega, fun p2 h2 => ⟨by omega, fun p3 h3 => ⟨by omega, by omega, ?_⟩⟩⟩
      have k2a := Kp.new (S := []) h2 (.tup [V.int 1, V.int 0, V.str zr18])
      have k3a := Kp.new (S := []) h3 (.tup [V.str (Str.ofString "stamp"), V.int 1, V.int e, V.ref p2])
      have szB : Sz 8 1200 (badC e ds) := sz_bad e0 e1 lc fun d m => (pd d m).2.1
      have szS : Sz 8 1200 (stmC e) := sz_stm e0 e1
      have kk3 := k1a.trans (k2a.trans k3a)
      have RB : Rq _ (.ref p1) (badC e ds) := .tup ((k2a.trans k3a).tup _ _ upd_same) (.cons (.str _) (.cons (.int _) (.cons (.int _) (.cons (.tup (kk3.tup _ _ el13) (r9.pure (kC.trans kk3.in0) pds)) .nil))))
      have RS : Rq _ (.ref p3) (stmC e) := .tup (upd_same : upd (upd (upd H13 p1 (.tup [V.str (Str.ofString "charter"), V.int 0, V.int e, V.ref l])) p2 (.tup [V.int 1, V.int 0, V.str zr18])) p3 (.tup [V.str (Str.ofString "stamp"), V.int 1, V.int e, V.ref p2]) p3 = some (.tup [V.str (Str.ofString "stamp"), V.int 1, V.int e, V.ref p2])) (.cons (.str _) (.cons (.int _) (.cons (.int _) (.cons (.tup (k3a.tup _ _ upd_same) (.cons (.int _) (.cons (.int _) (.cons (.str _) .nil)))) .nil))))
      refine ⟨.ref p1, trD (badC e ds), rfl, RB.rep 8 szB.1, szB.1, sml_of 8 _ szB.1 (by have := szB.2; omega), by have := szB.2; omega, fun H14 k14 => ⟨_, (kk3.trans k14).keep ml _ List.not_mem_nil e13, _, rfl, by omega, fun p4 h4 => ?_⟩⟩
      have IB := in_sealed (k := SC.kC) (e := .none) szB (by have := PR.n; omega) hkp hmp PR.a
      have IBn := fun x => (in_sealed (k := SC.kC) (e := x) szB (by have := PR.n; omega) hkp hmp PR.a).2.2
      have IS0 := in_sealed (k := SC.kC) (e := .none) (prs := []) szS (by decide) (fun q m => absurd m List.not_mem_nil) (fun q m => absurd m List.not_mem_nil) rfl
      have ISn := fun x => (in_sealed (k := SC.kC) (e := x) (prs := []) szS (by decide) (fun q m => absurd m List.not_mem_nil) (fun q m => absurd m List.not_mem_nil) rfl).2.2
      have k4a := Kp.new (S := []) h4 (.tup [V.str (txS (trD (badC e ds))), V.ref pp])
      have k34 := (kk3.trans k14).trans k4a
      refine ⟨.ref p4, seaT (txS (trD (badC e ds))) prs, rfl, .tup upd_same (.cons (.str _) (.cons (.tup (k34.tup _ _ ep13) (prs_rep (PA13.kp k34))) .nil)), IB.1.1, IB.1.2.1, by have := IB.1.2.2; omega, fun H15 k15 => ?_⟩
      refine ⟨.ref p3, trD (stmC e), rfl, (RS.kp0 (k14.trans (k4a.trans k15))).rep 8 szS.1, szS.1, sml_of 8 _ szS.1 (by have := szS.2; omega), by have := szS.2; omega, fun H16 k16 => ⟨by omega, fun p5 h5 => ⟨by omega, fun p6 h6 => ?_⟩⟩⟩
      have k5a := Kp.new (S := []) h5 (.tup [])
      have k6a := Kp.new (S := []) h6 (.tup [V.str (txS (trD (stmC e))), V.ref p5])
      refine ⟨.ref p6, seaT (txS (trD (stmC e))) [], rfl, .tup upd_same (.cons (.str _) (.cons (.tup (k6a.tup _ _ upd_same) .nil) .nil)), IS0.1.1, IS0.1.2.1, by have := IS0.1.2.2; omega, fun H17 k17 => ?_⟩
      have kE : Kp [] H13 H17 := k34.trans (k15.trans (k16.trans (k5a.trans (k6a.trans k17))))
      refine ⟨by omega, fun p7 h7 => ?_⟩
      have frm : ∀ {v : V}, (∀ G, ∃ t, tyN G v = some t) → (∀ z, v = .str z → z.length ≤ 10000000) → (∀ x f, v = .str x → ¬ DocIn SC.kC x f) → FrOk made (.tuple [.str SC.kC, .int (1 + n), .int e, .tuple ds]) v (Str.ofString "form") := fun a b c => .form a b c
      obtain ⟨y, hy, fy⟩ : ∃ y, atI [V.str (cutS S none (some (S.length - 1))), V.non, V.int 5, V.str (txS (seaT (txS (trD (badC e ds))) prs)), V.str (txS (seaT (txS (trD (stmC e))) []))] md = some y ∧ FrOk made (.tuple [.str SC.kC, .int (1 + n), .int e, .tuple ds]) y (Str.ofString "form") := by
        have : md = 0 ∨ md = 1 ∨ md = 2 ∨ md = 3 ∨ md = 4 := by omega
        rcases this with rfl | rfl | rfl | rfl | rfl
        · refine ⟨_, rfl, frm (fun _ => ⟨_, rfl⟩) (fun z ez => ?_) (fun x f ex D => ?_)⟩
          · cases ez
            have := cutS_length S none (some ((S.length : Int) - 1))
            omega
          · cases ex
            obtain ⟨z, ss, t, o1, _⟩ := D
            have hl : (txt (seaT (txS (trD (.tuple [.str SC.kC, .int (1 + n), .int e, .tuple ds]))) prs)).length = S.length := by rw [← hS, TL.len_tl]
            have l2 : 2 ≤ (txt (seaT (txS (trD (.tuple [.str SC.kC, .int (1 + n), .int e, .tuple ds]))) prs)).length := by
              show 2 ≤ (91 :: (_ ++ [93])).length
              rw [List.length_cons, List.length_append]; simp
            refine opn_less ok (k := S.length - 1) ?_ (by omega) o1
            rw [show ((S.length : Int) - 1) = ((S.length - 1 : Nat) : Int) by omega, cut_to, ← hS]
        · exact ⟨_, rfl, frm (fun _ => ⟨_, rfl⟩) (fun z ez => by cases ez) (fun x f ex _ => by cases ex)⟩
        · exact ⟨_, rfl, frm (fun _ => ⟨_, rfl⟩) (fun z ez => by cases ez) (fun x f ex _ => by cases ex)⟩
        · refine ⟨_, rfl, frm (fun _ => ⟨_, rfl⟩) (fun z ez => ?_) (fun x f ex D => ?_)⟩
          · cases ez
            rw [TL.len_tl]
            have := IB.1.2.2
            exact Nat.le_trans this (by decide)
          · cases ex
            have := ((IBn f).mp D).2
            rw [not_bad] at this; cases this
        · refine ⟨_, rfl, frm (fun _ => ⟨_, rfl⟩) (fun z ez => ?_) (fun x f ex D => ?_)⟩
          · cases ez
            rw [TL.len_tl]
            have := IS0.1.2.2
            exact Nat.le_trans this (by decide)
          · cases ex
            have := ((ISn f).mp D).2
            rw [not_stm] at this; cases this
      exact ⟨y, hy, fy, kE.trans (Kp.new h7 _)⟩
    · have frX : FrOk made (.tuple [.str SC.kC, .int (1 + n), .int e, .tuple ds]) (.str S) due := fr
      exact ⟨frX, Kp.refl _ _⟩
  subst hσ
  walk_at "wq"
  refine ⟨by omega, fun L hL => ?_⟩
  have kl := Kp.new (S := []) hL (.lst [V.ref c, sv, V.str due'])
  have kZ := k14.trans kl
  exact q L (.ref c) sv due' _ made _ upd_same (Rc13.kp0 kZ) icx fr' (O13.kp kZ List.not_mem_nil List.not_mem_nil) ((K8.mono fun b mb => by rw [List.mem_singleton.mp mb]; exact List.mem_cons_self).trans (k9.in0.trans (kC.trans kZ.in0))) (s13.kp kZ List.not_mem_nil) (G13.kp0 kZ)
end

/-! law k35: making a trusted set -/
abbrev s_law_refusal : Stmt := top 94
abbrev N_law_refusal : List Str := ["office", "sealed", "e"]
theorem sc_law_refusal : FnScope N_law_refusal ["office", "sealed"] (defScope s_law_refusal) := ⟨rfl, rfl, rfl, by decide +kernel, rfl, by decide +kernel, by decide +kernel⟩
abbrev s_law_bare : Stmt := top 95
abbrev N_law_bare : List Str := ["made", "charter", "sealed", "value"]
theorem sc_law_bare : FnScope N_law_bare ["made", "charter", "sealed"] (defScope s_law_bare) := ⟨rfl, rfl, rfl, by decide +kernel, rfl, by decide +kernel, by decide +kernel⟩
abbrev s_law : Stmt := top 96
abbrev N_law : List Str := ["script", "k", "stream", "office", "first", "made"]
theorem sc_law : FnScope N_law ["script"] (defScope s_law) := ⟨rfl, rfl, rfl, by decide +kernel, rfl, by decide +kernel, by decide +kernel⟩
def spRefu35 (CO : Addr) (Ts : List Addr) : Sp := fun vs H Q _ => ∃ (o dm : Addr) (made : List (Str × Str)) (sv : V) (d : PyData) (due : Str), vs = [.ref o, sv] ∧ Ofc CO o dm made H ∧ Tabs Ts H ∧ FrOk made d sv due ∧ ∀ H', Kp Ts H H' → Tabs Ts H' → Q (.str due) H'
def spBare35 (C : Addr) : Sp := fun vs H Q _ => ∃ (o dd ds dl off : Addr) (cv : V) (d : PyData) (x : Str), vs = [.ref o, cv, .str x] ∧ Trs C o dd ds dl off (Tst.one d x) H ∧ Rq H cv d ∧ prn x = true ∧ ∀ H', Kp [] H H' → Q (.bl true) H'
def spLaw35 (K : PySem.W.Frag) (Ts : List Addr) : Sp := fun vs H Q _ => ∃ (a : Addr) (ns : List Int), vs = [.ref a] ∧ SqL K H a (ns.map V.int) ∧ Tabs Ts H ∧ ns.length ≤ 63 ∧ ∀ H', Q (.bl true) H'
theorem doc_uni {k x : Str} {d e : PyData} (h : DocIn k x d) (g : DocIn k x e) : d = e := by
  obtain ⟨z, ss, t, o, _, _, v, rfl, _⟩ := h
  obtain ⟨z2, ss2, t2, o2, _, _, v2, rfl, _⟩ := g
  have := opn_uni o o2
  injection this with this
  injection this with ez this
  injection ez with ez
  rw [ez, v] at v2
  injection v2 with v2
  injection v2 with v2
  rw [v2]
theorem FrOk.ty {made : List (Str × Str)} {d : PyData} {v : V} {due : Str} (h : FrOk made d v due) (H : Hp) : (∃ t, tyN H v = some t) ∧ ∀ z, v = .str z → z.length ≤ 10000000 := by
  cases h with
  | fine _ _ l => exact ⟨⟨_, rfl⟩, fun z e => by cases e; omega⟩
  | seals _ _ l => exact ⟨⟨_, rfl⟩, fun z e => by cases e; omega⟩
  | form a b _ => exact ⟨a H, b⟩
theorem one_docs {d : PyData} {x : Str} : getA (Tst.one d x).docs kC = some d ∧ getA (Tst.one d x).docs kT = none ∧ getA (Tst.one d x).docs kF = none ∧ getT (Tst.one d x).txs kC = some x ∧ getT (Tst.one d x).txs kT = none ∧ getT (Tst.one d x).txs kF = none := by
  refine ⟨?_, ?_, ?_, ?_, ?_, ?_⟩ <;> simp [Tst.one, getA, getT, kd_ne.1, kd_ne.2.1]
theorem one_forg {d : PyData} {x : Str} : (Tst.one d x).forg = Tst.one d x := by
  unfold Tst.forg Tst.ch
  rw [one_docs.1, one_docs.2.2.2.1]; rfl
theorem one_out {d : PyData} {x : Str} : (Tst.one d x).outd = false ∧ (Tst.one d x).curr = false := by
  unfold Tst.outd Tst.curr
  rw [one_docs.2.1]
  exact ⟨rfl, rfl⟩
section
variable {P : Program} {w : World} {K : PySem.W.Frag} {mg : Str → Option Value} {base : Heap} {f : Addr} {fd : FuncData} {C C2 CO CK CT CB CD CR : Addr} {Ts : List Addr}
theorem ok_lrefu35 (F : Fun K "_law_refusal" "_law_refusal" s_law_refusal f fd) (B : Blt mg) (T : EsC P w K mg base CB CD CR) (xeR : ExcC K CR) (xkR : PySem.W.kitOne K (.ref CR) (.ref C2) = some true) (gC2 : mg "ChartError" = some (.ref C2)) (k_Trusted : CalK P w K mg base (CXG P w) 27 C "Trusted" (spTInit C CO CR Ts)) :
    FnOk P w K mg base CX0 29 f fd ["office", "sealed"] (spRefu35 CO Ts) := by
  refine F.ok sc_law_refusal (fun vs H Q E h => ?_) (fun cdv A outer s H vs Q E hr h => ?_)
  · obtain ⟨o, dm, made, sv, d, due, rfl, _⟩ := h; rfl
  obtain ⟨o, dm, made, sv, d, due, rfl, hO, hG, hF, q⟩ := h
  refine ⟨_, (pss_cons (ps_try_G (i := 2) (n := "e") (out := fun _ _ _ _ => False) rfl rfl sc_law_refusal.nd rfl rfl (fun hd => PySem.PassesOwnAt.never) takes0G (fun V held ex tk _ => by_given (pss_one (ps_expr (k_Trusted.peG hr tk (pa_cons (pv 0) (pa_cons (pv 1) pa_nil))))) rfl) (.one (k := (_, _)) (.one ⟨rfl, by decide, .inl T.Refused.g⟩) (fun a oe cls d pn hz hf hot => (by_given (pss_cons (ps_if (PW.pt (pw_and (pt_val (pe_callB (call_isS hz hf) rfl B.isinstance (by decide +kernel) (pa_cons (pv 2) (pa_cons (pe_glob (v := .ref C2) rfl gC2 rfl) pa_nil)))) (pw_and1 (pt_val (B.isT (pe_xf T.Refused.xf T.Refused.n hz hf (pv 2)) B.v_str))))) (pss_one (ps_ret (pe_xf T.Refused.xf T.Refused.n hz hf (pv 2)))) pss_nil)
    (pss_one (ps_ret pe_non))) rfl)) .none))
    (pss_one (ps_ret pe_str))), ?_⟩
  walk_at "wq"
  refine ⟨_, rfl, _, rfl, fun x dx n1 n2 n3 => ?_⟩
  have kN : Kp [] H (upd (upd H dx (.own x)) x (.ins C dx [])) := (Kp.new n2 _).trans (Kp.new (by rw [upd_ne n3.symm]; exact n1) _)
  have back : ∀ {G : Hp}, Kp (x :: Ts) (upd (upd H dx (.own x)) x (.ins C dx [])) G → Kp Ts H G := fun k => Kp.drop n1 (kN.in0.trans k)
  have cl : ∀ (z : Str) (e : Addr) (G : Hp) (g : Kp Ts H G) (t : Tabs Ts G), G e = some (xdR z) → due = z → wClG K 2 (fun _ _ _ _ => False) { nx := tRet (tC (V.str (Str.ofString ""))) { nx := fun _ H' => Q V.non H', rt := Q }, rt := Q }
        [ClG.named ([Value.ref CR], fun a cls d D σ H => ∃ v, σ[2]? = some (some v) ∧ SC.rIsN K a cls d [v, V.ref C2] H fun x H1 => ∃ c, x = V.bl c ∧ if c = true then tXf a cls d CR (Str.ofString "reason") (tVar 2) σ H1 fun x H1 => ∃ t, tyN H1 x = some t ∧ if isaB t "str" = true then tXf a cls d CR (Str.ofString "reason") (tVar 2) σ H1 D.rt else D.rt V.non H1 else D.rt V.non H1)]
        (.ref CR) (some e) [some (V.ref o), some sv, none] G := fun z e G g t he hd => by
    refine ⟨true, exm1 T.Refused.em, if_yes rfl fun a ha => ⟨_, rfl, CR, rfl, xeR, ?_⟩⟩
    refine ⟨.ref C2, .ref C2, true, rfl, (fun u hu => hu), xkR, .inr ⟨e, _, rfl, he⟩, true, rfl, if_yes rfl ⟨_, rfl, rfl, rfl, e, _, .str z, rfl, he, rfl, "str", rfl, if_yes (by decide) ⟨_, rfl, rfl, rfl, e, _, .str z, rfl, he, rfl, ?_⟩⟩⟩
    exact hd ▸ q G g t
  refine ⟨x, dx, o, dm, made, sv, rfl, upd_same, hO.kp kN List.not_mem_nil List.not_mem_nil, (hF.ty _).1, (hF.ty H).2, hG.kp0 kN, fun S d' e D sg d1 d2 d3 G _ _ _ _ k g => ⟨rfl, ?_⟩, fun nd e G k g hn he => cl "form" e G (back k) g he ?_, fun S d' ee D ns e G k g hn he => cl "seals" e G (back k) g he ?_⟩
  · cases hF with
    | fine D2 sg2 l => exact q G (back k) g
    | seals D2 ns l =>
      cases e
      exact absurd (doc_uni D2 D ▸ sg) ns
    | form a b c => exact absurd D (c S d' e)
  · cases hF with
    | fine D2 sg2 l => exact absurd D2 (nd _ _ rfl)
    | seals D2 ns l => exact absurd D2 (nd _ _ rfl)
    | form a b c => rfl
  · cases hF with
    | fine D2 sg2 l =>
      cases ee
      exact absurd (doc_uni D2 D ▸ sg2) ns
    | seals D2 ns l => rfl
    | form a b c => exact absurd D (c S d' ee)
theorem ok_lbare35 (F : Fun K "_law_bare" "_law_bare" s_law_bare f fd) (B : Blt mg) (m_Trusted_charter : CalM P w K mg base CX0 1 C "charter" (spTDoc C kC)) (m_Trusted_stamp : CalM P w K mg base CX0 1 C "stamp" (spTDoc C kT)) (m_Trusted_shelf : CalM P w K mg base CX0 1 C "shelf" (spTDoc C kF)) (m_Trusted_sealed : CalM P w K mg base CX0 1 C "sealed" (spTSealed C)) (m_Trusted_roles : CalM P w K mg base CX0 1 C "roles" (spTRoles C))
    (m_Trusted_list_of : CalM P w K mg base CX0 1 C "list_of" (spTList C 0)) (m_Trusted_list_role : CalM P w K mg base CX0 1 C "list_role" (spTList C 1)) (m_Trusted_outdated : CalM P w K mg base CX0 3 C "outdated" (spTOut C)) (m_Trusted_is_current : CalM P w K mg base CX0 2 C "is_current" (spTCur C)) (c_law_same : Cal P w K mg base CX0 9 "_law_same" (spSame 8)) (c_law_says : Cal P w K mg base CX0 1 "_law_says" spSays) :
    FnOk P w K mg base CX0 10 f fd ["made", "charter", "sealed"] (spBare35 C) := by
  refine F.ok sc_law_bare (fun vs H Q E h => ?_) (fun cdv A outer s H vs Q E hr h => ?_)
  · obtain ⟨o, dd, ds, dl, off, cv, d, x, rfl, _⟩ := h; rfl
  obtain ⟨o, dd, ds, dl, off, cv, d, x, rfl, hT, hR, hx, q⟩ := h
  refine ⟨_, (pss_cons (ps_if (PW.pt (pw_or (pt_not (pt_val (c_law_same.pe hr (pa_cons (m_Trusted_charter.pe0 hr (pv 0)) (pa_cons (pv 1) pa_nil))))) (pw_or1 (pt_not (pt_val (c_law_same.pe hr (pa_cons (m_Trusted_sealed.pe hr (pv 0) (pa_cons pe_str pa_nil)) (pa_cons (pv 2) pa_nil)))))))) (pss_one (ps_ret pe_bl)) pss_nil)
    (pss_cons (ps_for PassesOwn.never rfl (pi_list (pe_lst (pa_cons (m_Trusted_stamp.pe0 hr (pv 0)) (pa_cons (m_Trusted_shelf.pe0 hr (pv 0)) (pa_cons (m_Trusted_sealed.pe hr (pv 0) (pa_cons pe_str pa_nil)) (pa_cons (m_Trusted_sealed.pe hr (pv 0) (pa_cons pe_str pa_nil)) (pa_cons (m_Trusted_roles.pe0 hr (pv 0)) pa_nil))))))) (pg_name (i := 3) sc_law_bare.nd rfl (Or.inl rfl)) (pss_one (ps_if (pt_cmpR op_notN (pv 3) pe_non (nomark _)) (pss_one (ps_ret pe_bl)) pss_nil)))
    (pss_cons (ps_if (PW.pt (pw_or (pt_cmpR op_notN (m_Trusted_list_of.pe hr (pv 0) (pa_cons pe_str pa_nil)) pe_non (nomark _)) (pw_or1 (pt_cmpR op_notN (m_Trusted_list_role.pe hr (pv 0) (pa_cons pe_str pa_nil)) pe_non (nomark _))))) (pss_one (ps_ret pe_bl)) pss_nil)
    (pss_one (ps_ret (pe_and (c_law_says.pe hr (pa_cons (m_Trusted_outdated.pe0 hr (pv 0)) (pa_cons pe_bl pa_nil))) (pe_one (c_law_says.pe hr (pa_cons (m_Trusted_is_current.pe0 hr (pv 0)) (pa_cons pe_bl pa_nil)))))))))), ?_⟩
  obtain ⟨g1, g2, g3, g4, g5, g6⟩ := one_docs (d := d) (x := x)
  obtain ⟨o1, o2⟩ := one_out (d := d) (x := x)
  obtain ⟨dx, rv, ho, hrv⟩ := hT.ob
  have w := hT.ok.ok (kC, d) List.mem_cons_self
  have ic := hT.ok.ch.2
  have ech : (Tst.one d x).ch = d := by unfold Tst.ch; rw [g1]; rfl
  rw [ech] at ic
  have sz := sz_mono (sz_charter ic) (m := 8) (b := 1100) (by decide) (by decide)
  have sm := sml_of 8 _ sz.1 (by have := sz.2; omega)
  have lx : x.length ≤ 100000 := hT.ok.tx (kC, x) List.mem_cons_self
  have rvn : rv = .non := by cases hrv; rfl
  subst rvn
  walk_at "wq"
  refine ⟨dx, _, ho, rfl, o, dd, ds, dl, off, _, rfl, hT, fun u hu => ?_⟩
  rw [g1] at hu
  have hu : Rq H u d := hu
  refine ⟨u, cv, trD d, trD d, rfl, hu.rep 8 sz.1, hR.rep 8 sz.1, sz.1, sm, true, by rw [same_refl 8 _ sz.1], if_no (by decide) ?_⟩
  refine ⟨dx, _, ho, rfl, o, dd, ds, dl, off, _, kC, rfl, hT, ?_⟩
  rw [g4]
  refine ⟨.str x, .str x, .str x, .str x, rfl, .str x, .str x, hx, decide_eq_true (show x.length ≤ 10000000 by omega), true, by rw [same_refl 8 (.str x) hx], if_no (by decide) ?_⟩
  have lim : sizeLine = 16777216 := sizeLine_eq
  refine ⟨_, rfl, o, dx, _, rfl, ho, rfl, o, dd, ds, dl, off, _, rfl, hT, fun u1 h1 => ?_⟩
  rw [g2] at h1
  cases h1
  refine ⟨_, rfl, o, dx, _, rfl, ho, rfl, o, dd, ds, dl, off, _, rfl, hT, fun u1 h1 => ?_⟩
  rw [g3] at h1
  cases h1
  refine ⟨_, rfl, o, dx, _, rfl, ho, rfl, o, dd, ds, dl, off, _, kT, rfl, hT, ?_⟩
  rw [g5]
  refine ⟨_, rfl, o, dx, _, rfl, ho, rfl, o, dd, ds, dl, off, _, kF, rfl, hT, ?_⟩
  rw [g6]
  refine ⟨_, rfl, o, dx, _, rfl, ho, rfl, o, dd, ds, dl, off, _, rfl, hT, fun u1 h1 => ?_⟩
  cases h1
  refine ⟨(by show 5 ≤ sizeLine; omega), fun p hp => ⟨p, rfl, ⟨_, SqL.of upd_same⟩, ?_⟩⟩
  have kp := Kp.new (S := []) hp (.lst [V.non, V.non, V.non, V.non, V.non])
  refine for_list (K := K) (a := p) (xs := [V.non, V.non, V.non, V.non, V.non]) (fun i σ H' => H' = upd H p (.lst [V.non, V.non, V.non, V.non, V.non]) ∧ ∃ o3 : Option V, σ = [some (.ref o), some cv, some (.str x), o3])
    ⟨rfl, _, rfl⟩ (fun i σ H' _ ⟨e, _⟩ => by rw [e]; exact SqL.of upd_same) (fun i y σ H' hy ⟨e, o3, hσ⟩ => ?_) (fun σ H' ⟨e, o3, hσ⟩ => ?_)
  · subst hσ
    subst e
    have yn : y = .non := by
      have := List.mem_of_getElem? hy
      simpa using this
    subst yn
    walk_at "wq"
    simp
  subst hσ
  subst e
  have hT1 := hT.kp0 kp
  have l1 : ∀ i, lstAt (Tst.one d x) (Str.ofString "list") i = .none := fun i => rfl
  obtain ⟨dy, rv, ho1, hrv1⟩ := hT1.ob
  walk_at "wq"
  refine ⟨dy, _, ho1, rfl, o, dd, ds, dl, off, _, kL, rfl, hT1, fun u h1 => ?_⟩
  rw [l1] at h1
  cases h1
  refine if_no (by simp) ⟨dy, _, ho1, rfl, o, dd, ds, dl, off, _, kL, rfl, hT1, fun u h1 => ?_⟩
  rw [l1] at h1
  cases h1
  refine if_no (by simp) ⟨dy, _, ho1, rfl, o, dd, ds, dl, off, _, rfl, hT1, fun H2 k2 => ?_⟩
  rw [o1]
  have hT2 := hT1.kp0 k2
  obtain ⟨dz, rv2, ho2, _⟩ := hT2.ob
  refine ⟨false, false, rfl, true, rfl, if_yes rfl ⟨dz, _, ho2, rfl, o, dd, ds, dl, off, _, rfl, hT2, fun H3 k3 => ?_⟩⟩
  rw [o2]
  exact ⟨false, false, rfl, q H3 (kp.trans (k2.trans k3))⟩
theorem ok_law35 (F : Fun K "law" "law" s_law f fd) (B : Blt mg) (c_law_cell : Cal P w K mg base CX0 1 "_law_cell" (spCell K)) (c_law_stream : Cal P w K mg base CX0 1 "_law_stream" spStream) (c_law_first : Cal P w K mg base CX0 10 "_law_first" (spFirst35 CO Ts)) (c_law_refusal : Cal P w K mg base CX0 29 "_law_refusal" (spRefu35 CO Ts)) (c_law_bare : Cal P w K mg base CX0 10 "_law_bare" (spBare35 C)) (k_Seals : CalK P w K mg base CX0 1 CO "Seals" (spInit CO)) (k_Trusted : CalK P w K mg base (CXG P w) 27 C "Trusted" (spTInit C CO CR Ts)) (m_Trusted_forget : CalM P w K mg base CX0 1 C "forget" (spTForg C)) :
    FnOk P w K mg base CX0 30 f fd ["script"] (spLaw35 K Ts) := by
  refine F.ok sc_law (fun vs H Q E h => ?_) (fun cdv A outer s H vs Q E hr h => ?_)
  · obtain ⟨a, ns, rfl, _⟩ := h; rfl
  obtain ⟨a, ns, rfl, hS, hG, hl, q⟩ := h
  refine ⟨_, (pss_cons (ps_for PassesOwn.never rfl (B.range1 (pa_cons pe_int pa_nil)) (pg_name (i := 1) sc_law.nd rfl (Or.inl rfl)) (pss_cons (ps_set (i := 2) sc_law.nd rfl (Or.inl rfl) (c_law_stream.pe hr (pa_cons (c_law_cell.pe hr (pa_cons (pv 0) (pa_cons (pv 1) pa_nil))) pa_nil)))
    (pss_cons (ps_set (i := 3) sc_law.nd rfl (Or.inl rfl) (k_Seals.pe0 hr))
    (pss_cons (ps_set (i := 4) sc_law.nd rfl (Or.inl rfl) (c_law_first.pe hr (pa_cons (pv 2) (pa_cons (pv 3) pa_nil))))
    (C8.pss_cut (ps_if (pt_cmpR op_ne (c_law_refusal.pe hr (pa_cons (pv 3) (pa_cons (pe_ix ix_lM (pv 4) pe_int (fun _ _ => rfl)) pa_nil))) (pe_ix ix_lM (pv 4) pe_int (fun _ _ => rfl)) (nomark _)) (pss_one (ps_ret pe_bl)) pss_nil)
    (pss_one (ps_if (pt_cmpR op_eq (pe_ix ix_lM (pv 4) pe_int (fun _ _ => rfl)) pe_str (nomark _)) (C8.pss_cut (ps_set (i := 5) sc_law.nd rfl (Or.inl rfl) (k_Trusted.pex hr passGL (pa_cons (pv 3) (pa_cons (pe_ix ix_lM (pv 4) pe_int (fun _ _ => rfl)) pa_nil))))
    (pss_cons (ps_if (PW.pt (pw_or (pt_not (pt_val (c_law_bare.pe hr (pa_cons (pv 5) (pa_cons (pe_ix ix_lM (pv 4) pe_int (fun _ _ => rfl)) (pa_cons (pe_ix ix_lM (pv 4) pe_int (fun _ _ => rfl)) pa_nil)))))) (pw_or1 (pt_cmpR op_notN (m_Trusted_forget.pe0 hr (pv 5)) pe_non (nomark _))))) (pss_one (ps_ret pe_bl)) pss_nil)
    (pss_one (ps_if (pt_not (pt_val (c_law_bare.pe hr (pa_cons (pv 5) (pa_cons (pe_ix ix_lM (pv 4) pe_int (fun _ _ => rfl)) (pa_cons (pe_ix ix_lM (pv 4) pe_int (fun _ _ => rfl)) pa_nil)))))) (pss_one (ps_ret pe_bl)) pss_nil)))) pss_nil)))))))
    (pss_one (ps_ret pe_bl))), ?_⟩
  walk_at "wq"
  have lim : sizeLine = 16777216 := sizeLine_eq
  refine ⟨2, rfl, by decide, by decide, for_range (lo := 0) (n := 2) (fun i σ H' => (∃ o1 o2 o3 o4 o5 : Option V, σ = [some (.ref a), o1, o2, o3, o4, o5]) ∧ Kp Ts H H' ∧ Tabs Ts H') ⟨⟨_, _, _, _, _, rfl⟩, Kp.refl _ _, hG⟩ (fun i σ H' hi ⟨⟨p1, p2, p3, p4, p5, hσ⟩, k0, g0⟩ => ?_) (fun σ H' ⟨⟨p1, p2, p3, p4, p5, hσ⟩, k0, g0⟩ => ?_)⟩
  · subst hσ
    walk_at "wq"
    rw [Int.zero_add]
    refine ⟨a, ns, i, rfl, k0.seqs hG hS, ?_⟩
    refine ⟨_, rfl, fun st hst a0 b0 => ?_⟩
    intro o dx n1 n2 n3
    have kS := Kp.new (S := []) hst (.lst [.int a0, .int b0])
    have sS : Strm (upd H' st (.lst [.int a0, .int b0])) st := ⟨a0, b0, upd_same⟩
    generalize upd H' st (.lst [.int a0, .int b0]) = H1 at *
    refine ⟨o, dx, rfl, upd_same, fun dm H2 hd nm O1 k1 => ?_⟩
    have K1 := mk_kp n1 n2 n3 k1
    have k02 := kS.trans K1
    have nd0 : H' dm = none := kS.gone1 (fun b m => absurd m List.not_mem_nil) (mk_none hd)
    refine ⟨rfl, st, o, dm, rfl, sS.kp K1 List.not_mem_nil, O1, g0.kp0 k02, fun L cv sv due d made H3 eL Rc ic fr O3 k3 s3 g3 => ?_⟩
    have kT : Kp Ts H' H3 := Kp.drop nd0 (Kp.drop hst (k02.in0.trans k3))
    clear k3 s3 k02 kS sS K1
    refine ⟨fun σ H4 => σ = [some (.ref a), some (.int (0 + (i : Nat))), some (.ref st), some (.ref o), some (.ref L), p5] ∧ Kp Ts H3 H4 ∧ Tabs Ts H4, ?_, fun σ H4 ⟨hσ, k4, g4⟩ => ?_⟩
    · walk_at "wq"
      exact ⟨_, eL, _, rfl, o, dm, made, sv, d, due, rfl, O3, g3, fr, fun H5 k5 g5 => ⟨_, k5.get g3 eL, _, rfl, rfl, if_no (by simp) ⟨by omega, k5, g5⟩⟩⟩
    subst hσ
    have k34 := k0.trans (kT.trans k4)
    walk_at "wq"
    refine ⟨_, k4.get g3 eL, _, rfl, rfl, ?_⟩
    cases fr with
    | seals D ns l => exact if_no (by intro h; injection h with h; exact absurd h (by decide +kernel)) ⟨⟨_, rfl⟩, k34, g4⟩
    | form c1 c2 c3 => exact if_no (by intro h; injection h with h; exact absurd h (by decide +kernel)) ⟨⟨_, rfl⟩, k34, g4⟩
    | @fine S D sg l =>
    refine if_yes rfl ?_
    have O4 := O3.tabs k4 g3
    have eL4 := k4.get g3 eL
    have pS : prn S = true := by
      obtain ⟨z, ss, t, o1, _⟩ := D
      exact o1.2.1
    have wd := (one_ok D).ok (kC, d) List.mem_cons_self
    refine ⟨fun σ H5 => ∃ m dd ds dl, σ = [some (.ref a), some (.int (0 + (i : Nat))), some (.ref st), some (.ref o), some (.ref L), some (.ref m)] ∧ Trs C m dd ds dl o (Tst.one d S) H5 ∧ H4 m = none ∧ Kp Ts H4 H5 ∧ Tabs Ts H5, ?_, fun σ H5 ⟨m, dd, ds, dl, hσ, T5, hm, k5, g5⟩ => ?_⟩
    · walk_at "wq"
      refine ⟨_, eL4, _, rfl, fun x dy n1 n2 n3 => ?_⟩
      have kN : Kp [] H4 (upd (upd H4 dy (.own x)) x (.ins C dy [])) := (Kp.new n2 _).trans (Kp.new (by rw [upd_ne n3.symm]; exact n1) _)
      have back : ∀ {G : Hp}, Kp (x :: Ts) (upd (upd H4 dy (.own x)) x (.ins C dy [])) G → Kp Ts H4 G := fun k => Kp.drop n1 (kN.in0.trans k)
      refine ⟨x, dy, o, dm, made, .str S, rfl, upd_same, O4.kp kN List.not_mem_nil List.not_mem_nil, ⟨_, rfl⟩, fun z e => by cases e; omega, g4.kp0 kN, fun S' d' e D' sg' d1 d2 d3 G _ _ _ T k g => ⟨rfl, ?_⟩, fun nd => absurd D (nd S d rfl), fun S' d' e D' ns => ?_⟩
      · cases e
        have := doc_uni D D'
        subst this
        exact ⟨d1, d2, d3, T, n1, back k, g⟩
      · cases e
        have := doc_uni D D'
        subst this
        exact absurd sg ns
    subst hσ
    walk_at "wq"
    have eL5 := k5.get g4 eL4
    refine ⟨_, eL5, _, rfl, _, eL5, _, rfl, m, dd, ds, dl, o, cv, d, S, rfl, T5, Rc.pure (k4.trans k5) wd.2, pS, fun H6 k6 => ⟨true, rfl, if_no (by decide) ?_⟩⟩
    have T6 := T5.kp0 k6
    obtain ⟨dx6, rv6, ho6, _⟩ := T6.ob
    refine ⟨dx6, _, ho6, rfl, m, dd, ds, dl, o, _, rfl, T6, fun e1 e2 e3 H7 _ _ _ k7 T7 => if_no (by simp) ?_⟩
    rw [one_forg] at T7
    have k47 : Kp Ts H4 H7 := Kp.drop hm (((k5.trans k6.in0).mono fun b mb => List.mem_cons_of_mem _ mb).trans (k7.mono fun b mb => by rw [List.mem_singleton.mp mb]; exact List.mem_cons_self))
    have mT : m ∉ Ts := fun mt => by
      obtain ⟨ps, t, _⟩ := g4 m mt
      rw [hm] at t; cases t
    have g7 : Tabs Ts H7 := (g5.kp0 k6).kp k7 fun P mP mo => mT (List.mem_singleton.mp mo ▸ mP)
    have eL7 := k47.get g4 eL4
    exact ⟨_, eL7, _, rfl, _, eL7, _, rfl, m, e1, e2, e3, o, cv, d, S, rfl, T7, Rc.pure (k4.trans k47) wd.2, pS, fun H8 k8 => ⟨true, rfl, if_no (by decide) ⟨⟨_, rfl⟩, k34.trans (k47.trans k8.in0), g7.kp0 k8⟩⟩⟩
  · subst hσ
    walk_at "wq"
    exact q _
end

/-! errors that keep a reason, made where an error is handled or where none is -/
abbrev s_Refused___init : Stmt := inClass (top 11) 0
abbrev N_Refused___init : List Str := ["self", "reason"]
theorem sc_Refused___init : FnScope N_Refused___init ["self", "reason"] (defScope s_Refused___init) := ⟨rfl, rfl, rfl, by decide +kernel, rfl, by decide +kernel, by decide +kernel⟩
section
variable {P : Program} {w : World} {K : PySem.W.Frag} {mg : Str → Option Value} {base : Heap} {f : Addr} {fd : FuncData}
theorem ok_rin_Refused (F : Fun K "__init__" "Refused.__init__" s_Refused___init f fd) : FnOk P w K mg base CX0 1 f fd ["self", "reason"] (spRin K) := by
  refine F.ok sc_Refused___init (fun vs H Q E h => ?_) (fun cdv A outer s H vs Q E hr h => ?_)
  · obtain ⟨a, C, z, rfl, _⟩ := h; rfl
  obtain ⟨a, C, z, rfl, ha, T, hno, q⟩ := h
  exact ⟨_, pss_one (ps_ost (pv 0) (pv 1)), _, rfl, _, rfl, a, C, rfl, T, hno, .inl ⟨ha, q⟩⟩
theorem okh_rin_Refused (F : Fun K "__init__" "Refused.__init__" s_Refused___init f fd) : FnG P w K mg base 1 f fd ["self", "reason"] (spRin K) := by
  refine fn_handled F sc_Refused___init (fun vs H Q E h => ?_) (fun cdv A outer s H vs Q E p hr h => ?_)
  · obtain ⟨a, C, z, rfl, _⟩ := h; rfl
  obtain ⟨a, C, z, rfl, ha, T, hno, q⟩ := h
  exact ⟨_, pss_one (ps_ost (pv 0) (pv 1)), _, rfl, _, rfl, a, C, rfl, T, hno, .inl ⟨ha, q⟩⟩
end

open PySem.Spec PyProof.Rows in
theorem all_mk {l : PySem.W.OpenLaw} {q : Program} {lo : List Str} {mean : ExcName → Option Value} {w : World} {K : PySem.W.Frag} {h : Heap} {mg mb : Str → Option Value} {fa : Addr} (T : Top q lo mean mg mb h) (X : K.In h) (G : h.Ns mainGlobals mg) (hfa : mg "law" = some (.ref fa))
    {C_Seals : Addr} (aC_Seals : PySem.W.nsIn K mainGlobals "Seals" = some (some (.ref C_Seals)))
    (pg_Seals : PySem.W.plainGet K C_Seals Str.empty = true)
    (hd_Seals : PySem.W.hasDictIn K C_Seals = true)
    (po_Seals : PySem.W.plainOver K C_Seals = true)
    (sa_Seals : PySem.W.findIn K (.ref C_Seals) "__setattr__" = some (some (.builtin "object.__setattr__")))
    (mk_Seals : PySem.W.makesIn K C_Seals = true)
    (kc_Seals : PySem.W.keepIn K (.ref C_Seals) = true)
    (na_marks_Seals : PySem.W.findIn K (.ref C_Seals) "_marks" = some none)
    {C_Trusted : Addr} (aC_Trusted : PySem.W.nsIn K mainGlobals "Trusted" = some (some (.ref C_Trusted)))
    (pg_Trusted : PySem.W.plainGet K C_Trusted Str.empty = true)
    (hd_Trusted : PySem.W.hasDictIn K C_Trusted = true)
    (po_Trusted : PySem.W.plainOver K C_Trusted = true)
    (sa_Trusted : PySem.W.findIn K (.ref C_Trusted) "__setattr__" = some (some (.builtin "object.__setattr__")))
    (mk_Trusted : PySem.W.makesIn K C_Trusted = true)
    (kc_Trusted : PySem.W.keepIn K (.ref C_Trusted) = true)
    (na_office_Trusted : PySem.W.findIn K (.ref C_Trusted) "_office" = some none)
    (na_documents_Trusted : PySem.W.findIn K (.ref C_Trusted) "_documents" = some none)
    (na_sealed_Trusted : PySem.W.findIn K (.ref C_Trusted) "_sealed" = some none)
    (na_roles_Trusted : PySem.W.findIn K (.ref C_Trusted) "_roles" = some none)
    (na_lists_Trusted : PySem.W.findIn K (.ref C_Trusted) "_lists" = some none)
    {oc0 kV0 doc0 pm0 cd0 ct0 : Value} {od0 an0 : Option Addr} {sl0 : Array (Option Value)} {f0 : Addr}
    (a0 : PySem.W.nsIn K mainGlobals "digest" = some (some (.ref f0)))
    (l0 : K.lookup f0 = some ⟨oc0, od0, .func (PySem.W.fnOf "digest" "digest" (defArgs s_digest) (defBody s_digest) (defScope s_digest) .none kV0 doc0 pm0 an0 cd0 ct0), sl0⟩) (cc0 : PySem.W.codeIn K cd0 "digest" = true) (k0 : PySem.W.keepIn K (.ref f0) = true)
    {oc1 kV1 doc1 pm1 cd1 ct1 : Value} {od1 an1 : Option Addr} {sl1 : Array (Option Value)} {f1 : Addr}
    (a1 : PySem.W.nsIn K mainGlobals "is_list_name" = some (some (.ref f1)))
    (l1 : K.lookup f1 = some ⟨oc1, od1, .func (PySem.W.fnOf "is_list_name" "is_list_name" (defArgs s_is_list_name) (defBody s_is_list_name) (defScope s_is_list_name) .none kV1 doc1 pm1 an1 cd1 ct1), sl1⟩) (cc1 : PySem.W.codeIn K cd1 "is_list_name" = true) (k1 : PySem.W.keepIn K (.ref f1) = true)
    {oc2 kV2 doc2 pm2 cd2 ct2 : Value} {od2 an2 : Option Addr} {sl2 : Array (Option Value)} {f2 : Addr}
    (a2 : PySem.W.nsIn K mainGlobals "is_key" = some (some (.ref f2)))
    (l2 : K.lookup f2 = some ⟨oc2, od2, .func (PySem.W.fnOf "is_key" "is_key" (defArgs s_is_key) (defBody s_is_key) (defScope s_is_key) .none kV2 doc2 pm2 an2 cd2 ct2), sl2⟩) (cc2 : PySem.W.codeIn K cd2 "is_key" = true) (k2 : PySem.W.keepIn K (.ref f2) = true)
    {oc3 kV3 doc3 pm3 cd3 ct3 : Value} {od3 an3 : Option Addr} {sl3 : Array (Option Value)} {f3 : Addr}
    (a3 : PySem.W.nsIn K mainGlobals "is_path" = some (some (.ref f3)))
    (l3 : K.lookup f3 = some ⟨oc3, od3, .func (PySem.W.fnOf "is_path" "is_path" (defArgs s_is_path) (defBody s_is_path) (defScope s_is_path) .none kV3 doc3 pm3 an3 cd3 ct3), sl3⟩) (cc3 : PySem.W.codeIn K cd3 "is_path" = true) (k3 : PySem.W.keepIn K (.ref f3) = true)
    {oc4 kV4 doc4 pm4 cd4 ct4 : Value} {od4 an4 : Option Addr} {sl4 : Array (Option Value)} {f4 : Addr}
    (a4 : PySem.W.nsIn K mainGlobals "is_pattern" = some (some (.ref f4)))
    (l4 : K.lookup f4 = some ⟨oc4, od4, .func (PySem.W.fnOf "is_pattern" "is_pattern" (defArgs s_is_pattern) (defBody s_is_pattern) (defScope s_is_pattern) .none kV4 doc4 pm4 an4 cd4 ct4), sl4⟩) (cc4 : PySem.W.codeIn K cd4 "is_pattern" = true) (k4 : PySem.W.keepIn K (.ref f4) = true)
    {oc5 kV5 doc5 pm5 cd5 ct5 : Value} {od5 an5 : Option Addr} {sl5 : Array (Option Value)} {f5 : Addr}
    (a5 : PySem.W.nsIn K mainGlobals "ascends" = some (some (.ref f5)))
    (l5 : K.lookup f5 = some ⟨oc5, od5, .func (PySem.W.fnOf "ascends" "ascends" (defArgs s_ascends) (defBody s_ascends) (defScope s_ascends) .none kV5 doc5 pm5 an5 cd5 ct5), sl5⟩) (cc5 : PySem.W.codeIn K cd5 "ascends" = true) (k5 : PySem.W.keepIn K (.ref f5) = true)
    {oc6 kV6 doc6 pm6 ct6 : Value} {od6 an6 : Option Addr} {sl6 : Array (Option Value)} {c6 Pt6 f6 : Addr}
    (a6 : PySem.W.nsIn K mainGlobals "_consists_of" = some (some (.ref f6)))
    (l6 : K.lookup f6 = some ⟨oc6, od6, .func (PySem.W.fnOf "_consists_of" "_consists_of" (defArgs s_consists_of) (defBody s_consists_of) (defScope s_consists_of) .none kV6 doc6 pm6 an6 (.ref c6) ct6), sl6⟩) (cc6 : PySem.W.codeIn K (.ref c6) "_consists_of" = true) (k6 : PySem.W.keepIn K (.ref f6) = true)
    {oc7 kV7 doc7 pm7 ct7 : Value} {od7 an7 : Option Addr} {sl7 : Array (Option Value)} {c7 Pt7 f7 : Addr}
    (a7 : PySem.W.nsIn K mainGlobals "_has_parts_of" = some (some (.ref f7)))
    (l7 : K.lookup f7 = some ⟨oc7, od7, .func (PySem.W.fnOf "_has_parts_of" "_has_parts_of" (defArgs s_has_parts_of) (defBody s_has_parts_of) (defScope s_has_parts_of) .none kV7 doc7 pm7 an7 (.ref c7) ct7), sl7⟩) (cc7 : PySem.W.codeIn K (.ref c7) "_has_parts_of" = true) (k7 : PySem.W.keepIn K (.ref f7) = true)
    {oc8 kV8 doc8 pm8 ct8 : Value} {od8 an8 : Option Addr} {sl8 : Array (Option Value)} {c8 Pt8 f8 : Addr}
    (a8 : PySem.W.nsIn K mainGlobals "is_printable" = some (some (.ref f8)))
    (l8 : K.lookup f8 = some ⟨oc8, od8, .func (PySem.W.fnOf "is_printable" "is_printable" (defArgs s_is_printable) (defBody s_is_printable) (defScope s_is_printable) .none kV8 doc8 pm8 an8 (.ref c8) ct8), sl8⟩) (cc8 : PySem.W.codeIn K (.ref c8) "is_printable" = true) (k8 : PySem.W.keepIn K (.ref f8) = true)
    {oc9 kV9 doc9 pm9 cd9 ct9 : Value} {od9 an9 : Option Addr} {sl9 : Array (Option Value)} {f9 : Addr}
    (a9 : PySem.W.nsIn K mainGlobals "is_integer" = some (some (.ref f9)))
    (l9 : K.lookup f9 = some ⟨oc9, od9, .func (PySem.W.fnOf "is_integer" "is_integer" (defArgs s_is_integer) (defBody s_is_integer) (defScope s_is_integer) .none kV9 doc9 pm9 an9 cd9 ct9), sl9⟩) (cc9 : PySem.W.codeIn K cd9 "is_integer" = true) (k9 : PySem.W.keepIn K (.ref f9) = true)
    {oc10 kV10 doc10 pm10 cd10 ct10 : Value} {od10 an10 : Option Addr} {sl10 : Array (Option Value)} {f10 : Addr}
    (a10 : PySem.W.nsIn K mainGlobals "decode" = some (some (.ref f10)))
    (l10 : K.lookup f10 = some ⟨oc10, od10, .func (PySem.W.fnOf "decode" "decode" (defArgs s_decode) (defBody s_decode) (defScope s_decode) .none kV10 doc10 pm10 an10 cd10 ct10), sl10⟩) (cc10 : PySem.W.codeIn K cd10 "decode" = true) (k10 : PySem.W.keepIn K (.ref f10) = true)
    {oc11 kV11 doc11 pm11 cd11 ct11 : Value} {od11 an11 : Option Addr} {sl11 : Array (Option Value)} {f11 : Addr}
    (a11 : PySem.W.nsIn K mainGlobals "_value_at" = some (some (.ref f11)))
    (l11 : K.lookup f11 = some ⟨oc11, od11, .func (PySem.W.fnOf "_value_at" "_value_at" (defArgs s_value_at) (defBody s_value_at) (defScope s_value_at) .none kV11 doc11 pm11 an11 cd11 ct11), sl11⟩) (cc11 : PySem.W.codeIn K cd11 "_value_at" = true) (k11 : PySem.W.keepIn K (.ref f11) = true)
    {oc12 kV12 doc12 pm12 cd12 ct12 : Value} {od12 an12 : Option Addr} {sl12 : Array (Option Value)} {f12 : Addr}
    (a12 : PySem.W.nsIn K mainGlobals "_tuple_at" = some (some (.ref f12)))
    (l12 : K.lookup f12 = some ⟨oc12, od12, .func (PySem.W.fnOf "_tuple_at" "_tuple_at" (defArgs s_tuple_at) (defBody s_tuple_at) (defScope s_tuple_at) .none kV12 doc12 pm12 an12 cd12 ct12), sl12⟩) (cc12 : PySem.W.codeIn K cd12 "_tuple_at" = true) (k12 : PySem.W.keepIn K (.ref f12) = true)
    {oc13 kV13 doc13 pm13 cd13 ct13 : Value} {od13 an13 : Option Addr} {sl13 : Array (Option Value)} {f13 : Addr}
    (a13 : PySem.W.nsIn K mainGlobals "_string_at" = some (some (.ref f13)))
    (l13 : K.lookup f13 = some ⟨oc13, od13, .func (PySem.W.fnOf "_string_at" "_string_at" (defArgs s_string_at) (defBody s_string_at) (defScope s_string_at) .none kV13 doc13 pm13 an13 cd13 ct13), sl13⟩) (cc13 : PySem.W.codeIn K cd13 "_string_at" = true) (k13 : PySem.W.keepIn K (.ref f13) = true)
    {oc14 kV14 doc14 pm14 cd14 ct14 : Value} {od14 an14 : Option Addr} {sl14 : Array (Option Value)} {f14 : Addr}
    (a14 : PySem.W.nsIn K mainGlobals "_end_of_digits" = some (some (.ref f14)))
    (l14 : K.lookup f14 = some ⟨oc14, od14, .func (PySem.W.fnOf "_end_of_digits" "_end_of_digits" (defArgs s_end_of_digits) (defBody s_end_of_digits) (defScope s_end_of_digits) .none kV14 doc14 pm14 an14 cd14 ct14), sl14⟩) (cc14 : PySem.W.codeIn K cd14 "_end_of_digits" = true) (k14 : PySem.W.keepIn K (.ref f14) = true)
    {oc15 kV15 doc15 pm15 cd15 ct15 : Value} {od15 an15 : Option Addr} {sl15 : Array (Option Value)} {f15 : Addr}
    (a15 : PySem.W.nsIn K mainGlobals "_number_of" = some (some (.ref f15)))
    (l15 : K.lookup f15 = some ⟨oc15, od15, .func (PySem.W.fnOf "_number_of" "_number_of" (defArgs s_number_of) (defBody s_number_of) (defScope s_number_of) .none kV15 doc15 pm15 an15 cd15 ct15), sl15⟩) (cc15 : PySem.W.codeIn K cd15 "_number_of" = true) (k15 : PySem.W.keepIn K (.ref f15) = true)
    {oc16 kV16 doc16 pm16 ct16 : Value} {od16 an16 : Option Addr} {sl16 : Array (Option Value)} {c16 Pt16 f16 : Addr}
    (a16 : PySem.W.nsIn K mainGlobals "is_role" = some (some (.ref f16)))
    (l16 : K.lookup f16 = some ⟨oc16, od16, .func (PySem.W.fnOf "is_role" "is_role" (defArgs s_is_role) (defBody s_is_role) (defScope s_is_role) .none kV16 doc16 pm16 an16 (.ref c16) ct16), sl16⟩) (cc16 : PySem.W.codeIn K (.ref c16) "is_role" = true) (k16 : PySem.W.keepIn K (.ref f16) = true)
    {oc17 kV17 doc17 pm17 ct17 : Value} {od17 an17 : Option Addr} {sl17 : Array (Option Value)} {c17 Pt17 f17 : Addr}
    (a17 : PySem.W.nsIn K mainGlobals "is_digest" = some (some (.ref f17)))
    (l17 : K.lookup f17 = some ⟨oc17, od17, .func (PySem.W.fnOf "is_digest" "is_digest" (defArgs s_is_digest) (defBody s_is_digest) (defScope s_is_digest) .none kV17 doc17 pm17 an17 (.ref c17) ct17), sl17⟩) (cc17 : PySem.W.codeIn K (.ref c17) "is_digest" = true) (k17 : PySem.W.keepIn K (.ref f17) = true)
    {oc18 kV18 doc18 pm18 ct18 : Value} {od18 an18 : Option Addr} {sl18 : Array (Option Value)} {c18 Pt18 f18 : Addr}
    (a18 : PySem.W.nsIn K mainGlobals "is_grant" = some (some (.ref f18)))
    (l18 : K.lookup f18 = some ⟨oc18, od18, .func (PySem.W.fnOf "is_grant" "is_grant" (defArgs s_is_grant) (defBody s_is_grant) (defScope s_is_grant) .none kV18 doc18 pm18 an18 (.ref c18) ct18), sl18⟩) (cc18 : PySem.W.codeIn K (.ref c18) "is_grant" = true) (k18 : PySem.W.keepIn K (.ref f18) = true)
    {oc19 kV19 doc19 pm19 ct19 : Value} {od19 an19 : Option Addr} {sl19 : Array (Option Value)} {c19 Pt19 f19 : Addr}
    (a19 : PySem.W.nsIn K mainGlobals "is_charter" = some (some (.ref f19)))
    (l19 : K.lookup f19 = some ⟨oc19, od19, .func (PySem.W.fnOf "is_charter" "is_charter" (defArgs s_is_charter) (defBody s_is_charter) (defScope s_is_charter) .none kV19 doc19 pm19 an19 (.ref c19) ct19), sl19⟩) (cc19 : PySem.W.codeIn K (.ref c19) "is_charter" = true) (k19 : PySem.W.keepIn K (.ref f19) = true)
    {oc20 kV20 doc20 pm20 cd20 ct20 : Value} {od20 an20 : Option Addr} {sl20 : Array (Option Value)} {f20 : Addr}
    (a20 : PySem.W.nsIn K mainGlobals "is_stamp" = some (some (.ref f20)))
    (l20 : K.lookup f20 = some ⟨oc20, od20, .func (PySem.W.fnOf "is_stamp" "is_stamp" (defArgs s_is_stamp) (defBody s_is_stamp) (defScope s_is_stamp) .none kV20 doc20 pm20 an20 cd20 ct20), sl20⟩) (cc20 : PySem.W.codeIn K cd20 "is_stamp" = true) (k20 : PySem.W.keepIn K (.ref f20) = true)
    {oc21 kV21 doc21 pm21 ct21 : Value} {od21 an21 : Option Addr} {sl21 : Array (Option Value)} {c21 Pt21 f21 : Addr}
    (a21 : PySem.W.nsIn K mainGlobals "is_shelf" = some (some (.ref f21)))
    (l21 : K.lookup f21 = some ⟨oc21, od21, .func (PySem.W.fnOf "is_shelf" "is_shelf" (defArgs s_is_shelf) (defBody s_is_shelf) (defScope s_is_shelf) .none kV21 doc21 pm21 an21 (.ref c21) ct21), sl21⟩) (cc21 : PySem.W.codeIn K (.ref c21) "is_shelf" = true) (k21 : PySem.W.keepIn K (.ref f21) = true)
    {oc22 kV22 doc22 pm22 ct22 : Value} {od22 an22 : Option Addr} {sl22 : Array (Option Value)} {c22 Pt22 f22 : Addr}
    (a22 : PySem.W.nsIn K mainGlobals "is_list" = some (some (.ref f22)))
    (l22 : K.lookup f22 = some ⟨oc22, od22, .func (PySem.W.fnOf "is_list" "is_list" (defArgs s_is_list) (defBody s_is_list) (defScope s_is_list) .none kV22 doc22 pm22 an22 (.ref c22) ct22), sl22⟩) (cc22 : PySem.W.codeIn K (.ref c22) "is_list" = true) (k22 : PySem.W.keepIn K (.ref f22) = true)
    {oc23 kV23 doc23 pm23 cd23 ct23 : Value} {od23 an23 : Option Addr} {sl23 : Array (Option Value)} {f23 : Addr}
    (a23 : PySem.W.nsIn K mainGlobals "is_amount" = some (some (.ref f23)))
    (l23 : K.lookup f23 = some ⟨oc23, od23, .func (PySem.W.fnOf "is_amount" "is_amount" (defArgs s_is_amount) (defBody s_is_amount) (defScope s_is_amount) .none kV23 doc23 pm23 an23 cd23 ct23), sl23⟩) (cc23 : PySem.W.codeIn K cd23 "is_amount" = true) (k23 : PySem.W.keepIn K (.ref f23) = true)
    {oc24 kV24 doc24 pm24 cd24 ct24 : Value} {od24 an24 : Option Addr} {sl24 : Array (Option Value)} {f24 : Addr}
    (a24 : PySem.W.nsIn K mainGlobals "read" = some (some (.ref f24)))
    (l24 : K.lookup f24 = some ⟨oc24, od24, .func (PySem.W.fnOf "read" "read" (defArgs s_read) (defBody s_read) (defScope s_read) .none kV24 doc24 pm24 an24 cd24 ct24), sl24⟩) (cc24 : PySem.W.codeIn K cd24 "read" = true) (k24 : PySem.W.keepIn K (.ref f24) = true)
    {oc25 kV25 doc25 pm25 cd25 ct25 : Value} {od25 an25 : Option Addr} {sl25 : Array (Option Value)} {f25 : Addr}
    (a25 : PySem.W.nsIn K mainGlobals "_is_tuple_of" = some (some (.ref f25)))
    (l25 : K.lookup f25 = some ⟨oc25, od25, .func (PySem.W.fnOf "_is_tuple_of" "_is_tuple_of" (defArgs s_is_tuple_of) (defBody s_is_tuple_of) (defScope s_is_tuple_of) .none kV25 doc25 pm25 an25 cd25 ct25), sl25⟩) (cc25 : PySem.W.codeIn K cd25 "_is_tuple_of" = true) (k25 : PySem.W.keepIn K (.ref f25) = true)
    {oc26 kV26 doc26 pm26 cd26 ct26 : Value} {od26 an26 : Option Addr} {sl26 : Array (Option Value)} {f26 : Addr}
    (a26 : PySem.W.nsIn K mainGlobals "_is_tuple_within" = some (some (.ref f26)))
    (l26 : K.lookup f26 = some ⟨oc26, od26, .func (PySem.W.fnOf "_is_tuple_within" "_is_tuple_within" (defArgs s_is_tuple_within) (defBody s_is_tuple_within) (defScope s_is_tuple_within) .none kV26 doc26 pm26 an26 cd26 ct26), sl26⟩) (cc26 : PySem.W.codeIn K cd26 "_is_tuple_within" = true) (k26 : PySem.W.keepIn K (.ref f26) = true)
    {oc27 kV27 doc27 pm27 cd27 ct27 : Value} {od27 an27 : Option Addr} {sl27 : Array (Option Value)} {f27 : Addr}
    (a27 : PySem.W.nsIn K mainGlobals "_is_headed" = some (some (.ref f27)))
    (l27 : K.lookup f27 = some ⟨oc27, od27, .func (PySem.W.fnOf "_is_headed" "_is_headed" (defArgs s_is_headed) (defBody s_is_headed) (defScope s_is_headed) .none kV27 doc27 pm27 an27 cd27 ct27), sl27⟩) (cc27 : PySem.W.codeIn K cd27 "_is_headed" = true) (k27 : PySem.W.keepIn K (.ref f27) = true)
    {oc28 kV28 doc28 pm28 cd28 ct28 : Value} {od28 an28 : Option Addr} {sl28 : Array (Option Value)} {f28 : Addr}
    (a28 : PySem.W.nsIn K mainGlobals "_is_version" = some (some (.ref f28)))
    (l28 : K.lookup f28 = some ⟨oc28, od28, .func (PySem.W.fnOf "_is_version" "_is_version" (defArgs s_is_version) (defBody s_is_version) (defScope s_is_version) .none kV28 doc28 pm28 an28 cd28 ct28), sl28⟩) (cc28 : PySem.W.codeIn K cd28 "_is_version" = true) (k28 : PySem.W.keepIn K (.ref f28) = true)
    {oc29 kV29 doc29 pm29 cd29 ct29 : Value} {od29 an29 : Option Addr} {sl29 : Array (Option Value)} {f29 : Addr}
    (a29 : PySem.W.nsIn K mainGlobals "_is_entry" = some (some (.ref f29)))
    (l29 : K.lookup f29 = some ⟨oc29, od29, .func (PySem.W.fnOf "_is_entry" "_is_entry" (defArgs s_is_entry) (defBody s_is_entry) (defScope s_is_entry) .none kV29 doc29 pm29 an29 cd29 ct29), sl29⟩) (cc29 : PySem.W.codeIn K cd29 "_is_entry" = true) (k29 : PySem.W.keepIn K (.ref f29) = true)
    {oc30 kV30 doc30 pm30 cd30 ct30 : Value} {od30 an30 : Option Addr} {sl30 : Array (Option Value)} {f30 : Addr}
    (a30 : PySem.W.nsIn K mainGlobals "_is_named_entry" = some (some (.ref f30)))
    (l30 : K.lookup f30 = some ⟨oc30, od30, .func (PySem.W.fnOf "_is_named_entry" "_is_named_entry" (defArgs s_is_named_entry) (defBody s_is_named_entry) (defScope s_is_named_entry) .none kV30 doc30 pm30 an30 cd30 ct30), sl30⟩) (cc30 : PySem.W.codeIn K cd30 "_is_named_entry" = true) (k30 : PySem.W.keepIn K (.ref f30) = true)
    {oc31 kV31 doc31 pm31 cd31 ct31 : Value} {od31 an31 : Option Addr} {sl31 : Array (Option Value)} {f31 : Addr}
    (a31 : PySem.W.nsIn K mainGlobals "_is_good" = some (some (.ref f31)))
    (l31 : K.lookup f31 = some ⟨oc31, od31, .func (PySem.W.fnOf "_is_good" "_is_good" (defArgs s_is_good) (defBody s_is_good) (defScope s_is_good) .none kV31 doc31 pm31 an31 cd31 ct31), sl31⟩) (cc31 : PySem.W.codeIn K cd31 "_is_good" = true) (k31 : PySem.W.keepIn K (.ref f31) = true)
    {oc32 kV32 doc32 pm32 cd32 ct32 : Value} {od32 an32 : Option Addr} {sl32 : Array (Option Value)} {f32 : Addr}
    (a32 : PySem.W.nsIn K mainGlobals "_is_document" = some (some (.ref f32)))
    (l32 : K.lookup f32 = some ⟨oc32, od32, .func (PySem.W.fnOf "_is_document" "_is_document" (defArgs s_is_document) (defBody s_is_document) (defScope s_is_document) .none kV32 doc32 pm32 an32 cd32 ct32), sl32⟩) (cc32 : PySem.W.codeIn K cd32 "_is_document" = true) (k32 : PySem.W.keepIn K (.ref f32) = true)
    {oc33 kV33 doc33 pm33 cd33 ct33 : Value} {od33 an33 : Option Addr} {sl33 : Array (Option Value)} {f33 : Addr}
    (a33 : PySem.W.nsIn K mainGlobals "opened" = some (some (.ref f33)))
    (l33 : K.lookup f33 = some ⟨oc33, od33, .func (PySem.W.fnOf "opened" "opened" (defArgs s_opened) (defBody s_opened) (defScope s_opened) .none kV33 doc33 pm33 an33 cd33 ct33), sl33⟩) (cc33 : PySem.W.codeIn K cd33 "opened" = true) (k33 : PySem.W.keepIn K (.ref f33) = true)
    {oc34 kV34 doc34 pm34 ct34 : Value} {od34 an34 : Option Addr} {sl34 : Array (Option Value)} {c34 Pt34 f34 : Addr}
    (a34 : PySem.W.nsIn K mainGlobals "support" = some (some (.ref f34)))
    (l34 : K.lookup f34 = some ⟨oc34, od34, .func (PySem.W.fnOf "support" "support" (defArgs s_support) (defBody s_support) (defScope s_support) .none kV34 doc34 pm34 an34 (.ref c34) ct34), sl34⟩) (cc34 : PySem.W.codeIn K (.ref c34) "support" = true) (k34 : PySem.W.keepIn K (.ref f34) = true)
    {oc35 kV35 doc35 pm35 ct35 : Value} {od35 an35 : Option Addr} {sl35 : Array (Option Value)} {c35 Pt35 f35 : Addr}
    (a35 : PySem.W.nsIn K mainGlobals "_is_content" = some (some (.ref f35)))
    (l35 : K.lookup f35 = some ⟨oc35, od35, .func (PySem.W.fnOf "_is_content" "_is_content" (defArgs s_is_content) (defBody s_is_content) (defScope s_is_content) .none kV35 doc35 pm35 an35 (.ref c35) ct35), sl35⟩) (cc35 : PySem.W.codeIn K (.ref c35) "_is_content" = true) (k35 : PySem.W.keepIn K (.ref f35) = true)
    {oc36 kV36 doc36 pm36 cd36 ct36 : Value} {od36 an36 : Option Addr} {sl36 : Array (Option Value)} {f36 : Addr}
    (a36 : PySem.W.nsIn K mainGlobals "_is_seal" = some (some (.ref f36)))
    (l36 : K.lookup f36 = some ⟨oc36, od36, .func (PySem.W.fnOf "_is_seal" "_is_seal" (defArgs s_is_seal) (defBody s_is_seal) (defScope s_is_seal) .none kV36 doc36 pm36 an36 cd36 ct36), sl36⟩) (cc36 : PySem.W.codeIn K cd36 "_is_seal" = true) (k36 : PySem.W.keepIn K (.ref f36) = true)
    {oc37 kV37 doc37 pm37 cd37 ct37 : Value} {od37 an37 : Option Addr} {sl37 : Array (Option Value)} {f37 : Addr}
    (a37 : PySem.W.findIn K (.ref C_Trusted) "__init__" = some (some (.ref f37))) (i37 : PySem.W.isFn K (.ref f37) = true)
    (l37 : K.lookup f37 = some ⟨oc37, od37, .func (PySem.W.fnOf "__init__" "Trusted.__init__" (defArgs s_Trusted___init) (defBody s_Trusted___init) (defScope s_Trusted___init) .none kV37 doc37 pm37 an37 cd37 ct37), sl37⟩) (cc37 : PySem.W.codeIn K cd37 "Trusted.__init__" = true) (k37 : PySem.W.keepIn K (.ref f37) = true)
    {oc38 kV38 doc38 pm38 cd38 ct38 : Value} {od38 an38 : Option Addr} {sl38 : Array (Option Value)} {f38 : Addr}
    (a38 : PySem.W.findIn K (.ref C_Trusted) "outdated" = some (some (.ref f38))) (i38 : PySem.W.isFn K (.ref f38) = true)
    (l38 : K.lookup f38 = some ⟨oc38, od38, .func (PySem.W.fnOf "outdated" "Trusted.outdated" (defArgs s_Trusted_outdated) (defBody s_Trusted_outdated) (defScope s_Trusted_outdated) .none kV38 doc38 pm38 an38 cd38 ct38), sl38⟩) (cc38 : PySem.W.codeIn K cd38 "Trusted.outdated" = true) (k38 : PySem.W.keepIn K (.ref f38) = true)
    {oc39 kV39 doc39 pm39 cd39 ct39 : Value} {od39 an39 : Option Addr} {sl39 : Array (Option Value)} {f39 : Addr}
    (a39 : PySem.W.findIn K (.ref C_Trusted) "forget" = some (some (.ref f39))) (i39 : PySem.W.isFn K (.ref f39) = true)
    (l39 : K.lookup f39 = some ⟨oc39, od39, .func (PySem.W.fnOf "forget" "Trusted.forget" (defArgs s_Trusted_forget) (defBody s_Trusted_forget) (defScope s_Trusted_forget) .none kV39 doc39 pm39 an39 cd39 ct39), sl39⟩) (cc39 : PySem.W.codeIn K cd39 "Trusted.forget" = true) (k39 : PySem.W.keepIn K (.ref f39) = true)
    {oc40 kV40 doc40 pm40 cd40 ct40 : Value} {od40 an40 : Option Addr} {sl40 : Array (Option Value)} {f40 : Addr}
    (a40 : PySem.W.findIn K (.ref C_Trusted) "is_current" = some (some (.ref f40))) (i40 : PySem.W.isFn K (.ref f40) = true)
    (l40 : K.lookup f40 = some ⟨oc40, od40, .func (PySem.W.fnOf "is_current" "Trusted.is_current" (defArgs s_Trusted_is_current) (defBody s_Trusted_is_current) (defScope s_Trusted_is_current) .none kV40 doc40 pm40 an40 cd40 ct40), sl40⟩) (cc40 : PySem.W.codeIn K cd40 "Trusted.is_current" = true) (k40 : PySem.W.keepIn K (.ref f40) = true)
    {oc41 kV41 doc41 pm41 cd41 ct41 : Value} {od41 an41 : Option Addr} {sl41 : Array (Option Value)} {f41 : Addr}
    (a41 : PySem.W.findIn K (.ref C_Trusted) "charter" = some (some (.ref f41))) (i41 : PySem.W.isFn K (.ref f41) = true)
    (l41 : K.lookup f41 = some ⟨oc41, od41, .func (PySem.W.fnOf "charter" "Trusted.charter" (defArgs s_Trusted_charter) (defBody s_Trusted_charter) (defScope s_Trusted_charter) .none kV41 doc41 pm41 an41 cd41 ct41), sl41⟩) (cc41 : PySem.W.codeIn K cd41 "Trusted.charter" = true) (k41 : PySem.W.keepIn K (.ref f41) = true)
    {oc42 kV42 doc42 pm42 cd42 ct42 : Value} {od42 an42 : Option Addr} {sl42 : Array (Option Value)} {f42 : Addr}
    (a42 : PySem.W.findIn K (.ref C_Trusted) "stamp" = some (some (.ref f42))) (i42 : PySem.W.isFn K (.ref f42) = true)
    (l42 : K.lookup f42 = some ⟨oc42, od42, .func (PySem.W.fnOf "stamp" "Trusted.stamp" (defArgs s_Trusted_stamp) (defBody s_Trusted_stamp) (defScope s_Trusted_stamp) .none kV42 doc42 pm42 an42 cd42 ct42), sl42⟩) (cc42 : PySem.W.codeIn K cd42 "Trusted.stamp" = true) (k42 : PySem.W.keepIn K (.ref f42) = true)
    {oc43 kV43 doc43 pm43 cd43 ct43 : Value} {od43 an43 : Option Addr} {sl43 : Array (Option Value)} {f43 : Addr}
    (a43 : PySem.W.findIn K (.ref C_Trusted) "shelf" = some (some (.ref f43))) (i43 : PySem.W.isFn K (.ref f43) = true)
    (l43 : K.lookup f43 = some ⟨oc43, od43, .func (PySem.W.fnOf "shelf" "Trusted.shelf" (defArgs s_Trusted_shelf) (defBody s_Trusted_shelf) (defScope s_Trusted_shelf) .none kV43 doc43 pm43 an43 cd43 ct43), sl43⟩) (cc43 : PySem.W.codeIn K cd43 "Trusted.shelf" = true) (k43 : PySem.W.keepIn K (.ref f43) = true)
    {oc44 kV44 doc44 pm44 cd44 ct44 : Value} {od44 an44 : Option Addr} {sl44 : Array (Option Value)} {f44 : Addr}
    (a44 : PySem.W.findIn K (.ref C_Trusted) "list_of" = some (some (.ref f44))) (i44 : PySem.W.isFn K (.ref f44) = true)
    (l44 : K.lookup f44 = some ⟨oc44, od44, .func (PySem.W.fnOf "list_of" "Trusted.list_of" (defArgs s_Trusted_list_of) (defBody s_Trusted_list_of) (defScope s_Trusted_list_of) .none kV44 doc44 pm44 an44 cd44 ct44), sl44⟩) (cc44 : PySem.W.codeIn K cd44 "Trusted.list_of" = true) (k44 : PySem.W.keepIn K (.ref f44) = true)
    {oc45 kV45 doc45 pm45 cd45 ct45 : Value} {od45 an45 : Option Addr} {sl45 : Array (Option Value)} {f45 : Addr}
    (a45 : PySem.W.findIn K (.ref C_Trusted) "list_role" = some (some (.ref f45))) (i45 : PySem.W.isFn K (.ref f45) = true)
    (l45 : K.lookup f45 = some ⟨oc45, od45, .func (PySem.W.fnOf "list_role" "Trusted.list_role" (defArgs s_Trusted_list_role) (defBody s_Trusted_list_role) (defScope s_Trusted_list_role) .none kV45 doc45 pm45 an45 cd45 ct45), sl45⟩) (cc45 : PySem.W.codeIn K cd45 "Trusted.list_role" = true) (k45 : PySem.W.keepIn K (.ref f45) = true)
    {oc46 kV46 doc46 pm46 cd46 ct46 : Value} {od46 an46 : Option Addr} {sl46 : Array (Option Value)} {f46 : Addr}
    (a46 : PySem.W.findIn K (.ref C_Trusted) "sealed" = some (some (.ref f46))) (i46 : PySem.W.isFn K (.ref f46) = true)
    (l46 : K.lookup f46 = some ⟨oc46, od46, .func (PySem.W.fnOf "sealed" "Trusted.sealed" (defArgs s_Trusted_sealed) (defBody s_Trusted_sealed) (defScope s_Trusted_sealed) .none kV46 doc46 pm46 an46 cd46 ct46), sl46⟩) (cc46 : PySem.W.codeIn K cd46 "Trusted.sealed" = true) (k46 : PySem.W.keepIn K (.ref f46) = true)
    {oc47 kV47 doc47 pm47 cd47 ct47 : Value} {od47 an47 : Option Addr} {sl47 : Array (Option Value)} {f47 : Addr}
    (a47 : PySem.W.findIn K (.ref C_Trusted) "roles" = some (some (.ref f47))) (i47 : PySem.W.isFn K (.ref f47) = true)
    (l47 : K.lookup f47 = some ⟨oc47, od47, .func (PySem.W.fnOf "roles" "Trusted.roles" (defArgs s_Trusted_roles) (defBody s_Trusted_roles) (defScope s_Trusted_roles) .none kV47 doc47 pm47 an47 cd47 ct47), sl47⟩) (cc47 : PySem.W.codeIn K cd47 "Trusted.roles" = true) (k47 : PySem.W.keepIn K (.ref f47) = true)
    {oc48 kV48 doc48 pm48 cd48 ct48 : Value} {od48 an48 : Option Addr} {sl48 : Array (Option Value)} {f48 : Addr}
    (a48 : PySem.W.findIn K (.ref C_Trusted) "_present_roles" = some (some (.ref f48))) (i48 : PySem.W.isFn K (.ref f48) = true)
    (l48 : K.lookup f48 = some ⟨oc48, od48, .func (PySem.W.fnOf "_present_roles" "Trusted._present_roles" (defArgs s_Trusted__present_roles) (defBody s_Trusted__present_roles) (defScope s_Trusted__present_roles) .none kV48 doc48 pm48 an48 cd48 ct48), sl48⟩) (cc48 : PySem.W.codeIn K cd48 "Trusted._present_roles" = true) (k48 : PySem.W.keepIn K (.ref f48) = true)
    {oc49 kV49 doc49 pm49 cd49 ct49 : Value} {od49 an49 : Option Addr} {sl49 : Array (Option Value)} {f49 : Addr}
    (a49 : PySem.W.nsIn K mainGlobals "role_of" = some (some (.ref f49)))
    (l49 : K.lookup f49 = some ⟨oc49, od49, .func (PySem.W.fnOf "role_of" "role_of" (defArgs s_role_of) (defBody s_role_of) (defScope s_role_of) .none kV49 doc49 pm49 an49 cd49 ct49), sl49⟩) (cc49 : PySem.W.codeIn K cd49 "role_of" = true) (k49 : PySem.W.keepIn K (.ref f49) = true)
    {oc50 kV50 doc50 pm50 cd50 ct50 : Value} {od50 an50 : Option Addr} {sl50 : Array (Option Value)} {f50 : Addr}
    (a50 : PySem.W.nsIn K mainGlobals "_document_in" = some (some (.ref f50)))
    (l50 : K.lookup f50 = some ⟨oc50, od50, .func (PySem.W.fnOf "_document_in" "_document_in" (defArgs s_document_in) (defBody s_document_in) (defScope s_document_in) .none kV50 doc50 pm50 an50 cd50 ct50), sl50⟩) (cc50 : PySem.W.codeIn K cd50 "_document_in" = true) (k50 : PySem.W.keepIn K (.ref f50) = true)
    {oc51 kV51 doc51 pm51 cd51 ct51 : Value} {od51 an51 : Option Addr} {sl51 : Array (Option Value)} {f51 : Addr}
    (a51 : PySem.W.nsIn K mainGlobals "_require_signed" = some (some (.ref f51)))
    (l51 : K.lookup f51 = some ⟨oc51, od51, .func (PySem.W.fnOf "_require_signed" "_require_signed" (defArgs s_require_signed) (defBody s_require_signed) (defScope s_require_signed) .none kV51 doc51 pm51 an51 cd51 ct51), sl51⟩) (cc51 : PySem.W.codeIn K cd51 "_require_signed" = true) (k51 : PySem.W.keepIn K (.ref f51) = true)
    {oc52 kV52 doc52 pm52 cd52 ct52 : Value} {od52 an52 : Option Addr} {sl52 : Array (Option Value)} {f52 : Addr}
    (a52 : PySem.W.findIn K (.ref C_Seals) "__init__" = some (some (.ref f52))) (i52 : PySem.W.isFn K (.ref f52) = true)
    (l52 : K.lookup f52 = some ⟨oc52, od52, .func (PySem.W.fnOf "__init__" "Seals.__init__" (defArgs s_Seals___init) (defBody s_Seals___init) (defScope s_Seals___init) .none kV52 doc52 pm52 an52 cd52 ct52), sl52⟩) (cc52 : PySem.W.codeIn K cd52 "Seals.__init__" = true) (k52 : PySem.W.keepIn K (.ref f52) = true)
    {oc53 kV53 doc53 pm53 cd53 ct53 : Value} {od53 an53 : Option Addr} {sl53 : Array (Option Value)} {f53 : Addr}
    (a53 : PySem.W.findIn K (.ref C_Seals) "make" = some (some (.ref f53))) (i53 : PySem.W.isFn K (.ref f53) = true)
    (l53 : K.lookup f53 = some ⟨oc53, od53, .func (PySem.W.fnOf "make" "Seals.make" (defArgs s_Seals_make) (defBody s_Seals_make) (defScope s_Seals_make) .none kV53 doc53 pm53 an53 cd53 ct53), sl53⟩) (cc53 : PySem.W.codeIn K cd53 "Seals.make" = true) (k53 : PySem.W.keepIn K (.ref f53) = true)
    {oc54 kV54 doc54 pm54 cd54 ct54 : Value} {od54 an54 : Option Addr} {sl54 : Array (Option Value)} {f54 : Addr}
    (a54 : PySem.W.findIn K (.ref C_Seals) "holds" = some (some (.ref f54))) (i54 : PySem.W.isFn K (.ref f54) = true)
    (l54 : K.lookup f54 = some ⟨oc54, od54, .func (PySem.W.fnOf "holds" "Seals.holds" (defArgs s_Seals_holds) (defBody s_Seals_holds) (defScope s_Seals_holds) .none kV54 doc54 pm54 an54 cd54 ct54), sl54⟩) (cc54 : PySem.W.codeIn K cd54 "Seals.holds" = true) (k54 : PySem.W.keepIn K (.ref f54) = true)
    {oc55 kV55 doc55 pm55 cd55 ct55 : Value} {od55 an55 : Option Addr} {sl55 : Array (Option Value)} {f55 : Addr}
    (a55 : PySem.W.nsIn K mainGlobals "_law_cell" = some (some (.ref f55)))
    (l55 : K.lookup f55 = some ⟨oc55, od55, .func (PySem.W.fnOf "_law_cell" "_law_cell" (defArgs s_law_cell) (defBody s_law_cell) (defScope s_law_cell) .none kV55 doc55 pm55 an55 cd55 ct55), sl55⟩) (cc55 : PySem.W.codeIn K cd55 "_law_cell" = true) (k55 : PySem.W.keepIn K (.ref f55) = true)
    {oc56 kV56 doc56 pm56 cd56 ct56 : Value} {od56 an56 : Option Addr} {sl56 : Array (Option Value)} {f56 : Addr}
    (a56 : PySem.W.nsIn K mainGlobals "_law_stream" = some (some (.ref f56)))
    (l56 : K.lookup f56 = some ⟨oc56, od56, .func (PySem.W.fnOf "_law_stream" "_law_stream" (defArgs s_law_stream) (defBody s_law_stream) (defScope s_law_stream) .none kV56 doc56 pm56 an56 cd56 ct56), sl56⟩) (cc56 : PySem.W.codeIn K cd56 "_law_stream" = true) (k56 : PySem.W.keepIn K (.ref f56) = true)
    {oc57 kV57 doc57 pm57 cd57 ct57 : Value} {od57 an57 : Option Addr} {sl57 : Array (Option Value)} {f57 : Addr}
    (a57 : PySem.W.nsIn K mainGlobals "_law_take" = some (some (.ref f57)))
    (l57 : K.lookup f57 = some ⟨oc57, od57, .func (PySem.W.fnOf "_law_take" "_law_take" (defArgs s_law_take) (defBody s_law_take) (defScope s_law_take) .none kV57 doc57 pm57 an57 cd57 ct57), sl57⟩) (cc57 : PySem.W.codeIn K cd57 "_law_take" = true) (k57 : PySem.W.keepIn K (.ref f57) = true)
    {oc58 kV58 doc58 pm58 cd58 ct58 : Value} {od58 an58 : Option Addr} {sl58 : Array (Option Value)} {f58 : Addr}
    (a58 : PySem.W.nsIn K mainGlobals "_law_once" = some (some (.ref f58)))
    (l58 : K.lookup f58 = some ⟨oc58, od58, .func (PySem.W.fnOf "_law_once" "_law_once" (defArgs s_law_once) (defBody s_law_once) (defScope s_law_once) .none kV58 doc58 pm58 an58 cd58 ct58), sl58⟩) (cc58 : PySem.W.codeIn K cd58 "_law_once" = true) (k58 : PySem.W.keepIn K (.ref f58) = true)
    {oc59 kV59 doc59 pm59 cd59 ct59 : Value} {od59 an59 : Option Addr} {sl59 : Array (Option Value)} {f59 : Addr}
    (a59 : PySem.W.nsIn K mainGlobals "_law_digest" = some (some (.ref f59)))
    (l59 : K.lookup f59 = some ⟨oc59, od59, .func (PySem.W.fnOf "_law_digest" "_law_digest" (defArgs s_law_digest) (defBody s_law_digest) (defScope s_law_digest) .none kV59 doc59 pm59 an59 cd59 ct59), sl59⟩) (cc59 : PySem.W.codeIn K cd59 "_law_digest" = true) (k59 : PySem.W.keepIn K (.ref f59) = true)
    {oc60 kV60 doc60 pm60 cd60 ct60 : Value} {od60 an60 : Option Addr} {sl60 : Array (Option Value)} {f60 : Addr}
    (a60 : PySem.W.nsIn K mainGlobals "_law_says" = some (some (.ref f60)))
    (l60 : K.lookup f60 = some ⟨oc60, od60, .func (PySem.W.fnOf "_law_says" "_law_says" (defArgs s_law_says) (defBody s_law_says) (defScope s_law_says) .none kV60 doc60 pm60 an60 cd60 ct60), sl60⟩) (cc60 : PySem.W.codeIn K cd60 "_law_says" = true) (k60 : PySem.W.keepIn K (.ref f60) = true)
    {oc61 kV61 doc61 pm61 cd61 ct61 : Value} {od61 an61 : Option Addr} {sl61 : Array (Option Value)} {f61 : Addr}
    (a61 : PySem.W.nsIn K mainGlobals "_law_text" = some (some (.ref f61)))
    (l61 : K.lookup f61 = some ⟨oc61, od61, .func (PySem.W.fnOf "_law_text" "_law_text" (defArgs s_law_text) (defBody s_law_text) (defScope s_law_text) .none kV61 doc61 pm61 an61 cd61 ct61), sl61⟩) (cc61 : PySem.W.codeIn K cd61 "_law_text" = true) (k61 : PySem.W.keepIn K (.ref f61) = true)
    {oc62 kV62 doc62 pm62 cd62 ct62 : Value} {od62 an62 : Option Addr} {sl62 : Array (Option Value)} {f62 : Addr}
    (a62 : PySem.W.nsIn K mainGlobals "_law_same" = some (some (.ref f62)))
    (l62 : K.lookup f62 = some ⟨oc62, od62, .func (PySem.W.fnOf "_law_same" "_law_same" (defArgs s_law_same) (defBody s_law_same) (defScope s_law_same) .none kV62 doc62 pm62 an62 cd62 ct62), sl62⟩) (cc62 : PySem.W.codeIn K cd62 "_law_same" = true) (k62 : PySem.W.keepIn K (.ref f62) = true)
    {oc63 kV63 doc63 pm63 cd63 ct63 : Value} {od63 an63 : Option Addr} {sl63 : Array (Option Value)} {f63 : Addr}
    (a63 : PySem.W.nsIn K mainGlobals "_law_keys" = some (some (.ref f63)))
    (l63 : K.lookup f63 = some ⟨oc63, od63, .func (PySem.W.fnOf "_law_keys" "_law_keys" (defArgs s_law_keys) (defBody s_law_keys) (defScope s_law_keys) .none kV63 doc63 pm63 an63 cd63 ct63), sl63⟩) (cc63 : PySem.W.codeIn K cd63 "_law_keys" = true) (k63 : PySem.W.keepIn K (.ref f63) = true)
    {oc64 kV64 doc64 pm64 cd64 ct64 : Value} {od64 an64 : Option Addr} {sl64 : Array (Option Value)} {f64 : Addr}
    (a64 : PySem.W.nsIn K mainGlobals "_law_role" = some (some (.ref f64)))
    (l64 : K.lookup f64 = some ⟨oc64, od64, .func (PySem.W.fnOf "_law_role" "_law_role" (defArgs s_law_role) (defBody s_law_role) (defScope s_law_role) .none kV64 doc64 pm64 an64 cd64 ct64), sl64⟩) (cc64 : PySem.W.codeIn K cd64 "_law_role" = true) (k64 : PySem.W.keepIn K (.ref f64) = true)
    {oc65 kV65 doc65 pm65 cd65 ct65 : Value} {od65 an65 : Option Addr} {sl65 : Array (Option Value)} {f65 : Addr}
    (a65 : PySem.W.nsIn K mainGlobals "_law_time" = some (some (.ref f65)))
    (l65 : K.lookup f65 = some ⟨oc65, od65, .func (PySem.W.fnOf "_law_time" "_law_time" (defArgs s_law_time) (defBody s_law_time) (defScope s_law_time) .none kV65 doc65 pm65 an65 cd65 ct65), sl65⟩) (cc65 : PySem.W.codeIn K cd65 "_law_time" = true) (k65 : PySem.W.keepIn K (.ref f65) = true)
    {oc66 kV66 doc66 pm66 cd66 ct66 : Value} {od66 an66 : Option Addr} {sl66 : Array (Option Value)} {f66 : Addr}
    (a66 : PySem.W.nsIn K mainGlobals "_law_pairs" = some (some (.ref f66)))
    (l66 : K.lookup f66 = some ⟨oc66, od66, .func (PySem.W.fnOf "_law_pairs" "_law_pairs" (defArgs s_law_pairs) (defBody s_law_pairs) (defScope s_law_pairs) .none kV66 doc66 pm66 an66 cd66 ct66), sl66⟩) (cc66 : PySem.W.codeIn K cd66 "_law_pairs" = true) (k66 : PySem.W.keepIn K (.ref f66) = true)
    {oc67 kV67 doc67 pm67 cd67 ct67 : Value} {od67 an67 : Option Addr} {sl67 : Array (Option Value)} {f67 : Addr}
    (a67 : PySem.W.nsIn K mainGlobals "_law_first" = some (some (.ref f67)))
    (l67 : K.lookup f67 = some ⟨oc67, od67, .func (PySem.W.fnOf "_law_first" "_law_first" (defArgs s_law_first) (defBody s_law_first) (defScope s_law_first) .none kV67 doc67 pm67 an67 cd67 ct67), sl67⟩) (cc67 : PySem.W.codeIn K cd67 "_law_first" = true) (k67 : PySem.W.keepIn K (.ref f67) = true)
    {oc68 kV68 doc68 pm68 cd68 ct68 : Value} {od68 an68 : Option Addr} {sl68 : Array (Option Value)} {f68 : Addr}
    (a68 : PySem.W.nsIn K mainGlobals "_law_refusal" = some (some (.ref f68)))
    (l68 : K.lookup f68 = some ⟨oc68, od68, .func (PySem.W.fnOf "_law_refusal" "_law_refusal" (defArgs s_law_refusal) (defBody s_law_refusal) (defScope s_law_refusal) .none kV68 doc68 pm68 an68 cd68 ct68), sl68⟩) (cc68 : PySem.W.codeIn K cd68 "_law_refusal" = true) (k68 : PySem.W.keepIn K (.ref f68) = true)
    {oc69 kV69 doc69 pm69 cd69 ct69 : Value} {od69 an69 : Option Addr} {sl69 : Array (Option Value)} {f69 : Addr}
    (a69 : PySem.W.nsIn K mainGlobals "_law_bare" = some (some (.ref f69)))
    (l69 : K.lookup f69 = some ⟨oc69, od69, .func (PySem.W.fnOf "_law_bare" "_law_bare" (defArgs s_law_bare) (defBody s_law_bare) (defScope s_law_bare) .none kV69 doc69 pm69 an69 cd69 ct69), sl69⟩) (cc69 : PySem.W.codeIn K cd69 "_law_bare" = true) (k69 : PySem.W.keepIn K (.ref f69) = true)
    {oc70 kV70 doc70 pm70 cd70 ct70 : Value} {od70 an70 : Option Addr} {sl70 : Array (Option Value)} {f70 : Addr}
    (a70 : PySem.W.nsIn K mainGlobals "law" = some (some (.ref f70)))
    (l70 : K.lookup f70 = some ⟨oc70, od70, .func (PySem.W.fnOf "law" "law" (defArgs s_law) (defBody s_law) (defScope s_law) .none kV70 doc70 pm70 an70 cd70 ct70), sl70⟩) (cc70 : PySem.W.codeIn K cd70 "law" = true) (k70 : PySem.W.keepIn K (.ref f70) = true)
    (z_len : PySem.W.nsIn K mainGlobals "len" = some none)
    (z_int : PySem.W.nsIn K mainGlobals "int" = some none)
    (z_str : PySem.W.nsIn K mainGlobals "str" = some none)
    (z_bool : PySem.W.nsIn K mainGlobals "bool" = some none)
    (z_list : PySem.W.nsIn K mainGlobals "list" = some none)
    (z_tuple : PySem.W.nsIn K mainGlobals "tuple" = some none)
    (z_range : PySem.W.nsIn K mainGlobals "range" = some none)
    (z_isinstance : PySem.W.nsIn K mainGlobals "isinstance" = some none)
    (z_ord : PySem.W.nsIn K mainGlobals "ord" = some none)
    (z_all : PySem.W.nsIn K mainGlobals "all" = some none)
    {t_FACTOR : Tok} (v_FACTOR : PySem.W.nsIn K mainGlobals "_FACTOR" = some (some (.int 65599 t_FACTOR)))
    {t_DIVISOR : Tok} (v_DIVISOR : PySem.W.nsIn K mainGlobals "_DIVISOR" = some (some (.int 2361183241434822606617 t_DIVISOR)))
    {t_LETTERS : Tok} (v_LETTERS : PySem.W.nsIn K mainGlobals "_LETTERS" = some (some (.str "abcdefghijklmnopqrstuvwxyz" t_LETTERS)))
    {t_DIGITS : Tok} (v_DIGITS : PySem.W.nsIn K mainGlobals "_DIGITS" = some (some (.str "0123456789" t_DIGITS)))
    {t_PART_MARKS : Tok} (v_PART_MARKS : PySem.W.nsIn K mainGlobals "_PART_MARKS" = some (some (.str "abcdefghijklmnopqrstuvwxyz0123456789_-." t_PART_MARKS)))
    {t_MOST_NAME : Tok} (v_MOST_NAME : PySem.W.nsIn K mainGlobals "_MOST_NAME" = some (some (.int 12 t_MOST_NAME)))
    {t_MOST_PARTS : Tok} (v_MOST_PARTS : PySem.W.nsIn K mainGlobals "_MOST_PARTS" = some (some (.int 6 t_MOST_PARTS)))
    {t_MOST_PATH : Tok} (v_MOST_PATH : PySem.W.nsIn K mainGlobals "MOST_PATH" = some (some (.int 60 t_MOST_PATH)))
    {t_MOST_KEYS : Tok} (v_MOST_KEYS : PySem.W.nsIn K mainGlobals "MOST_KEYS" = some (some (.int 16 t_MOST_KEYS)))
    {t_MOST_NUMBER : Tok} (v_MOST_NUMBER : PySem.W.nsIn K mainGlobals "MOST_NUMBER" = some (some (.int 1000000000000 t_MOST_NUMBER)))
    {t_DIGEST_LENGTH : Tok} (v_DIGEST_LENGTH : PySem.W.nsIn K mainGlobals "DIGEST_LENGTH" = some (some (.int 18 t_DIGEST_LENGTH)))
    {t_DIGEST_MARKS : Tok} (v_DIGEST_MARKS : PySem.W.nsIn K mainGlobals "_DIGEST_MARKS" = some (some (.str "0123456789abcdef" t_DIGEST_MARKS)))
    {t_MOST_PATTERNS : Tok} (v_MOST_PATTERNS : PySem.W.nsIn K mainGlobals "_MOST_PATTERNS" = some (some (.int 8 t_MOST_PATTERNS)))
    {t_MOST_GOODS : Tok} (v_MOST_GOODS : PySem.W.nsIn K mainGlobals "MOST_GOODS" = some (some (.int 64 t_MOST_GOODS)))
    {t_MOST_LISTS : Tok} (v_MOST_LISTS : PySem.W.nsIn K mainGlobals "MOST_LISTS" = some (some (.int 32 t_MOST_LISTS)))
    {t_TOP_LIST : Tok} (v_TOP_LIST : PySem.W.nsIn K mainGlobals "TOP_LIST" = some (some (.str "list" t_TOP_LIST)))
    {t_ROLES : Tok} (v_ROLES : PySem.W.nsIn K mainGlobals "_ROLES" = some (some (.int 4 t_ROLES)))
    {t_BARRED_CODE : Tok} (v_BARRED_CODE : PySem.W.nsIn K mainGlobals "_BARRED_CODE" = some (some (.int 37 t_BARRED_CODE)))
    {t_MOST_DIGITS : Tok} (v_MOST_DIGITS : PySem.W.nsIn K mainGlobals "MOST_DIGITS" = some (some (.int 20 t_MOST_DIGITS)))
    {t_MOST_DEPTH : Tok} (v_MOST_DEPTH : PySem.W.nsIn K mainGlobals "MOST_DEPTH" = some (some (.int 8 t_MOST_DEPTH)))
    {t_MOST_TEXT : Tok} (v_MOST_TEXT : PySem.W.nsIn K mainGlobals "MOST_TEXT" = some (some (.int 100000 t_MOST_TEXT)))
    {t_MOST_SEALS : Tok} (v_MOST_SEALS : PySem.W.nsIn K mainGlobals "MOST_SEALS" = some (some (.int 32 t_MOST_SEALS)))
    {t_MOST_MARK : Tok} (v_MOST_MARK : PySem.W.nsIn K mainGlobals "_MOST_MARK" = some (some (.int 40 t_MOST_MARK)))
    {C_BadText : Addr} (g_BadText : PySem.W.nsIn K mainGlobals "BadText" = some (some (.ref C_BadText))) (e_BadText : PySem.W.excIn K C_BadText [.type "ValueError", .type "Exception", .type "BaseException", .type "object"] "ValueError.__new__" = true) (ke_BadText : PySem.W.keepIn K (.ref C_BadText) = true) (be_BadText : PySem.W.subIn K (.ref C_BadText) (.type "BaseException") = some true) (te_BadText : PySem.W.typeIn K (.ref C_BadText) = some (.type "type")) (ie_BadText : PySem.W.isClsIn K C_BadText = true) (se_BadText : PySem.W.subIn K (.ref C_BadText) (.ref C_BadText) = some true)
    {C_BadDocument : Addr} (g_BadDocument : PySem.W.nsIn K mainGlobals "BadDocument" = some (some (.ref C_BadDocument))) (e_BadDocument : PySem.W.excIn K C_BadDocument [.type "ValueError", .type "Exception", .type "BaseException", .type "object"] "ValueError.__new__" = true) (ke_BadDocument : PySem.W.keepIn K (.ref C_BadDocument) = true) (be_BadDocument : PySem.W.subIn K (.ref C_BadDocument) (.type "BaseException") = some true) (te_BadDocument : PySem.W.typeIn K (.ref C_BadDocument) = some (.type "type")) (ie_BadDocument : PySem.W.isClsIn K C_BadDocument = true) (se_BadDocument : PySem.W.subIn K (.ref C_BadDocument) (.ref C_BadDocument) = some true)
    {C_BadKey : Addr} (g_BadKey : PySem.W.nsIn K mainGlobals "BadKey" = some (some (.ref C_BadKey))) (e_BadKey : PySem.W.excIn K C_BadKey [.type "ValueError", .type "Exception", .type "BaseException", .type "object"] "ValueError.__new__" = true) (ke_BadKey : PySem.W.keepIn K (.ref C_BadKey) = true) (be_BadKey : PySem.W.subIn K (.ref C_BadKey) (.type "BaseException") = some true) (te_BadKey : PySem.W.typeIn K (.ref C_BadKey) = some (.type "type")) (ie_BadKey : PySem.W.isClsIn K C_BadKey = true) (se_BadKey : PySem.W.subIn K (.ref C_BadKey) (.ref C_BadKey) = some true)
    {C_Refused fi_Refused : Addr} {oc_Refused kV_Refused doc_Refused pm_Refused cd_Refused ct_Refused : Value} {od_Refused an_Refused : Option Addr} {sl_Refused : Array (Option Value)} (g_Refused : PySem.W.nsIn K mainGlobals "Refused" = some (some (.ref C_Refused))) (ai_Refused : PySem.W.findIn K (.ref C_Refused) "__init__" = some (some (.ref fi_Refused))) (li_Refused : K.lookup fi_Refused = some ⟨oc_Refused, od_Refused, .func (PySem.W.fnOf "__init__" "Refused.__init__" (defArgs s_Refused___init) (defBody s_Refused___init) (defScope s_Refused___init) .none kV_Refused doc_Refused pm_Refused an_Refused cd_Refused ct_Refused), sl_Refused⟩) (ci_Refused : PySem.W.codeIn K cd_Refused "Refused.__init__" = true) (ki_Refused : PySem.W.keepIn K (.ref fi_Refused) = true) (ti_Refused : PySem.W.typeIn K (.ref fi_Refused) = some (.type "function")) (oo_Refused : OexC K C_Refused) (nn_Refused : PySem.W.findIn K (.ref C_Refused) "reason" = some none) (xf_Refused : xfB K C_Refused = true) (em_Refused : PySem.W.exmOne K (.ref C_Refused) (.ref C_Refused) = some true)
    (xkb1 : PySem.W.exmOne K (.ref C_BadText) (.ref C_BadDocument) = some false) (xkb2 : PySem.W.exmOne K (.ref C_BadDocument) (.ref C_BadText) = some false)
    {C_ChartError : Addr} (g_ChartError : PySem.W.nsIn K mainGlobals "ChartError" = some (some (.ref C_ChartError))) (xeR : ExcC K C_Refused) (xkR : PySem.W.kitOne K (.ref C_Refused) (.ref C_ChartError) = some true)
    (z_sorted : PySem.W.nsIn K mainGlobals "sorted" = some none) (z_set : PySem.W.nsIn K mainGlobals "set" = some none) (z_sum : PySem.W.nsIn K mainGlobals "sum" = some none)
    {R_RN : Addr} {o_RN : Obj} {its_RN : Array Value} {n_RN : Nat} (g_RN : PySem.W.nsIn K mainGlobals "_ROLE_NAMES" = some (some (.ref R_RN))) (lo_RN : K.lookup R_RN = some o_RN) (cl_RN : o_RN.cls = .type "tuple") (di_RN : o_RN.dict = none) (da_RN : o_RN.data = .seq its_RN n_RN) (sz_RN : its_RN.size ≤ sizeLine) (va_RN : Vals (rnm.map V.str) its_RN.toList)
    {dd6 : DefRec} {cK6 : Value} {dc6 : Option Addr} {vs6 : Array Value} {sc6 : Array (Option Value)} (t1_6 : K.lookup c6 = some ⟨cK6, dc6, .fields vs6, sc6⟩) (u1_6 : vs6[11]? = some (.ref Pt6)) (n1_6 : K.lookup Pt6 = none) (r1_6 : (recsOf q).find? (fun e : DefRec => e.name == PySem.Str.ofString "_consists_of") = some dd6)
    {dd7 : DefRec} {cK7 : Value} {dc7 : Option Addr} {vs7 : Array Value} {sc7 : Array (Option Value)} (t1_7 : K.lookup c7 = some ⟨cK7, dc7, .fields vs7, sc7⟩) (u1_7 : vs7[11]? = some (.ref Pt7)) (n1_7 : K.lookup Pt7 = none) (r1_7 : (recsOf q).find? (fun e : DefRec => e.name == PySem.Str.ofString "_has_parts_of") = some dd7)
    {dd8 : DefRec} {cK8 : Value} {dc8 : Option Addr} {vs8 : Array Value} {sc8 : Array (Option Value)} (t1_8 : K.lookup c8 = some ⟨cK8, dc8, .fields vs8, sc8⟩) (u1_8 : vs8[11]? = some (.ref Pt8)) (n1_8 : K.lookup Pt8 = none) (r1_8 : (recsOf q).find? (fun e : DefRec => e.name == PySem.Str.ofString "is_printable") = some dd8)
    {dd16 : DefRec} {cK16 : Value} {dc16 : Option Addr} {vs16 : Array Value} {sc16 : Array (Option Value)} (t1_16 : K.lookup c16 = some ⟨cK16, dc16, .fields vs16, sc16⟩) (u1_16 : vs16[11]? = some (.ref Pt16)) (n1_16 : K.lookup Pt16 = none) (r1_16 : (recsOf q).find? (fun e : DefRec => e.name == PySem.Str.ofString "is_role") = some dd16)
    {dd17 : DefRec} {cK17 : Value} {dc17 : Option Addr} {vs17 : Array Value} {sc17 : Array (Option Value)} (t1_17 : K.lookup c17 = some ⟨cK17, dc17, .fields vs17, sc17⟩) (u1_17 : vs17[11]? = some (.ref Pt17)) (n1_17 : K.lookup Pt17 = none) (r1_17 : (recsOf q).find? (fun e : DefRec => e.name == PySem.Str.ofString "is_digest") = some dd17)
    {dd18 : DefRec} {cK18 : Value} {dc18 : Option Addr} {vs18 : Array Value} {sc18 : Array (Option Value)} (t1_18 : K.lookup c18 = some ⟨cK18, dc18, .fields vs18, sc18⟩) (u1_18 : vs18[11]? = some (.ref Pt18)) (n1_18 : K.lookup Pt18 = none) (r1_18 : (recsOf q).find? (fun e : DefRec => e.name == PySem.Str.ofString "is_grant") = some dd18)
    {dd19 : DefRec} {cK19 : Value} {dc19 : Option Addr} {vs19 : Array Value} {sc19 : Array (Option Value)} (t1_19 : K.lookup c19 = some ⟨cK19, dc19, .fields vs19, sc19⟩) (u1_19 : vs19[11]? = some (.ref Pt19)) (n1_19 : K.lookup Pt19 = none) (r1_19 : (recsOf q).find? (fun e : DefRec => e.name == PySem.Str.ofString "is_charter") = some dd19)
    {dd21 : DefRec} {cK21 : Value} {dc21 : Option Addr} {vs21 : Array Value} {sc21 : Array (Option Value)} (t1_21 : K.lookup c21 = some ⟨cK21, dc21, .fields vs21, sc21⟩) (u1_21 : vs21[11]? = some (.ref Pt21)) (n1_21 : K.lookup Pt21 = none) (r1_21 : (recsOf q).find? (fun e : DefRec => e.name == PySem.Str.ofString "is_shelf") = some dd21)
    {dd22 : DefRec} {cK22 : Value} {dc22 : Option Addr} {vs22 : Array Value} {sc22 : Array (Option Value)} (t1_22 : K.lookup c22 = some ⟨cK22, dc22, .fields vs22, sc22⟩) (u1_22 : vs22[11]? = some (.ref Pt22)) (n1_22 : K.lookup Pt22 = none) (r1_22 : (recsOf q).find? (fun e : DefRec => e.name == PySem.Str.ofString "is_list") = some dd22)
    {dd34 : DefRec} {cK34 : Value} {dc34 : Option Addr} {vs34 : Array Value} {sc34 : Array (Option Value)} (t1_34 : K.lookup c34 = some ⟨cK34, dc34, .fields vs34, sc34⟩) (u1_34 : vs34[11]? = some (.ref Pt34)) (n1_34 : K.lookup Pt34 = none) (r1_34 : (recsOf q).find? (fun e : DefRec => e.name == PySem.Str.ofString "support") = some dd34)
    {dd35 : DefRec} {cK35 : Value} {dc35 : Option Addr} {vs35 : Array Value} {sc35 : Array (Option Value)} (t1_35 : K.lookup c35 = some ⟨cK35, dc35, .fields vs35, sc35⟩) (u1_35 : vs35[11]? = some (.ref Pt35)) (n1_35 : K.lookup Pt35 = none) (r1_35 : (recsOf q).find? (fun e : DefRec => e.name == PySem.Str.ofString "_is_content") = some dd35) :
    LamX.LawAtS l w K CX0 30 63 "script" mg fa h := by
  have e := hfa.symm.trans (PySem.W.mg_of X G a70)
  cases e
  have F0 := fun_mk (st := s_digest) l0 cc0 k0
  have b0 := F0.binds (ps := ["text"]) fun _ _ _ _ _ _ us hl => match us, hl with | [_], _ => rfl
  have F1 := fun_mk (st := s_is_list_name) l1 cc1 k1
  have b1 := F1.binds (ps := ["value"]) fun _ _ _ _ _ _ us hl => match us, hl with | [_], _ => rfl
  have F2 := fun_mk (st := s_is_key) l2 cc2 k2
  have b2 := F2.binds (ps := ["value"]) fun _ _ _ _ _ _ us hl => match us, hl with | [_], _ => rfl
  have F3 := fun_mk (st := s_is_path) l3 cc3 k3
  have b3 := F3.binds (ps := ["value"]) fun _ _ _ _ _ _ us hl => match us, hl with | [_], _ => rfl
  have F4 := fun_mk (st := s_is_pattern) l4 cc4 k4
  have b4 := F4.binds (ps := ["value"]) fun _ _ _ _ _ _ us hl => match us, hl with | [_], _ => rfl
  have F5 := fun_mk (st := s_ascends) l5 cc5 k5
  have b5 := F5.binds (ps := ["names"]) fun _ _ _ _ _ _ us hl => match us, hl with | [_], _ => rfl
  have F6 := fun_mk (st := s_consists_of) l6 cc6 k6
  have b6 := F6.binds (ps := ["text", "marks"]) fun _ _ _ _ _ _ us hl => match us, hl with | [_, _], _ => rfl
  have F7 := fun_mk (st := s_has_parts_of) l7 cc7 k7
  have b7 := F7.binds (ps := ["value", "marks"]) fun _ _ _ _ _ _ us hl => match us, hl with | [_, _], _ => rfl
  have F8 := fun_mk (st := s_is_printable) l8 cc8 k8
  have b8 := F8.binds (ps := ["value"]) fun _ _ _ _ _ _ us hl => match us, hl with | [_], _ => rfl
  have F9 := fun_mk (st := s_is_integer) l9 cc9 k9
  have b9 := F9.binds (ps := ["value", "least", "greatest"]) fun _ _ _ _ _ _ us hl => match us, hl with | [_, _, _], _ => rfl
  have F10 := fun_mk (st := s_decode) l10 cc10 k10
  have b10 := F10.binds (ps := ["text"]) fun _ _ _ _ _ _ us hl => match us, hl with | [_], _ => rfl
  have F11 := fun_mk (st := s_value_at) l11 cc11 k11
  have b11 := F11.binds (ps := ["text", "start", "levels"]) fun _ _ _ _ _ _ us hl => match us, hl with | [_, _, _], _ => rfl
  have F12 := fun_mk (st := s_tuple_at) l12 cc12 k12
  have b12 := F12.binds (ps := ["text", "start", "levels"]) fun _ _ _ _ _ _ us hl => match us, hl with | [_, _, _], _ => rfl
  have F13 := fun_mk (st := s_string_at) l13 cc13 k13
  have b13 := F13.binds (ps := ["text", "start", "length"]) fun _ _ _ _ _ _ us hl => match us, hl with | [_, _, _], _ => rfl
  have F14 := fun_mk (st := s_end_of_digits) l14 cc14 k14
  have b14 := F14.binds (ps := ["text", "start"]) fun _ _ _ _ _ _ us hl => match us, hl with | [_, _], _ => rfl
  have F15 := fun_mk (st := s_number_of) l15 cc15 k15
  have b15 := F15.binds (ps := ["digits"]) fun _ _ _ _ _ _ us hl => match us, hl with | [_], _ => rfl
  have F16 := fun_mk (st := s_is_role) l16 cc16 k16
  have b16 := F16.binds (ps := ["value"]) fun _ _ _ _ _ _ us hl => match us, hl with | [_], _ => rfl
  have F17 := fun_mk (st := s_is_digest) l17 cc17 k17
  have b17 := F17.binds (ps := ["value"]) fun _ _ _ _ _ _ us hl => match us, hl with | [_], _ => rfl
  have F18 := fun_mk (st := s_is_grant) l18 cc18 k18
  have b18 := F18.binds (ps := ["value"]) fun _ _ _ _ _ _ us hl => match us, hl with | [_], _ => rfl
  have F19 := fun_mk (st := s_is_charter) l19 cc19 k19
  have b19 := F19.binds (ps := ["value"]) fun _ _ _ _ _ _ us hl => match us, hl with | [_], _ => rfl
  have F20 := fun_mk (st := s_is_stamp) l20 cc20 k20
  have b20 := F20.binds (ps := ["value"]) fun _ _ _ _ _ _ us hl => match us, hl with | [_], _ => rfl
  have F21 := fun_mk (st := s_is_shelf) l21 cc21 k21
  have b21 := F21.binds (ps := ["value"]) fun _ _ _ _ _ _ us hl => match us, hl with | [_], _ => rfl
  have F22 := fun_mk (st := s_is_list) l22 cc22 k22
  have b22 := F22.binds (ps := ["value"]) fun _ _ _ _ _ _ us hl => match us, hl with | [_], _ => rfl
  have F23 := fun_mk (st := s_is_amount) l23 cc23 k23
  have b23 := F23.binds (ps := ["value"]) fun _ _ _ _ _ _ us hl => match us, hl with | [_], _ => rfl
  have F24 := fun_mk (st := s_read) l24 cc24 k24
  have b24 := F24.binds (ps := ["kind", "text"]) fun _ _ _ _ _ _ us hl => match us, hl with | [_, _], _ => rfl
  have F25 := fun_mk (st := s_is_tuple_of) l25 cc25 k25
  have b25 := F25.binds (ps := ["value", "many"]) fun _ _ _ _ _ _ us hl => match us, hl with | [_, _], _ => rfl
  have F26 := fun_mk (st := s_is_tuple_within) l26 cc26 k26
  have b26 := F26.binds (ps := ["value", "least", "most"]) fun _ _ _ _ _ _ us hl => match us, hl with | [_, _, _], _ => rfl
  have F27 := fun_mk (st := s_is_headed) l27 cc27 k27
  have b27 := F27.binds (ps := ["value", "word", "many"]) fun _ _ _ _ _ _ us hl => match us, hl with | [_, _, _], _ => rfl
  have F28 := fun_mk (st := s_is_version) l28 cc28 k28
  have b28 := F28.binds (ps := ["value"]) fun _ _ _ _ _ _ us hl => match us, hl with | [_], _ => rfl
  have F29 := fun_mk (st := s_is_entry) l29 cc29 k29
  have b29 := F29.binds (ps := ["value"]) fun _ _ _ _ _ _ us hl => match us, hl with | [_], _ => rfl
  have F30 := fun_mk (st := s_is_named_entry) l30 cc30 k30
  have b30 := F30.binds (ps := ["value"]) fun _ _ _ _ _ _ us hl => match us, hl with | [_], _ => rfl
  have F31 := fun_mk (st := s_is_good) l31 cc31 k31
  have b31 := F31.binds (ps := ["value"]) fun _ _ _ _ _ _ us hl => match us, hl with | [_], _ => rfl
  have F32 := fun_mk (st := s_is_document) l32 cc32 k32
  have b32 := F32.binds (ps := ["kind", "value"]) fun _ _ _ _ _ _ us hl => match us, hl with | [_, _], _ => rfl
  have F33 := fun_mk (st := s_opened) l33 cc33 k33
  have b33 := F33.binds (ps := ["sealed"]) fun _ _ _ _ _ _ us hl => match us, hl with | [_], _ => rfl
  have F34 := fun_mk (st := s_support) l34 cc34 k34
  have b34 := F34.binds (ps := ["office", "sealed", "keys"]) fun _ _ _ _ _ _ us hl => match us, hl with | [_, _, _], _ => rfl
  have F35 := fun_mk (st := s_is_content) l35 cc35 k35
  have b35 := F35.binds (ps := ["value"]) fun _ _ _ _ _ _ us hl => match us, hl with | [_], _ => rfl
  have F36 := fun_mk (st := s_is_seal) l36 cc36 k36
  have b36 := F36.binds (ps := ["value"]) fun _ _ _ _ _ _ us hl => match us, hl with | [_], _ => rfl
  have F37 := fun_mk (st := s_Trusted___init) l37 cc37 k37
  have b37 := F37.binds (ps := ["self", "office", "sealed"]) fun _ _ _ _ _ _ us hl => match us, hl with | [_, _, _], _ => rfl
  have F38 := fun_mk (st := s_Trusted_outdated) l38 cc38 k38
  have b38 := F38.binds (ps := ["self"]) fun _ _ _ _ _ _ us hl => match us, hl with | [_], _ => rfl
  have F39 := fun_mk (st := s_Trusted_forget) l39 cc39 k39
  have b39 := F39.binds (ps := ["self"]) fun _ _ _ _ _ _ us hl => match us, hl with | [_], _ => rfl
  have F40 := fun_mk (st := s_Trusted_is_current) l40 cc40 k40
  have b40 := F40.binds (ps := ["self"]) fun _ _ _ _ _ _ us hl => match us, hl with | [_], _ => rfl
  have F41 := fun_mk (st := s_Trusted_charter) l41 cc41 k41
  have b41 := F41.binds (ps := ["self"]) fun _ _ _ _ _ _ us hl => match us, hl with | [_], _ => rfl
  have F42 := fun_mk (st := s_Trusted_stamp) l42 cc42 k42
  have b42 := F42.binds (ps := ["self"]) fun _ _ _ _ _ _ us hl => match us, hl with | [_], _ => rfl
  have F43 := fun_mk (st := s_Trusted_shelf) l43 cc43 k43
  have b43 := F43.binds (ps := ["self"]) fun _ _ _ _ _ _ us hl => match us, hl with | [_], _ => rfl
  have F44 := fun_mk (st := s_Trusted_list_of) l44 cc44 k44
  have b44 := F44.binds (ps := ["self", "name"]) fun _ _ _ _ _ _ us hl => match us, hl with | [_, _], _ => rfl
  have F45 := fun_mk (st := s_Trusted_list_role) l45 cc45 k45
  have b45 := F45.binds (ps := ["self", "name"]) fun _ _ _ _ _ _ us hl => match us, hl with | [_, _], _ => rfl
  have F46 := fun_mk (st := s_Trusted_sealed) l46 cc46 k46
  have b46 := F46.binds (ps := ["self", "kind"]) fun _ _ _ _ _ _ us hl => match us, hl with | [_, _], _ => rfl
  have F47 := fun_mk (st := s_Trusted_roles) l47 cc47 k47
  have b47 := F47.binds (ps := ["self"]) fun _ _ _ _ _ _ us hl => match us, hl with | [_], _ => rfl
  have F48 := fun_mk (st := s_Trusted__present_roles) l48 cc48 k48
  have b48 := F48.binds (ps := ["self"]) fun _ _ _ _ _ _ us hl => match us, hl with | [_], _ => rfl
  have F49 := fun_mk (st := s_role_of) l49 cc49 k49
  have b49 := F49.binds (ps := ["charter", "name"]) fun _ _ _ _ _ _ us hl => match us, hl with | [_, _], _ => rfl
  have F50 := fun_mk (st := s_document_in) l50 cc50 k50
  have b50 := F50.binds (ps := ["kind", "sealed"]) fun _ _ _ _ _ _ us hl => match us, hl with | [_, _], _ => rfl
  have F51 := fun_mk (st := s_require_signed) l51 cc51 k51
  have b51 := F51.binds (ps := ["office", "sealed", "role"]) fun _ _ _ _ _ _ us hl => match us, hl with | [_, _, _], _ => rfl
  have F52 := fun_mk (st := s_Seals___init) l52 cc52 k52
  have b52 := F52.binds (ps := ["self"]) fun _ _ _ _ _ _ us hl => match us, hl with | [_], _ => rfl
  have F53 := fun_mk (st := s_Seals_make) l53 cc53 k53
  have b53 := F53.binds (ps := ["self", "key", "text"]) fun _ _ _ _ _ _ us hl => match us, hl with | [_, _, _], _ => rfl
  have F54 := fun_mk (st := s_Seals_holds) l54 cc54 k54
  have b54 := F54.binds (ps := ["self", "key", "text", "mark"]) fun _ _ _ _ _ _ us hl => match us, hl with | [_, _, _, _], _ => rfl
  have F55 := fun_mk (st := s_law_cell) l55 cc55 k55
  have b55 := F55.binds (ps := ["script", "k"]) fun _ _ _ _ _ _ us hl => match us, hl with | [_, _], _ => rfl
  have F56 := fun_mk (st := s_law_stream) l56 cc56 k56
  have b56 := F56.binds (ps := ["cell"]) fun _ _ _ _ _ _ us hl => match us, hl with | [_], _ => rfl
  have F57 := fun_mk (st := s_law_take) l57 cc57 k57
  have b57 := F57.binds (ps := ["stream", "many"]) fun _ _ _ _ _ _ us hl => match us, hl with | [_, _], _ => rfl
  have F58 := fun_mk (st := s_law_once) l58 cc58 k58
  have b58 := F58.binds (ps := ["keys"]) fun _ _ _ _ _ _ us hl => match us, hl with | [_], _ => rfl
  have F59 := fun_mk (st := s_law_digest) l59 cc59 k59
  have b59 := F59.binds (ps := ["text"]) fun _ _ _ _ _ _ us hl => match us, hl with | [_], _ => rfl
  have F60 := fun_mk (st := s_law_says) l60 cc60 k60
  have b60 := F60.binds (ps := ["actual", "expected"]) fun _ _ _ _ _ _ us hl => match us, hl with | [_, _], _ => rfl
  have F61 := fun_mk (st := s_law_text) l61 cc61 k61
  have b61 := F61.binds (ps := ["value"]) fun _ _ _ _ _ _ us hl => match us, hl with | [_], _ => rfl
  have F62 := fun_mk (st := s_law_same) l62 cc62 k62
  have b62 := F62.binds (ps := ["actual", "expected"]) fun _ _ _ _ _ _ us hl => match us, hl with | [_, _], _ => rfl
  have F63 := fun_mk (st := s_law_keys) l63 cc63 k63
  have b63 := F63.binds (ps := ["stream"]) fun _ _ _ _ _ _ us hl => match us, hl with | [_], _ => rfl
  have F64 := fun_mk (st := s_law_role) l64 cc64 k64
  have b64 := F64.binds (ps := ["stream"]) fun _ _ _ _ _ _ us hl => match us, hl with | [_], _ => rfl
  have F65 := fun_mk (st := s_law_time) l65 cc65 k65
  have b65 := F65.binds (ps := ["stream"]) fun _ _ _ _ _ _ us hl => match us, hl with | [_], _ => rfl
  have F66 := fun_mk (st := s_law_pairs) l66 cc66 k66
  have b66 := F66.binds (ps := ["stream", "office", "text", "role"]) fun _ _ _ _ _ _ us hl => match us, hl with | [_, _, _, _], _ => rfl
  have F67 := fun_mk (st := s_law_first) l67 cc67 k67
  have b67 := F67.binds (ps := ["stream", "office"]) fun _ _ _ _ _ _ us hl => match us, hl with | [_, _], _ => rfl
  have F68 := fun_mk (st := s_law_refusal) l68 cc68 k68
  have b68 := F68.binds (ps := ["office", "sealed"]) fun _ _ _ _ _ _ us hl => match us, hl with | [_, _], _ => rfl
  have F69 := fun_mk (st := s_law_bare) l69 cc69 k69
  have b69 := F69.binds (ps := ["made", "charter", "sealed"]) fun _ _ _ _ _ _ us hl => match us, hl with | [_, _, _], _ => rfl
  have F70 := fun_mk (st := s_law) l70 cc70 k70
  have b70 := F70.binds (ps := ["script"]) fun _ _ _ _ _ _ us hl => match us, hl with | [_], _ => rfl
  have B : Blt mg := ⟨PySem.W.mg_none_of X G z_len, PySem.W.mg_none_of X G z_int, PySem.W.mg_none_of X G z_str, PySem.W.mg_none_of X G z_bool, PySem.W.mg_none_of X G z_list, PySem.W.mg_none_of X G z_tuple, PySem.W.mg_none_of X G z_range, PySem.W.mg_none_of X G z_isinstance, PySem.W.mg_none_of X G z_ord, PySem.W.mg_none_of X G z_all⟩
  have cl_Seals : Cls K C_Seals := ⟨pg_Seals, hd_Seals, po_Seals, sa_Seals⟩
  have cl_Trusted : Cls K C_Trusted := ⟨pg_Trusted, hd_Trusted, po_Trusted, sa_Trusted⟩
  have E_BadText : Err K mg "BadText" C_BadText := ⟨PySem.W.mg_of X G g_BadText, e_BadText, ke_BadText, be_BadText, te_BadText, ie_BadText, se_BadText⟩
  have E_BadDocument : Err K mg "BadDocument" C_BadDocument := ⟨PySem.W.mg_of X G g_BadDocument, e_BadDocument, ke_BadDocument, be_BadDocument, te_BadDocument, ie_BadDocument, se_BadDocument⟩
  have E_BadKey : Err K mg "BadKey" C_BadKey := ⟨PySem.W.mg_of X G g_BadKey, e_BadKey, ke_BadKey, be_BadKey, te_BadKey, ie_BadKey, se_BadKey⟩
  obtain ⟨hC6, hP6⟩ := tab_mk T X r1_6 a6 l6 rfl t1_6 u1_6
  obtain ⟨hC7, hP7⟩ := tab_mk T X r1_7 a7 l7 rfl t1_7 u1_7
  obtain ⟨hC8, hP8⟩ := tab_mk T X r1_8 a8 l8 rfl t1_8 u1_8
  obtain ⟨hC16, hP16⟩ := tab_mk T X r1_16 a16 l16 rfl t1_16 u1_16
  obtain ⟨hC17, hP17⟩ := tab_mk T X r1_17 a17 l17 rfl t1_17 u1_17
  obtain ⟨hC18, hP18⟩ := tab_mk T X r1_18 a18 l18 rfl t1_18 u1_18
  obtain ⟨hC19, hP19⟩ := tab_mk T X r1_19 a19 l19 rfl t1_19 u1_19
  obtain ⟨hC21, hP21⟩ := tab_mk T X r1_21 a21 l21 rfl t1_21 u1_21
  obtain ⟨hC22, hP22⟩ := tab_mk T X r1_22 a22 l22 rfl t1_22 u1_22
  obtain ⟨hC34, hP34⟩ := tab_mk T X r1_34 a34 l34 rfl t1_34 u1_34
  obtain ⟨hC35, hP35⟩ := tab_mk T X r1_35 a35 l35 rfl t1_35 u1_35
  have each : ∀ {φ : Addr × Addr → Prop}, φ (c6, Pt6) → φ (c7, Pt7) → φ (c8, Pt8) → φ (c16, Pt16) → φ (c17, Pt17) → φ (c18, Pt18) → φ (c19, Pt19) → φ (c21, Pt21) → φ (c22, Pt22) → φ (c34, Pt34) → φ (c35, Pt35) → ∀ p ∈ ([(c6, Pt6), (c7, Pt7), (c8, Pt8), (c16, Pt16), (c17, Pt17), (c18, Pt18), (c19, Pt19), (c21, Pt21), (c22, Pt22), (c34, Pt34), (c35, Pt35)] : List (Addr × Addr)), φ p := fun h6 h7 h8 h16 h17 h18 h19 h21 h22 h34 h35 p hp => by
    simp only [List.mem_cons, List.not_mem_nil, or_false] at hp
    rcases hp with rfl | rfl | rfl | rfl | rfl | rfl | rfl | rfl | rfl | rfl | rfl
    · exact h6
    · exact h7
    · exact h8
    · exact h16
    · exact h17
    · exact h18
    · exact h19
    · exact h21
    · exact h22
    · exact h34
    · exact h35
  have eachT : ∀ {φ : Addr → Prop}, φ Pt6 → φ Pt7 → φ Pt8 → φ Pt16 → φ Pt17 → φ Pt18 → φ Pt19 → φ Pt21 → φ Pt22 → φ Pt34 → φ Pt35 → ∀ p ∈ ([Pt6, Pt7, Pt8, Pt16, Pt17, Pt18, Pt19, Pt21, Pt22, Pt34, Pt35] : List Addr), φ p := fun h6 h7 h8 h16 h17 h18 h19 h21 h22 h34 h35 p hp => by
    simp only [List.mem_cons, List.not_mem_nil, or_false] at hp
    rcases hp with rfl | rfl | rfl | rfl | rfl | rfl | rfl | rfl | rfl | rfl | rfl
    · exact h6
    · exact h7
    · exact h8
    · exact h16
    · exact h17
    · exact h18
    · exact h19
    · exact h21
    · exact h22
    · exact h34
    · exact h35
  have m_Pt6 : Pt6 ∈ ([Pt6, Pt7, Pt8, Pt16, Pt17, Pt18, Pt19, Pt21, Pt22, Pt34, Pt35] : List Addr) := List.mem_cons_self
  have m_Pt7 : Pt7 ∈ ([Pt6, Pt7, Pt8, Pt16, Pt17, Pt18, Pt19, Pt21, Pt22, Pt34, Pt35] : List Addr) := List.mem_cons_of_mem _ (List.mem_cons_self)
  have m_Pt8 : Pt8 ∈ ([Pt6, Pt7, Pt8, Pt16, Pt17, Pt18, Pt19, Pt21, Pt22, Pt34, Pt35] : List Addr) := List.mem_cons_of_mem _ (List.mem_cons_of_mem _ (List.mem_cons_self))
  have m_Pt16 : Pt16 ∈ ([Pt6, Pt7, Pt8, Pt16, Pt17, Pt18, Pt19, Pt21, Pt22, Pt34, Pt35] : List Addr) := List.mem_cons_of_mem _ (List.mem_cons_of_mem _ (List.mem_cons_of_mem _ (List.mem_cons_self)))
  have m_Pt17 : Pt17 ∈ ([Pt6, Pt7, Pt8, Pt16, Pt17, Pt18, Pt19, Pt21, Pt22, Pt34, Pt35] : List Addr) := List.mem_cons_of_mem _ (List.mem_cons_of_mem _ (List.mem_cons_of_mem _ (List.mem_cons_of_mem _ (List.mem_cons_self))))
  have m_Pt18 : Pt18 ∈ ([Pt6, Pt7, Pt8, Pt16, Pt17, Pt18, Pt19, Pt21, Pt22, Pt34, Pt35] : List Addr) := List.mem_cons_of_mem _ (List.mem_cons_of_mem _ (List.mem_cons_of_mem _ (List.mem_cons_of_mem _ (List.mem_cons_of_mem _ (List.mem_cons_self)))))
  have m_Pt19 : Pt19 ∈ ([Pt6, Pt7, Pt8, Pt16, Pt17, Pt18, Pt19, Pt21, Pt22, Pt34, Pt35] : List Addr) := List.mem_cons_of_mem _ (List.mem_cons_of_mem _ (List.mem_cons_of_mem _ (List.mem_cons_of_mem _ (List.mem_cons_of_mem _ (List.mem_cons_of_mem _ (List.mem_cons_self))))))
  have m_Pt21 : Pt21 ∈ ([Pt6, Pt7, Pt8, Pt16, Pt17, Pt18, Pt19, Pt21, Pt22, Pt34, Pt35] : List Addr) := List.mem_cons_of_mem _ (List.mem_cons_of_mem _ (List.mem_cons_of_mem _ (List.mem_cons_of_mem _ (List.mem_cons_of_mem _ (List.mem_cons_of_mem _ (List.mem_cons_of_mem _ (List.mem_cons_self)))))))
  have m_Pt22 : Pt22 ∈ ([Pt6, Pt7, Pt8, Pt16, Pt17, Pt18, Pt19, Pt21, Pt22, Pt34, Pt35] : List Addr) := List.mem_cons_of_mem _ (List.mem_cons_of_mem _ (List.mem_cons_of_mem _ (List.mem_cons_of_mem _ (List.mem_cons_of_mem _ (List.mem_cons_of_mem _ (List.mem_cons_of_mem _ (List.mem_cons_of_mem _ (List.mem_cons_self))))))))
  have m_Pt34 : Pt34 ∈ ([Pt6, Pt7, Pt8, Pt16, Pt17, Pt18, Pt19, Pt21, Pt22, Pt34, Pt35] : List Addr) := List.mem_cons_of_mem _ (List.mem_cons_of_mem _ (List.mem_cons_of_mem _ (List.mem_cons_of_mem _ (List.mem_cons_of_mem _ (List.mem_cons_of_mem _ (List.mem_cons_of_mem _ (List.mem_cons_of_mem _ (List.mem_cons_of_mem _ (List.mem_cons_self)))))))))
  have m_Pt35 : Pt35 ∈ ([Pt6, Pt7, Pt8, Pt16, Pt17, Pt18, Pt19, Pt21, Pt22, Pt34, Pt35] : List Addr) := List.mem_cons_of_mem _ (List.mem_cons_of_mem _ (List.mem_cons_of_mem _ (List.mem_cons_of_mem _ (List.mem_cons_of_mem _ (List.mem_cons_of_mem _ (List.mem_cons_of_mem _ (List.mem_cons_of_mem _ (List.mem_cons_of_mem _ (List.mem_cons_of_mem _ (List.mem_cons_self))))))))))
  refine ⟨PySem.W.fnOf "law" "law" (defArgs s_law) (defBody s_law) (defScope s_law) .none kV70 doc70 pm70 an70 cd70 ct70, [(c6, Pt6), (c7, Pt7), (c8, Pt8), (c16, Pt16), (c17, Pt17), (c18, Pt18), (c19, Pt19), (c21, Pt21), (c22, Pt22), (c34, Pt34), (c35, Pt35)], spLaw35 K ([Pt6, Pt7, Pt8, Pt16, Pt17, Pt18, Pt19, Pt21, Pt22, Pt34, Pt35]), each hP6 hP7 hP8 hP16 hP17 hP18 hP19 hP21 hP22 hP34 hP35, each n1_6 n1_7 n1_8 n1_16 n1_17 n1_18 n1_19 n1_21 n1_22 n1_34 n1_35, each hC6 hC7 hC8 hC16 hC17 hC18 hC19 hC21 hC22 hC34 hC35, fun s v => .of_eq rfl, fun H a ns hl hb ht hS => ?_, fun base KB GB TBs => ?_⟩
  · have g : Tabs ([Pt6, Pt7, Pt8, Pt16, Pt17, Pt18, Pt19, Pt21, Pt22, Pt34, Pt35]) H := eachT ⟨#[], ht (c6, Pt6) (List.mem_cons_self), True.intro⟩ ⟨#[], ht (c7, Pt7) (List.mem_cons_of_mem _ (List.mem_cons_self)), True.intro⟩ ⟨#[], ht (c8, Pt8) (List.mem_cons_of_mem _ (List.mem_cons_of_mem _ (List.mem_cons_self))), True.intro⟩ ⟨#[], ht (c16, Pt16) (List.mem_cons_of_mem _ (List.mem_cons_of_mem _ (List.mem_cons_of_mem _ (List.mem_cons_self)))), True.intro⟩ ⟨#[], ht (c17, Pt17) (List.mem_cons_of_mem _ (List.mem_cons_of_mem _ (List.mem_cons_of_mem _ (List.mem_cons_of_mem _ (List.mem_cons_self))))), True.intro⟩ ⟨#[], ht (c18, Pt18) (List.mem_cons_of_mem _ (List.mem_cons_of_mem _ (List.mem_cons_of_mem _ (List.mem_cons_of_mem _ (List.mem_cons_of_mem _ (List.mem_cons_self)))))), True.intro⟩ ⟨#[], ht (c19, Pt19) (List.mem_cons_of_mem _ (List.mem_cons_of_mem _ (List.mem_cons_of_mem _ (List.mem_cons_of_mem _ (List.mem_cons_of_mem _ (List.mem_cons_of_mem _ (List.mem_cons_self))))))), True.intro⟩ ⟨#[], ht (c21, Pt21) (List.mem_cons_of_mem _ (List.mem_cons_of_mem _ (List.mem_cons_of_mem _ (List.mem_cons_of_mem _ (List.mem_cons_of_mem _ (List.mem_cons_of_mem _ (List.mem_cons_of_mem _ (List.mem_cons_self)))))))), True.intro⟩ ⟨#[], ht (c22, Pt22) (List.mem_cons_of_mem _ (List.mem_cons_of_mem _ (List.mem_cons_of_mem _ (List.mem_cons_of_mem _ (List.mem_cons_of_mem _ (List.mem_cons_of_mem _ (List.mem_cons_of_mem _ (List.mem_cons_of_mem _ (List.mem_cons_self))))))))), True.intro⟩ ⟨#[], ht (c34, Pt34) (List.mem_cons_of_mem _ (List.mem_cons_of_mem _ (List.mem_cons_of_mem _ (List.mem_cons_of_mem _ (List.mem_cons_of_mem _ (List.mem_cons_of_mem _ (List.mem_cons_of_mem _ (List.mem_cons_of_mem _ (List.mem_cons_of_mem _ (List.mem_cons_self)))))))))), True.intro⟩ ⟨#[], ht (c35, Pt35) (List.mem_cons_of_mem _ (List.mem_cons_of_mem _ (List.mem_cons_of_mem _ (List.mem_cons_of_mem _ (List.mem_cons_of_mem _ (List.mem_cons_of_mem _ (List.mem_cons_of_mem _ (List.mem_cons_of_mem _ (List.mem_cons_of_mem _ (List.mem_cons_of_mem _ (List.mem_cons_self))))))))))), True.intro⟩
    exact ⟨a, ns, rfl, hS, g, hl, fun _ => rfl⟩
  have TB6 : GxR.TabB base mg c6 Pt6 := let z := TBs (c6, Pt6) (List.mem_cons_self); ⟨z.code, z.bm, z.gP⟩
  have TB7 : GxR.TabB base mg c7 Pt7 := let z := TBs (c7, Pt7) (List.mem_cons_of_mem _ (List.mem_cons_self)); ⟨z.code, z.bm, z.gP⟩
  have TB8 : GxR.TabB base mg c8 Pt8 := let z := TBs (c8, Pt8) (List.mem_cons_of_mem _ (List.mem_cons_of_mem _ (List.mem_cons_self))); ⟨z.code, z.bm, z.gP⟩
  have TB16 : GxR.TabB base mg c16 Pt16 := let z := TBs (c16, Pt16) (List.mem_cons_of_mem _ (List.mem_cons_of_mem _ (List.mem_cons_of_mem _ (List.mem_cons_self)))); ⟨z.code, z.bm, z.gP⟩
  have TB17 : GxR.TabB base mg c17 Pt17 := let z := TBs (c17, Pt17) (List.mem_cons_of_mem _ (List.mem_cons_of_mem _ (List.mem_cons_of_mem _ (List.mem_cons_of_mem _ (List.mem_cons_self))))); ⟨z.code, z.bm, z.gP⟩
  have TB18 : GxR.TabB base mg c18 Pt18 := let z := TBs (c18, Pt18) (List.mem_cons_of_mem _ (List.mem_cons_of_mem _ (List.mem_cons_of_mem _ (List.mem_cons_of_mem _ (List.mem_cons_of_mem _ (List.mem_cons_self)))))); ⟨z.code, z.bm, z.gP⟩
  have TB19 : GxR.TabB base mg c19 Pt19 := let z := TBs (c19, Pt19) (List.mem_cons_of_mem _ (List.mem_cons_of_mem _ (List.mem_cons_of_mem _ (List.mem_cons_of_mem _ (List.mem_cons_of_mem _ (List.mem_cons_of_mem _ (List.mem_cons_self))))))); ⟨z.code, z.bm, z.gP⟩
  have TB21 : GxR.TabB base mg c21 Pt21 := let z := TBs (c21, Pt21) (List.mem_cons_of_mem _ (List.mem_cons_of_mem _ (List.mem_cons_of_mem _ (List.mem_cons_of_mem _ (List.mem_cons_of_mem _ (List.mem_cons_of_mem _ (List.mem_cons_of_mem _ (List.mem_cons_self)))))))); ⟨z.code, z.bm, z.gP⟩
  have TB22 : GxR.TabB base mg c22 Pt22 := let z := TBs (c22, Pt22) (List.mem_cons_of_mem _ (List.mem_cons_of_mem _ (List.mem_cons_of_mem _ (List.mem_cons_of_mem _ (List.mem_cons_of_mem _ (List.mem_cons_of_mem _ (List.mem_cons_of_mem _ (List.mem_cons_of_mem _ (List.mem_cons_self))))))))); ⟨z.code, z.bm, z.gP⟩
  have TB34 : GxR.TabB base mg c34 Pt34 := let z := TBs (c34, Pt34) (List.mem_cons_of_mem _ (List.mem_cons_of_mem _ (List.mem_cons_of_mem _ (List.mem_cons_of_mem _ (List.mem_cons_of_mem _ (List.mem_cons_of_mem _ (List.mem_cons_of_mem _ (List.mem_cons_of_mem _ (List.mem_cons_of_mem _ (List.mem_cons_self)))))))))); ⟨z.code, z.bm, z.gP⟩
  have TB35 : GxR.TabB base mg c35 Pt35 := let z := TBs (c35, Pt35) (List.mem_cons_of_mem _ (List.mem_cons_of_mem _ (List.mem_cons_of_mem _ (List.mem_cons_of_mem _ (List.mem_cons_of_mem _ (List.mem_cons_of_mem _ (List.mem_cons_of_mem _ (List.mem_cons_of_mem _ (List.mem_cons_of_mem _ (List.mem_cons_of_mem _ (List.mem_cons_self))))))))))); ⟨z.code, z.bm, z.gP⟩
  have c_law_cell : Cal l.prog w K mg base CX0 (1) "_law_cell" (spCell K) := ⟨⟨f55, _, _, ok_cell F55 B, PySem.W.mg_of X G a55, k55, b55⟩⟩
  have c_law_stream : Cal l.prog w K mg base CX0 (1) "_law_stream" (spStream) := ⟨⟨f56, _, _, ok_stream F56 B, PySem.W.mg_of X G a56, k56, b56⟩⟩
  have c_law_take : Cal l.prog w K mg base CX0 (1) "_law_take" (spTake) := ⟨⟨f57, _, _, ok_take F57 B, PySem.W.mg_of X G a57, k57, b57⟩⟩
  have D : DgC mg := ⟨⟨_, PySem.W.mg_of X G v_FACTOR⟩, ⟨_, PySem.W.mg_of X G v_DIVISOR⟩, ⟨_, PySem.W.mg_of X G v_DIGEST_LENGTH⟩⟩
  have c_digest : Cal l.prog w K mg base CX0 (1) "digest" (spDigest) := ⟨⟨f0, _, _, ok_digest F0 B D, PySem.W.mg_of X G a0, k0, b0⟩⟩
  have DN : NmC mg := ⟨⟨_, PySem.W.mg_of X G v_DIGITS⟩, ⟨_, PySem.W.mg_of X G v_MOST_NAME⟩⟩
  have DD : DcC mg := ⟨⟨_, PySem.W.mg_of X G v_MOST_KEYS⟩⟩
  have c_is_integer : Cal l.prog w K mg base CX0 (1) "is_integer" (spIntg) := ⟨⟨f9, _, _, ok_integer F9 B, PySem.W.mg_of X G a9, k9, b9⟩⟩
  have c_consists_of : Cal l.prog w K mg base CX0 (3) "_consists_of" (spCons Pt6) := ⟨⟨f6, _, _, ok_consists B TB6 l6 cc6, PySem.W.mg_of X G a6, k6, b6⟩⟩
  have c_is_key : Cal l.prog w K mg base CX0 (4) "is_key" (spNm kyV Pt6) := ⟨⟨f2, _, _, ok_key F2 B DN c_consists_of, PySem.W.mg_of X G a2, k2, b2⟩⟩
  have c_ascends : Cal l.prog w K mg base CX0 (1) "ascends" (spAsc K) := ⟨⟨f5, _, _, ok_asc F5 B (PySem.W.mg_none_of X G z_sorted) (PySem.W.mg_none_of X G z_set), PySem.W.mg_of X G a5, k5, b5⟩⟩
  have c_is_tuple_of : Cal l.prog w K mg base CX0 (1) "_is_tuple_of" (spTOf) := ⟨⟨f25, _, _, ok_tof F25 B, PySem.W.mg_of X G a25, k25, b25⟩⟩
  have c_is_tuple_within : Cal l.prog w K mg base CX0 (1) "_is_tuple_within" (spTIn) := ⟨⟨f26, _, _, ok_tin F26 B, PySem.W.mg_of X G a26, k26, b26⟩⟩
  have c_is_role : Cal l.prog w K mg base CX0 (8) "is_role" (spDoc isRole ([Pt6, Pt7, Pt8, Pt16, Pt17, Pt18, Pt19, Pt21, Pt22, Pt34, Pt35])) := ⟨⟨f16, _, _, ok_role B TB16 DD m_Pt16 m_Pt6 l16 cc16 c_is_tuple_of c_is_tuple_within c_is_key c_ascends c_is_integer, PySem.W.mg_of X G a16, k16, b16⟩⟩
  have DH : DhC mg := ⟨⟨_, PySem.W.mg_of X G v_MOST_NUMBER⟩⟩
  have c_is_headed : Cal l.prog w K mg base CX0 (2) "_is_headed" (spHead) := ⟨⟨f27, _, _, ok_headed F27 B c_is_tuple_of, PySem.W.mg_of X G a27, k27, b27⟩⟩
  have c_is_version : Cal l.prog w K mg base CX0 (2) "_is_version" (spNumP 1) := ⟨⟨f28, _, _, ok_version F28 B DH c_is_integer, PySem.W.mg_of X G a28, k28, b28⟩⟩
  have c_is_amount : Cal l.prog w K mg base CX0 (2) "is_amount" (spNumP 0) := ⟨⟨f23, _, _, ok_amount F23 B DH c_is_integer, PySem.W.mg_of X G a23, k23, b23⟩⟩
  have DP : PaC mg := ⟨⟨_, PySem.W.mg_of X G v_MOST_PATH⟩, ⟨_, PySem.W.mg_of X G v_MOST_PARTS⟩, ⟨_, PySem.W.mg_of X G v_PART_MARKS⟩⟩
  have DGR : DgrC mg := ⟨⟨_, PySem.W.mg_of X G v_MOST_PATTERNS⟩, ⟨_, PySem.W.mg_of X G v_TOP_LIST⟩⟩
  have DLS : DlsC mg := ⟨⟨_, PySem.W.mg_of X G v_MOST_GOODS⟩, ⟨_, PySem.W.mg_of X G v_MOST_LISTS⟩⟩
  have DCH : DchC mg := ⟨⟨_, PySem.W.mg_of X G v_ROLES⟩⟩
  have DSH : DshC mg := ⟨⟨_, PySem.W.mg_of X G v_MOST_LISTS⟩, ⟨_, PySem.W.mg_of X G v_TOP_LIST⟩⟩
  have c_is_list_name : Cal l.prog w K mg base CX0 (4) "is_list_name" (spNm lnV Pt6) := ⟨⟨f1, _, _, ok_list_name F1 B DN ⟨_, PySem.W.mg_of X G v_LETTERS⟩ c_consists_of, PySem.W.mg_of X G a1, k1, b1⟩⟩
  have c_has_parts_of : Cal l.prog w K mg base CX0 (6) "_has_parts_of" (spPartsOf ([Pt6, Pt7, Pt8, Pt16, Pt17, Pt18, Pt19, Pt21, Pt22, Pt34, Pt35])) := ⟨⟨f7, _, _, ok_parts_of B TB7 DP m_Pt7 m_Pt6 l7 cc7 c_consists_of, PySem.W.mg_of X G a7, k7, b7⟩⟩
  have c_is_pattern : Cal l.prog w K mg base CX0 (7) "is_pattern" (spPa ptM ([Pt6, Pt7, Pt8, Pt16, Pt17, Pt18, Pt19, Pt21, Pt22, Pt34, Pt35])) := ⟨⟨f4, _, _, ok_pattern F4 B DP c_has_parts_of, PySem.W.mg_of X G a4, k4, b4⟩⟩
  have c_is_path : Cal l.prog w K mg base CX0 (7) "is_path" (spPa paM ([Pt6, Pt7, Pt8, Pt16, Pt17, Pt18, Pt19, Pt21, Pt22, Pt34, Pt35])) := ⟨⟨f3, _, _, ok_path F3 B DP c_has_parts_of, PySem.W.mg_of X G a3, k3, b3⟩⟩
  have c_is_grant : Cal l.prog w K mg base CX0 (11) "is_grant" (spDoc isGrant ([Pt6, Pt7, Pt8, Pt16, Pt17, Pt18, Pt19, Pt21, Pt22, Pt34, Pt35])) := ⟨⟨f18, _, _, ok_grant B TB18 DGR m_Pt18 m_Pt6 l18 cc18 c_is_tuple_of c_is_tuple_within c_is_list_name c_is_role c_is_pattern c_is_integer, PySem.W.mg_of X G a18, k18, b18⟩⟩
  have DG : DdC mg := ⟨⟨_, PySem.W.mg_of X G v_DIGEST_LENGTH⟩, ⟨_, PySem.W.mg_of X G v_DIGEST_MARKS⟩⟩
  have c_is_digest : Cal l.prog w K mg base CX0 (3) "is_digest" (spDoc isDig ([Pt6, Pt7, Pt8, Pt16, Pt17, Pt18, Pt19, Pt21, Pt22, Pt34, Pt35])) := ⟨⟨f17, _, _, ok_digestD B TB17 DG m_Pt17 l17 cc17, PySem.W.mg_of X G a17, k17, b17⟩⟩
  have c_is_entry : Cal l.prog w K mg base CX0 (4) "_is_entry" (spDoc isEntry ([Pt6, Pt7, Pt8, Pt16, Pt17, Pt18, Pt19, Pt21, Pt22, Pt34, Pt35])) := ⟨⟨f29, _, _, ok_entry F29 B c_is_tuple_of c_is_version c_is_amount c_is_digest, PySem.W.mg_of X G a29, k29, b29⟩⟩
  have c_is_good : Cal l.prog w K mg base CX0 (8) "_is_good" (spDoc isGood ([Pt6, Pt7, Pt8, Pt16, Pt17, Pt18, Pt19, Pt21, Pt22, Pt34, Pt35])) := ⟨⟨f31, _, _, ok_good F31 B c_is_tuple_of c_is_path c_is_amount c_is_digest, PySem.W.mg_of X G a31, k31, b31⟩⟩
  have c_is_charter : Cal l.prog w K mg base CX0 (12) "is_charter" (spDoc isCharter ([Pt6, Pt7, Pt8, Pt16, Pt17, Pt18, Pt19, Pt21, Pt22, Pt34, Pt35])) := ⟨⟨f19, _, _, ok_charter B TB19 DCH m_Pt19 l19 cc19 c_is_headed c_is_version c_is_amount c_is_tuple_of c_is_role, PySem.W.mg_of X G a19, k19, b19⟩⟩
  have c_is_stamp : Cal l.prog w K mg base CX0 (12) "is_stamp" (spDoc isStamp ([Pt6, Pt7, Pt8, Pt16, Pt17, Pt18, Pt19, Pt21, Pt22, Pt34, Pt35])) := ⟨⟨f20, _, _, ok_stamp F20 B c_is_headed c_is_version c_is_amount c_is_entry, PySem.W.mg_of X G a20, k20, b20⟩⟩
  have c_is_named_entry : Cal l.prog w K mg base CX0 (5) "_is_named_entry" (spDoc isNE ([Pt6, Pt7, Pt8, Pt16, Pt17, Pt18, Pt19, Pt21, Pt22, Pt34, Pt35])) := ⟨⟨f30, _, _, ok_nentry F30 B m_Pt6 c_is_tuple_of c_is_list_name c_is_entry, PySem.W.mg_of X G a30, k30, b30⟩⟩
  have c_is_shelf : Cal l.prog w K mg base CX0 (12) "is_shelf" (spDoc isShelf ([Pt6, Pt7, Pt8, Pt16, Pt17, Pt18, Pt19, Pt21, Pt22, Pt34, Pt35])) := ⟨⟨f21, _, _, ok_shelf B TB21 DSH m_Pt21 l21 cc21 c_is_headed c_is_version c_is_amount c_is_tuple_within c_is_named_entry c_ascends, PySem.W.mg_of X G a21, k21, b21⟩⟩
  have c_is_list : Cal l.prog w K mg base CX0 (15) "is_list" (spDoc isList ([Pt6, Pt7, Pt8, Pt16, Pt17, Pt18, Pt19, Pt21, Pt22, Pt34, Pt35])) := ⟨⟨f22, _, _, ok_list B (PySem.W.mg_none_of X G z_sorted) TB22 DLS m_Pt22 m_Pt6 l22 cc22 c_is_headed c_is_list_name c_is_version c_is_amount c_is_tuple_within c_is_good c_is_grant c_ascends, PySem.W.mg_of X G a22, k22, b22⟩⟩
  have c_is_printable : Cal l.prog w K mg base CX0 (3) "is_printable" (spPrn Pt8) := ⟨⟨f8, _, _, ok_printable B (PySem.W.mg_of X G v_BARRED_CODE) TB8 l8 cc8, PySem.W.mg_of X G a8, k8, b8⟩⟩
  have TX : TxtC K mg C_BadText t_MOST_DIGITS t_MOST_DEPTH t_MOST_TEXT := ⟨E_BadText, PySem.W.mg_of X G v_MOST_DIGITS, PySem.W.mg_of X G v_MOST_DEPTH, PySem.W.mg_of X G v_MOST_TEXT⟩
  have c_end_of_digits : Cal l.prog w K mg base CX0 (1) "_end_of_digits" (spEod) := ⟨⟨f14, _, _, ok_eod F14 B, PySem.W.mg_of X G a14, k14, b14⟩⟩
  have c_number_of : Cal l.prog w K mg base (L2N.CX l.prog w) (2) "_number_of" (spNum C_BadText) := ⟨⟨f15, _, _, ok_number F15 B TX, PySem.W.mg_of X G a15, k15, b15⟩⟩
  have c_string_at : Cal l.prog w K mg base (L2N.CX l.prog w) (2) "_string_at" (spStrAt C_BadText) := ⟨⟨f13, _, _, ok_string_at F13 B TX, PySem.W.mg_of X G a13, k13, b13⟩⟩
  have r_tat : ∀ n : Nat, Cal l.prog w K mg base (L2N.CX l.prog w) (2 * n + 4) "_tuple_at" (spTupAt C_BadText n) := by
    intro n
    induction n with
    | zero => exact ⟨⟨f12, _, _, ok_tuple_at0 F12 B TX, PySem.W.mg_of X G a12, k12, b12⟩⟩
    | succ n ih =>
      have c1 : Cal l.prog w K mg base (L2N.CX l.prog w) (2 * n + 5) "_value_at" (spVal C_BadText n) := ⟨⟨f11, _, _, ok_value_at (by omega) F11 B TX c_end_of_digits c_number_of c_string_at ih, PySem.W.mg_of X G a11, k11, b11⟩⟩
      exact ⟨⟨f12, _, _, ok_tuple_at (by omega) F12 B TX c1, PySem.W.mg_of X G a12, k12, b12⟩⟩
  have c_val8 : Cal l.prog w K mg base (L2N.CX l.prog w) (21) "_value_at" (spVal C_BadText 8) := ⟨⟨f11, _, _, ok_value_at (by omega) F11 B TX c_end_of_digits c_number_of c_string_at (r_tat 8), PySem.W.mg_of X G a11, k11, b11⟩⟩
  have c_decode : Cal l.prog w K mg base (L2N.CX l.prog w) (23) "decode" (spDec C_BadText Pt8) := ⟨⟨f10, _, _, ok_decode F10 B TX c_is_printable (c_val8.mono (by decide)), PySem.W.mg_of X G a10, k10, b10⟩⟩
  have DO : OpC mg := ⟨⟨_, PySem.W.mg_of X G v_MOST_MARK⟩, ⟨_, PySem.W.mg_of X G v_MOST_SEALS⟩⟩
  have c_is_seal : Cal l.prog w K mg base CX0 (5) "_is_seal" (spSeal Pt6) := ⟨⟨f36, _, _, ok_seal F36 B DO c_is_key, PySem.W.mg_of X G a36, k36, b36⟩⟩
  have c_is_content : Cal l.prog w K mg base CX0 (8) "_is_content" (spCont ([Pt6, Pt7, Pt8, Pt16, Pt17, Pt18, Pt19, Pt21, Pt22, Pt34, Pt35])) := ⟨⟨f35, _, _, ok_content B TB35 DO m_Pt35 m_Pt6 l35 cc35 c_is_seal c_ascends, PySem.W.mg_of X G a35, k35, b35⟩⟩
  have c_opened : Cal l.prog w K mg base (L2N.CX l.prog w) (24) "opened" (spOpen C_BadText ([Pt6, Pt7, Pt8, Pt16, Pt17, Pt18, Pt19, Pt21, Pt22, Pt34, Pt35])) := ⟨⟨f33, _, _, ok_opened F33 B E_BadText m_Pt8 c_decode c_is_content, PySem.W.mg_of X G a33, k33, b33⟩⟩
  have c_openedX := c_opened.toG.ofG
  have Fi_Refused := fun_mk (st := s_Refused___init) li_Refused ci_Refused ki_Refused
  have bi_Refused := Fi_Refused.binds (ps := ["self", "reason"]) fun _ _ _ _ _ _ us hl => match us, hl with | [_, _], _ => rfl
  have EO_Refused : EOwn l.prog w K mg base "Refused" C_Refused := ⟨PySem.W.mg_of X G g_Refused, oo_Refused, nn_Refused, ⟨_, _, ai_Refused, ti_Refused, ok_rin_Refused Fi_Refused, okh_rin_Refused Fi_Refused, bi_Refused⟩, xfB_ok xf_Refused, em_Refused⟩
  have ES : EsC l.prog w K mg base C_BadText C_BadDocument C_Refused := ⟨E_BadText, E_BadDocument, EO_Refused, xkb1, xkb2⟩
  have c_is_document : Cal l.prog w K mg base CX0 (16) "_is_document" (spIsK ([Pt6, Pt7, Pt8, Pt16, Pt17, Pt18, Pt19, Pt21, Pt22, Pt34, Pt35])) := ⟨⟨f32, _, _, ok_isK F32 B c_is_charter c_is_stamp c_is_shelf c_is_list, PySem.W.mg_of X G a32, k32, b32⟩⟩
  have c_read : Cal l.prog w K mg base (CXG l.prog w) (24) "read" (spRead C_BadDocument ([Pt6, Pt7, Pt8, Pt16, Pt17, Pt18, Pt19, Pt21, Pt22, Pt34, Pt35])) := ⟨⟨f24, _, _, ok_read F24 B ES m_Pt8 c_decode.toG c_is_document, PySem.W.mg_of X G a24, k24, b24⟩⟩
  have TS : SlC K mg C_Seals C_BadKey C_BadText := ⟨cl_Seals, na_marks_Seals, E_BadKey, E_BadText⟩
  have k_Seals : CalK l.prog w K mg base CX0 (1) C_Seals "Seals" (spInit C_Seals) := ⟨⟨f52, _, _, ok_sinit F52 TS, ⟨mk_Seals, a52, i52, kc_Seals⟩, b52⟩, PySem.W.mg_of X G aC_Seals⟩
  have m_make : CalM l.prog w K mg base (L2.CX l.prog w) (5) C_Seals "make" (spMake C_Seals C_BadKey C_BadText ([Pt6, Pt7, Pt8, Pt16, Pt17, Pt18, Pt19, Pt21, Pt22, Pt34, Pt35])) := ⟨⟨f53, _, _, ok_smake F53 B TS m_Pt8 m_Pt6 c_is_key c_is_printable c_digest, ⟨a53, i53, k53⟩, b53⟩, cl_Seals⟩
  have m_holds : CalM l.prog w K mg base CX0 (1) C_Seals "holds" (spHolds C_Seals) := ⟨⟨f54, _, _, ok_sholds F54 B TS, ⟨a54, i54, k54⟩, b54⟩, cl_Seals⟩
  have c_support : Cal l.prog w K mg base (L2.CX l.prog w) (25) "support" (spSupp C_Seals C_BadText ([Pt6, Pt7, Pt8, Pt16, Pt17, Pt18, Pt19, Pt21, Pt22, Pt34, Pt35]) K) := ⟨⟨f34, _, _, ok_support B (PySem.W.mg_none_of X G z_sum) TB34 m_Pt34 l34 cc34 c_openedX m_holds, PySem.W.mg_of X G a34, k34, b34⟩⟩
  have c_law_once : Cal l.prog w K mg base CX0 (1) "_law_once" (spOnce K) := ⟨⟨f58, _, _, ok_once F58 B (PySem.W.mg_none_of X G z_sorted), PySem.W.mg_of X G a58, k58, b58⟩⟩
  have c_law_digest : Cal l.prog w K mg base CX0 (1) "_law_digest" (spLDig) := ⟨⟨f59, _, _, ok_ldig F59 B, PySem.W.mg_of X G a59, k59, b59⟩⟩
  have c_law_says : Cal l.prog w K mg base CX0 (1) "_law_says" (spSays) := ⟨⟨f60, _, _, ok_says F60 B, PySem.W.mg_of X G a60, k60, b60⟩⟩
  have r_lt : ∀ n : Nat, Cal l.prog w K mg base CX0 (n) "_law_text" (spLTextR n) := by
    intro n
    induction n with
    | zero => exact ⟨⟨f61, _, _, ok_never, PySem.W.mg_of X G a61, k61, b61⟩⟩
    | succ n ih => exact ⟨⟨f61, _, _, ok_ltext F61 B ih, PySem.W.mg_of X G a61, k61, b61⟩⟩
  have c_law_text : Cal l.prog w K mg base CX0 (9) "_law_text" (spLText 8) := r_lt 9
  have r_ls : ∀ n : Nat, Cal l.prog w K mg base CX0 (n) "_law_same" (spSameR n) := by
    intro n
    induction n with
    | zero => exact ⟨⟨f62, _, _, ok_never, PySem.W.mg_of X G a62, k62, b62⟩⟩
    | succ n ih => exact ⟨⟨f62, _, _, ok_same F62 B ih, PySem.W.mg_of X G a62, k62, b62⟩⟩
  have c_law_same : Cal l.prog w K mg base CX0 (9) "_law_same" (spSame 8) := r_ls 9
  have c_law_keys : Cal l.prog w K mg base CX0 (2) "_law_keys" (spKeys35) := ⟨⟨f63, _, _, ok_lkeys35 F63 B c_law_take c_law_once, PySem.W.mg_of X G a63, k63, b63⟩⟩
  have c_law_role : Cal l.prog w K mg base CX0 (3) "_law_role" (spRole35) := ⟨⟨f64, _, _, ok_lrole35 F64 B c_law_take c_law_keys, PySem.W.mg_of X G a64, k64, b64⟩⟩
  have c_law_time : Cal l.prog w K mg base CX0 (2) "_law_time" (spTime35) := ⟨⟨f65, _, _, ok_ltime35 F65 B c_law_take, PySem.W.mg_of X G a65, k65, b65⟩⟩
  have c_law_pairs : Cal l.prog w K mg base CX0 (7) "_law_pairs" (spPairs35 C_Seals ([Pt6, Pt7, Pt8, Pt16, Pt17, Pt18, Pt19, Pt21, Pt22, Pt34, Pt35])) := ⟨⟨f66, _, _, ok_lpairs35 F66 B c_law_take c_law_keys c_law_once c_law_digest m_make, PySem.W.mg_of X G a66, k66, b66⟩⟩
  have RN : RnC K mg R_RN := ⟨PySem.W.mg_of X G g_RN, ⟨o_RN, its_RN, n_RN, lo_RN, cl_RN, di_RN, da_RN, sz_RN, va_RN⟩⟩
  have TT : TrC K C_Trusted := ⟨cl_Trusted, na_office_Trusted, na_documents_Trusted, na_sealed_Trusted, na_roles_Trusted, na_lists_Trusted⟩
  have c_role_of : Cal l.prog w K mg base CX0 (1) "role_of" (spRoleOf) := ⟨⟨f49, _, _, ok_roleof F49 RN, PySem.W.mg_of X G a49, k49, b49⟩⟩
  have c_document_in : Cal l.prog w K mg base (CXG l.prog w) (25) "_document_in" (spDocIn C_Refused ([Pt6, Pt7, Pt8, Pt16, Pt17, Pt18, Pt19, Pt21, Pt22, Pt34, Pt35])) := ⟨⟨f50, _, _, ok_docin F50 ES c_opened.toG c_read, PySem.W.mg_of X G a50, k50, b50⟩⟩
  have c_require_signed : Cal l.prog w K mg base (CXG l.prog w) (26) "_require_signed" (spSgn C_Seals C_Refused ([Pt6, Pt7, Pt8, Pt16, Pt17, Pt18, Pt19, Pt21, Pt22, Pt34, Pt35])) := ⟨⟨f51, _, _, ok_reqsigned F51 ES c_support, PySem.W.mg_of X G a51, k51, b51⟩⟩
  have m_Trusted_charter : CalM l.prog w K mg base CX0 (1) C_Trusted "charter" (spTDoc C_Trusted kC) := ⟨⟨f41, _, _, ok_tch F41 B TT, ⟨a41, i41, k41⟩, b41⟩, cl_Trusted⟩
  have m_Trusted_stamp : CalM l.prog w K mg base CX0 (1) C_Trusted "stamp" (spTDoc C_Trusted kT) := ⟨⟨f42, _, _, ok_tst F42 B TT, ⟨a42, i42, k42⟩, b42⟩, cl_Trusted⟩
  have m_Trusted_shelf : CalM l.prog w K mg base CX0 (1) C_Trusted "shelf" (spTDoc C_Trusted kF) := ⟨⟨f43, _, _, ok_tsh F43 B TT, ⟨a43, i43, k43⟩, b43⟩, cl_Trusted⟩
  have m_Trusted_sealed : CalM l.prog w K mg base CX0 (1) C_Trusted "sealed" (spTSealed C_Trusted) := ⟨⟨f46, _, _, ok_tse F46 B TT, ⟨a46, i46, k46⟩, b46⟩, cl_Trusted⟩
  have m_Trusted_roles : CalM l.prog w K mg base CX0 (1) C_Trusted "roles" (spTRoles C_Trusted) := ⟨⟨f47, _, _, ok_tro F47 B TT, ⟨a47, i47, k47⟩, b47⟩, cl_Trusted⟩
  have m_Trusted_list_of : CalM l.prog w K mg base CX0 (1) C_Trusted "list_of" (spTList C_Trusted 0) := ⟨⟨f44, _, _, ok_tlo F44 B TT, ⟨a44, i44, k44⟩, b44⟩, cl_Trusted⟩
  have m_Trusted_list_role : CalM l.prog w K mg base CX0 (1) C_Trusted "list_role" (spTList C_Trusted 1) := ⟨⟨f45, _, _, ok_tlr F45 B TT, ⟨a45, i45, k45⟩, b45⟩, cl_Trusted⟩
  have m_Trusted_present_roles : CalM l.prog w K mg base CX0 (2) C_Trusted "_present_roles" (spTPres C_Trusted) := ⟨⟨f48, _, _, ok_tpr F48 B TT m_Trusted_charter c_role_of, ⟨a48, i48, k48⟩, b48⟩, cl_Trusted⟩
  have m_Trusted_outdated : CalM l.prog w K mg base CX0 (3) C_Trusted "outdated" (spTOut C_Trusted) := ⟨⟨f38, _, _, ok_tou F38 B TT m_Trusted_stamp m_Trusted_present_roles, ⟨a38, i38, k38⟩, b38⟩, cl_Trusted⟩
  have m_Trusted_is_current : CalM l.prog w K mg base CX0 (2) C_Trusted "is_current" (spTCur C_Trusted) := ⟨⟨f40, _, _, ok_tcu F40 B TT m_Trusted_stamp m_Trusted_shelf c_digest, ⟨a40, i40, k40⟩, b40⟩, cl_Trusted⟩
  have m_Trusted_forget : CalM l.prog w K mg base CX0 (1) C_Trusted "forget" (spTForg C_Trusted) := ⟨⟨f39, _, _, ok_tfo F39 B TT, ⟨a39, i39, k39⟩, b39⟩, cl_Trusted⟩
  have k_Trusted : CalK l.prog w K mg base (CXG l.prog w) (27) C_Trusted "Trusted" (spTInit C_Trusted C_Seals C_Refused ([Pt6, Pt7, Pt8, Pt16, Pt17, Pt18, Pt19, Pt21, Pt22, Pt34, Pt35])) := ⟨⟨f37, _, _, ok_tinit F37 TT c_document_in c_require_signed c_role_of, ⟨mk_Trusted, a37, i37, kc_Trusted⟩, b37⟩, PySem.W.mg_of X G aC_Trusted⟩
  have c_law_first : Cal l.prog w K mg base CX0 (10) "_law_first" (spFirst35 C_Seals ([Pt6, Pt7, Pt8, Pt16, Pt17, Pt18, Pt19, Pt21, Pt22, Pt34, Pt35])) := ⟨⟨f67, _, _, ok_lfirst35 F67 B c_law_take c_law_role c_law_time c_law_pairs c_law_text, PySem.W.mg_of X G a67, k67, b67⟩⟩
  have c_law_refusal : Cal l.prog w K mg base CX0 (29) "_law_refusal" (spRefu35 C_Seals ([Pt6, Pt7, Pt8, Pt16, Pt17, Pt18, Pt19, Pt21, Pt22, Pt34, Pt35])) := ⟨⟨f68, _, _, ok_lrefu35 F68 B ES xeR xkR (PySem.W.mg_of X G g_ChartError) k_Trusted, PySem.W.mg_of X G a68, k68, b68⟩⟩
  have c_law_bare : Cal l.prog w K mg base CX0 (10) "_law_bare" (spBare35 C_Trusted) := ⟨⟨f69, _, _, ok_lbare35 F69 B m_Trusted_charter m_Trusted_stamp m_Trusted_shelf m_Trusted_sealed m_Trusted_roles m_Trusted_list_of m_Trusted_list_role m_Trusted_outdated m_Trusted_is_current c_law_same c_law_says, PySem.W.mg_of X G a69, k69, b69⟩⟩
  exact ok_law35 F70 B c_law_cell c_law_stream c_law_first c_law_refusal c_law_bare k_Seals k_Trusted m_Trusted_forget
end SC
open PySem PySem.W PyProof.Rows
set_option maxRecDepth 100000 in
set_option maxHeartbeats 0 in
theorem PySem.Challenge.cw_sealchart_k35_making_a_trusted_set_holds : PySem.Challenge.rw_sealchart_k35_making_a_trusted_set.Holds := by
  w_on; o_law; k_head; (case hw => w_witness2)
  k_fill
  refine SC.walk_tab (l := PySem.Challenge.rw_sealchart_k35_making_a_trusted_set) (CX := fun _ => L2.CX0) (k := 30) (n := 63) (x := "script") rfl (by decide) rfl ⟨rfl, by decide, by decide⟩ (fun w h Y => PySem.W.kIn_of Y) (fun _ _ _ _ _ z => z) ?F
  case F =>
    intro w mg mb lo mean fa h T KX G hmg
    refine' SC.all_mk T KX G hmg ?aC_Seals ?pg_Seals ?hd_Seals ?po_Seals ?sa_Seals ?mk_Seals ?kc_Seals ?na_marks_Seals ?aC_Trusted ?pg_Trusted ?hd_Trusted ?po_Trusted ?sa_Trusted ?mk_Trusted ?kc_Trusted ?na_office_Trusted ?na_documents_Trusted ?na_sealed_Trusted ?na_roles_Trusted ?na_lists_Trusted ?a0 ?l0 ?cc0 ?k0 ?a1 ?l1 ?cc1 ?k1 ?a2 ?l2 ?cc2 ?k2 ?a3 ?l3 ?cc3 ?k3 ?a4 ?l4 ?cc4 ?k4 ?a5 ?l5 ?cc5 ?k5 ?a6 ?l6 ?cc6 ?k6 ?a7 ?l7 ?cc7 ?k7 ?a8 ?l8 ?cc8 ?k8 ?a9 ?l9 ?cc9 ?k9 ?a10 ?l10 ?cc10 ?k10 ?a11 ?l11 ?cc11 ?k11 ?a12 ?l12 ?cc12 ?k12 ?a13 ?l13 ?cc13 ?k13 ?a14 ?l14 ?cc14 ?k14 ?a15 ?l15 ?cc15 ?k15 ?a16 ?l16 ?cc16 ?k16 ?a17 ?l17 ?cc17 ?k17 ?a18 ?l18 ?cc18 ?k18 ?a19 ?l19 ?cc19 ?k19 ?a20 ?l20 ?cc20 ?k20 ?a21 ?l21 ?cc21 ?k21 ?a22 ?l22 ?cc22 ?k22 ?a23 ?l23 ?cc23 ?k23 ?a24 ?l24 ?cc24 ?k24 ?a25 ?l25 ?cc25 ?k25 ?a26 ?l26 ?cc26 ?k26 ?a27 ?l27 ?cc27 ?k27 ?a28 ?l28 ?cc28 ?k28 ?a29 ?l29 ?cc29 ?k29 ?a30 ?l30 ?cc30 ?k30 ?a31 ?l31 ?cc31 ?k31 ?a32 ?l32 ?cc32 ?k32 ?a33 ?l33 ?cc33 ?k33 ?a34 ?l34 ?cc34 ?k34 ?a35 ?l35 ?cc35 ?k35 ?a36 ?l36 ?cc36 ?k36 ?a37 ?i37 ?l37 ?cc37 ?k37 ?a38 ?i38 ?l38 ?cc38 ?k38 ?a39 ?i39 ?l39 ?cc39 ?k39 ?a40 ?i40 ?l40 ?cc40 ?k40 ?a41 ?i41 ?l41 ?cc41 ?k41 ?a42 ?i42 ?l42 ?cc42 ?k42 ?a43 ?i43 ?l43 ?cc43 ?k43 ?a44 ?i44 ?l44 ?cc44 ?k44 ?a45 ?i45 ?l45 ?cc45 ?k45 ?a46 ?i46 ?l46 ?cc46 ?k46 ?a47 ?i47 ?l47 ?cc47 ?k47 ?a48 ?i48 ?l48 ?cc48 ?k48 ?a49 ?l49 ?cc49 ?k49 ?a50 ?l50 ?cc50 ?k50 ?a51 ?l51 ?cc51 ?k51 ?a52 ?i52 ?l52 ?cc52 ?k52 ?a53 ?i53 ?l53 ?cc53 ?k53 ?a54 ?i54 ?l54 ?cc54 ?k54 ?a55 ?l55 ?cc55 ?k55 ?a56 ?l56 ?cc56 ?k56 ?a57 ?l57 ?cc57 ?k57 ?a58 ?l58 ?cc58 ?k58 ?a59 ?l59 ?cc59 ?k59 ?a60 ?l60 ?cc60 ?k60 ?a61 ?l61 ?cc61 ?k61 ?a62 ?l62 ?cc62 ?k62 ?a63 ?l63 ?cc63 ?k63 ?a64 ?l64 ?cc64 ?k64 ?a65 ?l65 ?cc65 ?k65 ?a66 ?l66 ?cc66 ?k66 ?a67 ?l67 ?cc67 ?k67 ?a68 ?l68 ?cc68 ?k68 ?a69 ?l69 ?cc69 ?k69 ?a70 ?l70 ?cc70 ?k70 ?z_len ?z_int ?z_str ?z_bool ?z_list ?z_tuple ?z_range ?z_isinstance ?z_ord ?z_all ?v_FACTOR ?v_DIVISOR ?v_LETTERS ?v_DIGITS ?v_PART_MARKS ?v_MOST_NAME ?v_MOST_PARTS ?v_MOST_PATH ?v_MOST_KEYS ?v_MOST_NUMBER ?v_DIGEST_LENGTH ?v_DIGEST_MARKS ?v_MOST_PATTERNS ?v_MOST_GOODS ?v_MOST_LISTS ?v_TOP_LIST ?v_ROLES ?v_BARRED_CODE ?v_MOST_DIGITS ?v_MOST_DEPTH ?v_MOST_TEXT ?v_MOST_SEALS ?v_MOST_MARK ?g_BadText ?e_BadText ?ke_BadText ?be_BadText ?te_BadText ?ie_BadText ?se_BadText ?g_BadDocument ?e_BadDocument ?ke_BadDocument ?be_BadDocument ?te_BadDocument ?ie_BadDocument ?se_BadDocument ?g_BadKey ?e_BadKey ?ke_BadKey ?be_BadKey ?te_BadKey ?ie_BadKey ?se_BadKey ?g_Refused ?ai_Refused ?li_Refused ?ci_Refused ?ki_Refused ?ti_Refused ?oo_Refused ?nn_Refused ?xf_Refused ?em_Refused ?xkb1 ?xkb2 ?g_ChartError ?xeR ?xkR ?z_sorted ?z_set ?z_sum ?g_RN ?lo_RN ?cl_RN ?di_RN ?da_RN ?sz_RN ?va_RN ?t1_6 ?u1_6 ?n1_6 ?r1_6 ?t1_7 ?u1_7 ?n1_7 ?r1_7 ?t1_8 ?u1_8 ?n1_8 ?r1_8 ?t1_16 ?u1_16 ?n1_16 ?r1_16 ?t1_17 ?u1_17 ?n1_17 ?r1_17 ?t1_18 ?u1_18 ?n1_18 ?r1_18 ?t1_19 ?u1_19 ?n1_19 ?r1_19 ?t1_21 ?u1_21 ?n1_21 ?r1_21 ?t1_22 ?u1_22 ?n1_22 ?r1_22 ?t1_34 ?u1_34 ?n1_34 ?r1_34 ?t1_35 ?u1_35 ?n1_35 ?r1_35
    (case aC_Seals => k_is)
    (case pg_Seals => k_is)
    (case hd_Seals => k_is)
    (case po_Seals => k_is)
    (case sa_Seals => k_is)
    (case mk_Seals => k_is)
    (case kc_Seals => k_is)
    (case na_marks_Seals => k_is)
    (case aC_Trusted => k_is)
    (case pg_Trusted => k_is)
    (case hd_Trusted => k_is)
    (case po_Trusted => k_is)
    (case sa_Trusted => k_is)
    (case mk_Trusted => k_is)
    (case kc_Trusted => k_is)
    (case na_office_Trusted => k_is)
    (case na_documents_Trusted => k_is)
    (case na_sealed_Trusted => k_is)
    (case na_roles_Trusted => k_is)
    (case na_lists_Trusted => k_is)
    (case a0 => k_is)
    (case l0 => k_is)
    (case cc0 => k_is)
    (case k0 => k_is)
    (case a1 => k_is)
    (case l1 => k_is)
    (case cc1 => k_is)
    (case k1 => k_is)
    (case a2 => k_is)
    (case l2 => k_is)
    (case cc2 => k_is)
    (case k2 => k_is)
    (case a3 => k_is)
    (case l3 => k_is)
    (case cc3 => k_is)
    (case k3 => k_is)
    (case a4 => k_is)
    (case l4 => k_is)
    (case cc4 => k_is)
    (case k4 => k_is)
    (case a5 => k_is)
    (case l5 => k_is)
    (case cc5 => k_is)
    (case k5 => k_is)
    (case a6 => k_is)
    (case l6 => k_is)
    (case cc6 => k_is)
    (case k6 => k_is)
    (case a7 => k_is)
    (case l7 => k_is)
    (case cc7 => k_is)
    (case k7 => k_is)
    (case a8 => k_is)
    (case l8 => k_is)
    (case cc8 => k_is)
    (case k8 => k_is)
    (case a9 => k_is)
    (case l9 => k_is)
    (case cc9 => k_is)
    (case k9 => k_is)
    (case a10 => k_is)
    (case l10 => k_is)
    (case cc10 => k_is)
    (case k10 => k_is)
    (case a11 => k_is)
    (case l11 => k_is)
    (case cc11 => k_is)
    (case k11 => k_is)
    (case a12 => k_is)
    (case l12 => k_is)
    (case cc12 => k_is)
    (case k12 => k_is)
    (case a13 => k_is)
    (case l13 => k_is)
    (case cc13 => k_is)
    (case k13 => k_is)
    (case a14 => k_is)
    (case l14 => k_is)
    (case cc14 => k_is)
    (case k14 => k_is)
    (case a15 => k_is)
    (case l15 => k_is)
    (case cc15 => k_is)
    (case k15 => k_is)
    (case a16 => k_is)
    (case l16 => k_is)
    (case cc16 => k_is)
    (case k16 => k_is)
    (case a17 => k_is)
    (case l17 => k_is)
    (case cc17 => k_is)
    (case k17 => k_is)
    (case a18 => k_is)
    (case l18 => k_is)
    (case cc18 => k_is)
    (case k18 => k_is)
    (case a19 => k_is)
    (case l19 => k_is)
    (case cc19 => k_is)
    (case k19 => k_is)
    (case a20 => k_is)
    (case l20 => k_is)
    (case cc20 => k_is)
    (case k20 => k_is)
    (case a21 => k_is)
    (case l21 => k_is)
    (case cc21 => k_is)
    (case k21 => k_is)
    (case a22 => k_is)
    (case l22 => k_is)
    (case cc22 => k_is)
    (case k22 => k_is)
    (case a23 => k_is)
    (case l23 => k_is)
    (case cc23 => k_is)
    (case k23 => k_is)
    (case a24 => k_is)
    (case l24 => k_is)
    (case cc24 => k_is)
    (case k24 => k_is)
    (case a25 => k_is)
    (case l25 => k_is)
    (case cc25 => k_is)
    (case k25 => k_is)
    (case a26 => k_is)
    (case l26 => k_is)
    (case cc26 => k_is)
    (case k26 => k_is)
    (case a27 => k_is)
    (case l27 => k_is)
    (case cc27 => k_is)
    (case k27 => k_is)
    (case a28 => k_is)
    (case l28 => k_is)
    (case cc28 => k_is)
    (case k28 => k_is)
    (case a29 => k_is)
    (case l29 => k_is)
    (case cc29 => k_is)
    (case k29 => k_is)
    (case a30 => k_is)
    (case l30 => k_is)
    (case cc30 => k_is)
    (case k30 => k_is)
    (case a31 => k_is)
    (case l31 => k_is)
    (case cc31 => k_is)
    (case k31 => k_is)
    (case a32 => k_is)
    (case l32 => k_is)
    (case cc32 => k_is)
    (case k32 => k_is)
    (case a33 => k_is)
    (case l33 => k_is)
    (case cc33 => k_is)
    (case k33 => k_is)
    (case a34 => k_is)
    (case l34 => k_is)
    (case cc34 => k_is)
    (case k34 => k_is)
    (case a35 => k_is)
    (case l35 => k_is)
    (case cc35 => k_is)
    (case k35 => k_is)
    (case a36 => k_is)
    (case l36 => k_is)
    (case cc36 => k_is)
    (case k36 => k_is)
    (case a37 => k_is)
    (case i37 => k_is)
    (case l37 => k_is)
    (case cc37 => k_is)
    (case k37 => k_is)
    (case a38 => k_is)
    (case i38 => k_is)
    (case l38 => k_is)
    (case cc38 => k_is)
    (case k38 => k_is)
    (case a39 => k_is)
    (case i39 => k_is)
    (case l39 => k_is)
    (case cc39 => k_is)
    (case k39 => k_is)
    (case a40 => k_is)
    (case i40 => k_is)
    (case l40 => k_is)
    (case cc40 => k_is)
    (case k40 => k_is)
    (case a41 => k_is)
    (case i41 => k_is)
    (case l41 => k_is)
    (case cc41 => k_is)
    (case k41 => k_is)
    (case a42 => k_is)
    (case i42 => k_is)
    (case l42 => k_is)
    (case cc42 => k_is)
    (case k42 => k_is)
    (case a43 => k_is)
    (case i43 => k_is)
    (case l43 => k_is)
    (case cc43 => k_is)
    (case k43 => k_is)
    (case a44 => k_is)
    (case i44 => k_is)
    (case l44 => k_is)
    (case cc44 => k_is)
    (case k44 => k_is)
    (case a45 => k_is)
    (case i45 => k_is)
    (case l45 => k_is)
    (case cc45 => k_is)
    (case k45 => k_is)
    (case a46 => k_is)
    (case i46 => k_is)
    (case l46 => k_is)
    (case cc46 => k_is)
    (case k46 => k_is)
    (case a47 => k_is)
    (case i47 => k_is)
    (case l47 => k_is)
    (case cc47 => k_is)
    (case k47 => k_is)
    (case a48 => k_is)
    (case i48 => k_is)
    (case l48 => k_is)
    (case cc48 => k_is)
    (case k48 => k_is)
    (case a49 => k_is)
    (case l49 => k_is)
    (case cc49 => k_is)
    (case k49 => k_is)
    (case a50 => k_is)
    (case l50 => k_is)
    (case cc50 => k_is)
    (case k50 => k_is)
    (case a51 => k_is)
    (case l51 => k_is)
    (case cc51 => k_is)
    (case k51 => k_is)
    (case a52 => k_is)
    (case i52 => k_is)
    (case l52 => k_is)
    (case cc52 => k_is)
    (case k52 => k_is)
    (case a53 => k_is)
    (case i53 => k_is)
    (case l53 => k_is)
    (case cc53 => k_is)
    (case k53 => k_is)
    (case a54 => k_is)
    (case i54 => k_is)
    (case l54 => k_is)
    (case cc54 => k_is)
    (case k54 => k_is)
    (case a55 => k_is)
    (case l55 => k_is)
    (case cc55 => k_is)
    (case k55 => k_is)
    (case a56 => k_is)
    (case l56 => k_is)
    (case cc56 => k_is)
    (case k56 => k_is)
    (case a57 => k_is)
    (case l57 => k_is)
    (case cc57 => k_is)
    (case k57 => k_is)
    (case a58 => k_is)
    (case l58 => k_is)
    (case cc58 => k_is)
    (case k58 => k_is)
    (case a59 => k_is)
    (case l59 => k_is)
    (case cc59 => k_is)
    (case k59 => k_is)
    (case a60 => k_is)
    (case l60 => k_is)
    (case cc60 => k_is)
    (case k60 => k_is)
    (case a61 => k_is)
    (case l61 => k_is)
    (case cc61 => k_is)
    (case k61 => k_is)
    (case a62 => k_is)
    (case l62 => k_is)
    (case cc62 => k_is)
    (case k62 => k_is)
    (case a63 => k_is)
    (case l63 => k_is)
    (case cc63 => k_is)
    (case k63 => k_is)
    (case a64 => k_is)
    (case l64 => k_is)
    (case cc64 => k_is)
    (case k64 => k_is)
    (case a65 => k_is)
    (case l65 => k_is)
    (case cc65 => k_is)
    (case k65 => k_is)
    (case a66 => k_is)
    (case l66 => k_is)
    (case cc66 => k_is)
    (case k66 => k_is)
    (case a67 => k_is)
    (case l67 => k_is)
    (case cc67 => k_is)
    (case k67 => k_is)
    (case a68 => k_is)
    (case l68 => k_is)
    (case cc68 => k_is)
    (case k68 => k_is)
    (case a69 => k_is)
    (case l69 => k_is)
    (case cc69 => k_is)
    (case k69 => k_is)
    (case a70 => k_is)
    (case l70 => k_is)
    (case cc70 => k_is)
    (case k70 => k_is)
    (case z_len => k_is)
    (case z_int => k_is)
    (case z_str => k_is)
    (case z_bool => k_is)
    (case z_list => k_is)
    (case z_tuple => k_is)
    (case z_range => k_is)
    (case z_isinstance => k_is)
    (case z_ord => k_is)
    (case z_all => k_is)
    (case v_FACTOR => k_is)
    (case v_DIVISOR => k_is)
    (case v_LETTERS => k_is)
    (case v_DIGITS => k_is)
    (case v_PART_MARKS => k_is)
    (case v_MOST_NAME => k_is)
    (case v_MOST_PARTS => k_is)
    (case v_MOST_PATH => k_is)
    (case v_MOST_KEYS => k_is)
    (case v_MOST_NUMBER => k_is)
    (case v_DIGEST_LENGTH => k_is)
    (case v_DIGEST_MARKS => k_is)
    (case v_MOST_PATTERNS => k_is)
    (case v_MOST_GOODS => k_is)
    (case v_MOST_LISTS => k_is)
    (case v_TOP_LIST => k_is)
    (case v_ROLES => k_is)
    (case v_BARRED_CODE => k_is)
    (case v_MOST_DIGITS => k_is)
    (case v_MOST_DEPTH => k_is)
    (case v_MOST_TEXT => k_is)
    (case v_MOST_SEALS => k_is)
    (case v_MOST_MARK => k_is)
    (case g_BadText => k_is)
    (case e_BadText => first | k_is | kernel_rfl | rfl)
    (case ke_BadText => k_is)
    (case be_BadText => first | k_is | kernel_rfl | rfl)
    (case te_BadText => first | k_is | kernel_rfl | rfl)
    (case ie_BadText => first | k_is | kernel_rfl | rfl)
    (case se_BadText => first | k_is | kernel_rfl | rfl)
    (case g_BadDocument => k_is)
    (case e_BadDocument => first | k_is | kernel_rfl | rfl)
    (case ke_BadDocument => k_is)
    (case be_BadDocument => first | k_is | kernel_rfl | rfl)
    (case te_BadDocument => first | k_is | kernel_rfl | rfl)
    (case ie_BadDocument => first | k_is | kernel_rfl | rfl)
    (case se_BadDocument => first | k_is | kernel_rfl | rfl)
    (case g_BadKey => k_is)
    (case e_BadKey => first | k_is | kernel_rfl | rfl)
    (case ke_BadKey => k_is)
    (case be_BadKey => first | k_is | kernel_rfl | rfl)
    (case te_BadKey => first | k_is | kernel_rfl | rfl)
    (case ie_BadKey => first | k_is | kernel_rfl | rfl)
    (case se_BadKey => first | k_is | kernel_rfl | rfl)
    (case g_Refused => k_is)
    (case ai_Refused => k_is)
    (case li_Refused => k_is)
    (case ci_Refused => k_is)
    (case ki_Refused => k_is)
    (case ti_Refused => first | k_is | kernel_rfl | rfl)
    (case oo_Refused => refine' ⟨⟨_, _, _, _, _, _, _, _, _, _, _, _, _, _, _, ?x1, ?x2⟩, ?x3, ?x4, ?x5, ?x6⟩; (case x1 => first | k_is | rfl); (case x2 => first | kernel_rfl | rfl); (case x3 => first | k_is | kernel_rfl | rfl); (case x4 => first | k_is | kernel_rfl | rfl); (case x5 => first | k_is | kernel_rfl | rfl); (case x6 => first | k_is | kernel_rfl | rfl))
    (case nn_Refused => first | k_is | kernel_rfl | rfl)
    (case xf_Refused => first | k_is | kernel_rfl | rfl)
    (case em_Refused => first | k_is | kernel_rfl | rfl)
    (case xkb1 => first | k_is | kernel_rfl | rfl)
    (case xkb2 => first | k_is | kernel_rfl | rfl)
    (case g_ChartError => k_is)
    (case xeR => refine ⟨?_, ?_, ?_, ?_, ?_, ?_, ?_, ?_⟩ <;> first | k_is | kernel_rfl | rfl)
    (case xkR => first | k_is | kernel_rfl | rfl)
    (case z_sorted => k_is)
    (case z_set => k_is)
    (case z_sum => k_is)
    (case g_RN => k_is)
    (case lo_RN => k_is)
    (case cl_RN => rfl)
    (case di_RN => rfl)
    (case da_RN => rfl)
    (case sz_RN => rw [sizeLine_eq]; decide)
    (case va_RN => exact .cons ⟨_, rfl⟩ (.cons ⟨_, rfl⟩ (.cons ⟨_, rfl⟩ (.cons ⟨_, rfl⟩ .nil))))
    (case t1_6 => k_is)
    (case u1_6 => rfl)
    (case n1_6 => first | kernel_rfl | rfl)
    (case r1_6 => rfl)
    (case t1_7 => k_is)
    (case u1_7 => rfl)
    (case n1_7 => first | kernel_rfl | rfl)
    (case r1_7 => rfl)
    (case t1_8 => k_is)
    (case u1_8 => rfl)
    (case n1_8 => first | kernel_rfl | rfl)
    (case r1_8 => rfl)
    (case t1_16 => k_is)
    (case u1_16 => rfl)
    (case n1_16 => first | kernel_rfl | rfl)
    (case r1_16 => rfl)
    (case t1_17 => k_is)
    (case u1_17 => rfl)
    (case n1_17 => first | kernel_rfl | rfl)
    (case r1_17 => rfl)
    (case t1_18 => k_is)
    (case u1_18 => rfl)
    (case n1_18 => first | kernel_rfl | rfl)
    (case r1_18 => rfl)
    (case t1_19 => k_is)
    (case u1_19 => rfl)
    (case n1_19 => first | kernel_rfl | rfl)
    (case r1_19 => rfl)
    (case t1_21 => k_is)
    (case u1_21 => rfl)
    (case n1_21 => first | kernel_rfl | rfl)
    (case r1_21 => rfl)
    (case t1_22 => k_is)
    (case u1_22 => rfl)
    (case n1_22 => first | kernel_rfl | rfl)
    (case r1_22 => rfl)
    (case t1_34 => k_is)
    (case u1_34 => rfl)
    (case n1_34 => first | kernel_rfl | rfl)
    (case r1_34 => rfl)
    (case t1_35 => k_is)
    (case u1_35 => rfl)
    (case n1_35 => first | kernel_rfl | rfl)
    (case r1_35 => rfl)
--END
