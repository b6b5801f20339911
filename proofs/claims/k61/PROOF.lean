import PyProof.Rows.All
import Wide.All
import OpenK.AllK
import Wide.FinOn
import HandS.ForMost
import HandS.ForExc
import HandS.Wide
import HandS.IsInst
import HandS.AnyAll
import HandS.EndTab
import HandS.TupAny
import HandS.TupMul
import HandS.FStr
import HandS.StrMore
import HandS.WideBits
import KE.KxField
import HandS.Walk
import HandS.Replace
import HandS.Style
import HandS.Codes
import KE.KRevSl
import KE.KUnpackStar
import HandS.Zip
import HandS.GenList
import HandS.TupLen
import HandS.Deep
import HandS.ExcIs
import HandS.ExcOwn
import HandS.Set
import HandS.SetFor
import HandS.SetTxt0
import HandS.Strs
import PyProof.Rows.SortShellAny
import PyProof.SumWalk
import HandS.SuiteRaise
import HandS.SortRule
import PyProof.Rows.SortKeyStr
import HandS.HotCalls
import HandS.ExcInitHot
import HandS.ExcField
import KE.KExcIs
import HandS.More
import KE.KTryMore
import HandS.Head0
import HandS.Head1
import HandS.Head2
import HandS.HeadHook1
import HandS.HeadHook2
import HandS.Conv
import HandS.Iter
import HandS.DictComp
import KE.DataCmp
import HandS.WordsDict
import PySem.Challenge.RW_sealchart_k61_turned_charters
set_option Elab.async false
set_option linter.all false
set_option maxRecDepth 100000
set_option maxHeartbeats 2000000
namespace SC
open PySem L2
/-- the built-in names are the built-ins -/
structure Blt (mg : Str → Option Value) : Prop where
  len : mg "len" = none
  int : mg "int" = none
  str : mg "str" = none
  bool : mg "bool" = none
  list : mg "list" = none
  tuple : mg "tuple" = none
  range : mg "range" = none
  isinstance : mg "isinstance" = none
  ord : mg "ord" = none
  all : mg "all" = none
section
variable {X : Cx} {p p2 pos : Pos} {e : Expr} {es : List Expr} {t : TA}
theorem Blt.len_s (B : Blt X.mg) (ha : PA X (e :: es) t) (hg : Gl X "len" := by rfl) (he : starEach (e :: es) X.env = (false, eval e X.env) :: starEach es X.env := by rfl) (hpl : (backTo pos (starEach es X.env)).any (·.1) = false := by rfl) :
    PE X (.Call (.Name "len" p) (e :: es) [] pos) (tCB (fun xs H Q => ∃ z, xs = [.str z] ∧ z.length ≤ sizeLine ∧ Q (.int z.length) H) t) := pe_callB call_len_str hg B.len PySem.boot_len ha (he := he) (hpl := hpl)
theorem Blt.len_q (B : Blt X.mg) (ha : PA X (e :: es) t) (hg : Gl X "len" := by rfl) (he : starEach (e :: es) X.env = (false, eval e X.env) :: starEach es X.env := by rfl) (hpl : (backTo pos (starEach es X.env)).any (·.1) = false := by rfl) :
    PE X (.Call (.Name "len" p) (e :: es) [] pos) (tCB (fun xs H Q => ∃ p ys, xs = [.ref p] ∧ (SqL X.K H p ys ∨ SqT X.K H p ys) ∧ Q (.int ys.length) H) t) := pe_callB call_len_seq hg B.len PySem.boot_len ha (he := he) (hpl := hpl)
theorem call_intI : CallR X (.type "int") (fun xs H Q => ∃ i, xs = [.int i] ∧ Q (.int i) H) := fun pins s σ H xs us Q I r h => call_int1 pins s σ H xs us Q I r (.inl h)
theorem Blt.int_i (B : Blt X.mg) (ha : PA X (e :: es) t) (hg : Gl X "int" := by rfl) (he : starEach (e :: es) X.env = (false, eval e X.env) :: starEach es X.env := by rfl) (hpl : (backTo pos (starEach es X.env)).any (·.1) = false := by rfl) :
    PE X (.Call (.Name "int" p) (e :: es) [] pos) (tCB (fun xs H Q => ∃ i, xs = [.int i] ∧ Q (.int i) H) t) :=
  pe_callTy call_intI hg B.int (by decide +kernel) ha (he := he) (hpl := hpl)
theorem Blt.int_s (B : Blt X.mg) (ha : PA X (e :: es) t) (hg : Gl X "int" := by rfl) (he : starEach (e :: es) X.env = (false, eval e X.env) :: starEach es X.env := by rfl) (hpl : (backTo pos (starEach es X.env)).any (·.1) = false := by rfl) :
    PE X (.Call (.Name "int" p) (e :: es) [] pos) (tCB (fun xs H Q => ∃ a n, xs = [.str a] ∧ PySem.intText? a = some n ∧ a.length ≤ 640 ∧ Q (.int n) H) t) :=
  pe_callTy call_int_str hg B.int (by decide +kernel) ha (he := he) (hpl := hpl)
theorem Blt.str_i (B : Blt X.mg) (ha : PA X (e :: es) t) (hg : Gl X "str" := by rfl) (he : starEach (e :: es) X.env = (false, eval e X.env) :: starEach es X.env := by rfl) (hpl : (backTo pos (starEach es X.env)).any (·.1) = false := by rfl) :
    PE X (.Call (.Name "str" p) (e :: es) [] pos) (tCB (fun xs H Q => ∃ i, xs = [.int i] ∧ i.natAbs.log2 < 1920 ∧ Q (.str (toString i)) H) t) :=
  pe_callTy call_str_int hg B.str (by decide +kernel) ha (he := he) (hpl := hpl)
theorem Blt.isi (B : Blt X.mg) (ha : PA X (e :: es) t) (hg : Gl X "isinstance" := by rfl) (he : starEach (e :: es) X.env = (false, eval e X.env) :: starEach es X.env := by rfl) (hpl : (backTo pos (starEach es X.env)).any (·.1) = false := by rfl) :
    PE X (.Call (.Name "isinstance" p) (e :: es) [] pos) (tCB (rIsi X.K) t) := pe_callB call_isi hg B.isinstance (by decide +kernel) ha (he := he) (hpl := hpl)
theorem Blt.ord_ (B : Blt X.mg) (ha : PA X (e :: es) t) (hg : Gl X "ord" := by rfl) (he : starEach (e :: es) X.env = (false, eval e X.env) :: starEach es X.env := by rfl) (hpl : (backTo pos (starEach es X.env)).any (·.1) = false := by rfl) :
    PE X (.Call (.Name "ord" p) (e :: es) [] pos) (tCB (fun xs H Q => ∃ x, xs = [.str x] ∧ x.length = 1 ∧ Q (.int (x.cps.getD 0 0 : Nat)) H) t) :=
  pe_callB call_ord hg B.ord (by decide +kernel) ha (he := he) (hpl := hpl)
theorem Blt.tuple_l (B : Blt X.mg) (ha : PA X (e :: es) t) (hg : Gl X "tuple" := by rfl) (he : starEach (e :: es) X.env = (false, eval e X.env) :: starEach es X.env := by rfl) (hpl : (backTo pos (starEach es X.env)).any (·.1) = false := by rfl) :
    PE X (.Call (.Name "tuple" p) (e :: es) [] pos) (tCB (fun xs H Q => ∃ p ys, xs = [.ref p] ∧ ((SqL X.K H p ys ∧ ∀ l, H l = none → Q (.ref l) (upd H l (.tup ys))) ∨ (SqT X.K H p ys ∧ Q (.ref p) H))) t) :=
  pe_callTy call_tuple_of hg B.tuple (by decide +kernel) ha (he := he) (hpl := hpl)
theorem Blt.list_q (B : Blt X.mg) (ha : PA X (e :: es) t) (hg : Gl X "list" := by rfl) (he : starEach (e :: es) X.env = (false, eval e X.env) :: starEach es X.env := by rfl) (hpl : (backTo pos (starEach es X.env)).any (·.1) = false := by rfl) :
    PE X (.Call (.Name "list" p) (e :: es) [] pos) (tCB (fun xs H Q => ∃ p ys, xs = [.ref p] ∧ (SqL X.K H p ys ∨ SqT X.K H p ys) ∧ ∀ l, H l = none → Q (.ref l) (upd H l (.lst ys))) t) :=
  pe_callTy call_list_of hg B.list (by decide +kernel) ha (he := he) (hpl := hpl)
theorem Blt.v_int (B : Blt X.mg) (hg : Gl X "int" := by rfl) : PE X (.Name "int" p) (tC (.ty "int")) := pe_bltn hg B.int (by decide +kernel) rfl
theorem Blt.v_str (B : Blt X.mg) (hg : Gl X "str" := by rfl) : PE X (.Name "str" p) (tC (.ty "str")) := pe_bltn hg B.str (by decide +kernel) rfl
theorem Blt.v_bool (B : Blt X.mg) (hg : Gl X "bool" := by rfl) : PE X (.Name "bool" p) (tC (.ty "bool")) := pe_bltn hg B.bool (by decide +kernel) rfl
theorem Blt.v_list (B : Blt X.mg) (hg : Gl X "list" := by rfl) : PE X (.Name "list" p) (tC (.ty "list")) := pe_bltn hg B.list (by decide +kernel) rfl
theorem Blt.v_tuple (B : Blt X.mg) (hg : Gl X "tuple" := by rfl) : PE X (.Name "tuple" p) (tC (.ty "tuple")) := pe_bltn hg B.tuple (by decide +kernel) rfl
theorem Blt.range1 (B : Blt X.mg) {tg : Expr} (ha : PA X [e] t) (hg : Gl X "range" := by rfl) (hs : starEach [e] X.env = [(false, eval e X.env)] := by rfl) : PI X tg (.Call (.Name "range" p) [e] [] pos) (iRng1 t) := pi_range1 hg B.range ha hs
end
section
variable {X : Cx}
/-- the same rules for what is tracked: the item list is told by the heap -/
theorem ix_lM : IxR X (fun x y H Q => ∃ p xs i v, x = .ref p ∧ H p = some (.lst xs) ∧ y = .int i ∧ atI xs i = some v ∧ Q v H) := by
  intro value slice pins s σ H x y v u Q I rx ry h hs
  obtain ⟨p, xs, i, z, e1, hp, e2, he, q⟩ := h
  exact ix_list value slice pins s σ H x y v u Q I rx ry ⟨p, xs, i, z, e1, e2, SqL.of hp, he, q⟩ hs
theorem ix_tM : IxR X (fun x y H Q => ∃ p xs i v, x = .ref p ∧ H p = some (.tup xs) ∧ y = .int i ∧ atI xs i = some v ∧ Q v H) := by
  intro value slice pins s σ H x y v u Q I rx ry h hs
  obtain ⟨p, xs, i, z, e1, hp, e2, he, q⟩ := h
  exact ix_tup value slice pins s σ H x y v u Q I rx ry ⟨p, xs, i, z, e1, e2, SqT.of hp, he, q⟩ hs
end
/-- a def of the text that keeps its promise, by its name -/
structure Cal (P : Program) (w : World) (K : PySem.W.Frag) (mg : Str → Option Value) (base : Heap) (CX : CXT) (k : Nat) (x : Str) (sp : Sp) : Prop where
  ex : ∃ f fd ps, FnOk P w K mg base CX k f fd ps sp ∧ mg x = some (.ref f) ∧ PySem.W.keepIn K (.ref f) = true ∧ Binds K fd ps []
section
variable {P : Program} {w : World} {K : PySem.W.Frag} {mg : Str → Option Value} {base : Heap} {CX : CXT} {x qual : Str} {sp : Sp}
theorem Cal.mono {j k : Nat} (c : Cal P w K mg base CX j x sp) (h : j ≤ k) : Cal P w K mg base CX k x sp :=
  let ⟨f, fd, ps, F, m, kp, b⟩ := c.ex
  ⟨f, fd, ps, F.mono h, m, kp, b⟩
theorem Cal.imp {k : Nat} {sp' : Sp} (c : Cal P w K mg base CX k x sp) (h : ∀ vs H Q E, sp' vs H Q E → sp vs H Q E) : Cal P w K mg base CX k x sp' :=
  let ⟨f, fd, ps, F, m, kp, b⟩ := c.ex
  ⟨f, fd, ps, F.imp h, m, kp, b⟩
end
section
variable {X : Cx} {x : Str} {p pos : Pos} {e : Expr} {es : List Expr} {t : TA} {sp : Sp} {j k : Nat} {CX : CXT} {E : XK}
/-- its call, what it raises passes as hx says -/
theorem Cal.pex (c : Cal X.prog X.w X.K X.mg X.base CX j x sp) (hr : Room k X.A) (hx : Passes CX X E) (ha : PA X (e :: es) t) (hjk : j ≤ k := by first | decide | omega) (hg : Gl X x := by rfl) (hdb : (x == ("__debug__" : Str)) = false := by decide)
    (he : starEach (e :: es) X.env = (false, eval e X.env) :: starEach es X.env := by rfl) (hpl : (backTo pos (starEach es X.env)).any (·.1) = false := by rfl) :
    PE X (.Call (.Name x p) (e :: es) [] pos) (tCall sp [] E t) :=
  let ⟨_, _, _, F, m, kp, b⟩ := c.ex
  pe_call F (hr.mono hjk) hg m kp b .nil hx ha hdb he hpl
theorem Cal.pe (c : Cal X.prog X.w X.K X.mg X.base CX0 j x sp) (hr : Room k X.A) (ha : PA X (e :: es) t) (hjk : j ≤ k := by first | decide | omega) (hg : Gl X x := by rfl) (hdb : (x == ("__debug__" : Str)) = false := by decide)
    (he : starEach (e :: es) X.env = (false, eval e X.env) :: starEach es X.env := by rfl) (hpl : (backTo pos (starEach es X.env)).any (·.1) = false := by rfl) :
    PE X (.Call (.Name x p) (e :: es) [] pos) (tCall sp [] E0 t) := c.pex hr pass0 ha hjk hg hdb he hpl
theorem Cal.pe0 (c : Cal X.prog X.w X.K X.mg X.base CX0 j x sp) (hr : Room k X.A) (hjk : j ≤ k := by first | decide | omega) (hg : Gl X x := by rfl) (hdb : (x == ("__debug__" : Str)) = false := by decide) :
    PE X (.Call (.Name x p) [] [] pos) (tCall sp [] E0 tNil) :=
  let ⟨_, _, _, F, m, kp, b⟩ := c.ex
  pe_call0 F (hr.mono hjk) hg m kp b .nil pass0 hdb
/-- of a def that may raise, where it does not -/
theorem Cal.peL (c : Cal X.prog X.w X.K X.mg X.base (L2.CX X.prog X.w) j x sp) (hr : Room k X.A) (ha : PA X (e :: es) t) (hjk : j ≤ k := by first | decide | omega) (hg : Gl X x := by rfl) (hdb : (x == ("__debug__" : Str)) = false := by decide)
    (he : starEach (e :: es) X.env = (false, eval e X.env) :: starEach es X.env := by rfl) (hpl : (backTo pos (starEach es X.env)).any (·.1) = false := by rfl) :
    PE X (.Call (.Name x p) (e :: es) [] pos) (tCall sp [] E0 t) := c.pex hr passL ha hjk hg hdb he hpl
end
/-- what was tracked outside S is as it was; tuples stand -/
structure Kp (S : List Addr) (H H' : Hp) : Prop where
  keep : ∀ b o, b ∉ S → H b = some o → H' b = some o
  tup : ∀ b xs, H b = some (.tup xs) → H' b = some (.tup xs)
theorem Kp.refl (S : List Addr) (H : Hp) : Kp S H H := ⟨fun _ _ _ h => h, fun _ _ h => h⟩
theorem Kp.trans {S : List Addr} {H H1 H2 : Hp} (a : Kp S H H1) (b : Kp S H1 H2) : Kp S H H2 := ⟨fun c o n h => b.keep c o n (a.keep c o n h), fun c xs h => b.tup c xs (a.tup c xs h)⟩
theorem Kp.new {S : List Addr} {H : Hp} {p : Addr} (h : H p = none) (o : HO) : Kp S H (upd H p o) :=
  ⟨fun b u _ q => by rw [upd_ne (ne_of_none q h)]; exact q, fun b u q => by rw [upd_ne (ne_of_none q h)]; exact q⟩
theorem Kp.lst {S : List Addr} {H : Hp} {p : Addr} {xs ys : List V} (h : H p = some (.lst xs)) (m : p ∈ S) : Kp S H (upd H p (.lst ys)) :=
  ⟨fun b u n q => by rw [upd_ne (fun z => n (by rw [z]; exact m))]; exact q, fun b u q => by rw [upd_ne (ne_of q h (by intro z; cases z))]; exact q⟩
theorem Kp.mono {S S' : List Addr} {H H' : Hp} (a : Kp S H H') (h : ∀ b ∈ S, b ∈ S') : Kp S' H H' := ⟨fun b o n q => a.keep b o (fun z => n (h b z)) q, a.tup⟩
/-- what was not there may change -/
theorem Kp.drop {S : List Addr} {H H' : Hp} {p : Addr} (h : H p = none) (a : Kp (p :: S) H H') : Kp S H H' :=
  ⟨fun b o n q => a.keep b o (fun z => by
    rcases List.mem_cons.mp z with z | z
    · rw [z, h] at q; cases q
    · exact n z) q, a.tup⟩
theorem Kp.upd {S : List Addr} {H H' : Hp} {p : Addr} {xs ys : List V} (a : Kp S H H') (h : H p = none) (e : H' p = some (.lst xs)) : Kp S H (upd H' p (.lst ys)) :=
  Kp.drop h ((a.mono fun b hb => List.mem_cons_of_mem _ hb).trans (Kp.lst e List.mem_cons_self))
theorem Kp.seqL {K : PySem.W.Frag} {S : List Addr} {H H' : Hp} {a : Addr} {xs : List V} (e : Kp S H H') (n : a ∉ S) (h : SqL K H a xs) : SqL K H' a xs := by
  rcases h with (h | ⟨o, h⟩) | h
  · exact .inl (.inl (e.keep _ _ n h))
  · exact .inl (.inr ⟨o, e.keep _ _ n h⟩)
  · exact .inr h
theorem Kp.tab {P : Addr} {S : List Addr} {H H' : Hp} (hG : GxR.TabG H P) (t : GxR.Tabbed P H H') (m : P ∈ S) : Kp S H H' := by
  obtain ⟨ps, e, _⟩ := hG
  refine ⟨fun b o n q => ?_, fun b xs q => ?_⟩
  · rw [t.2 b (fun z => n (by rw [z]; exact m))]; exact q
  · rw [t.2 b (ne_of q e (by intro z; cases z))]; exact q
/-- a stream of the law's: a list of two ints -/
def Strm (H : Hp) (s : Addr) : Prop := ∃ a b : Int, H s = some (.lst [.int a, .int b])
theorem Strm.mk {H : Hp} {s : Addr} {a b : Int} : Strm (upd H s (.lst [.int a, .int b])) s := ⟨a, b, upd_same⟩
theorem Strm.nT {H : Hp} {s P : Addr} (h : Strm H s) (g : GxR.TabG H P) : s ≠ P := by
  obtain ⟨a, b, e⟩ := h
  obtain ⟨ps, q, _⟩ := g
  exact ne_of e q (by intro z; cases z)
theorem Strm.kp {H H' : Hp} {s : Addr} {S : List Addr} (h : Strm H s) (k : Kp S H H') (n : s ∉ S) : Strm H' s := let ⟨a, b, e⟩ := h; ⟨a, b, k.keep _ _ n e⟩
theorem tabG_kp {H H' : Hp} {P : Addr} {S : List Addr} (h : GxR.TabG H P) (k : Kp S H H') (n : P ∉ S) : GxR.TabG H' P := let ⟨a, e, q⟩ := h; ⟨a, k.keep _ _ n e, q⟩
/-- the built-in type of a value, by the tracked heap -/
def tyN (H : Hp) : V → Option String
  | .non => some "NoneType" | .bl _ => some "bool" | .int _ => some "int" | .str _ => some "str"
  | .ref p => match H p with
    | some (.lst _) => some "list"
    | some (.tup _) => some "tuple"
    | some (.dK _) => some "dict"
    | _ => none
  | _ => none
theorem tyN_ok {K : PySem.W.Frag} {H : Hp} {v : V} {t : String} (h : tyN H v = some t) : TyX K H v (.type t) := by
  cases v with
  | non => cases h; exact .base .non
  | bl b => cases h; exact .base (.bl b)
  | int i => cases h; exact .base (.int i)
  | str z => cases h; exact .base (.str z)
  | ref p =>
    unfold tyN at h
    simp only at h
    split at h
    · rename_i xs e; cases h; exact .base (.lst e)
    · rename_i xs e; cases h; exact .base (.tup e)
    · rename_i xs e; cases h; exact .base (.dK e)
    · cases h
  | _ => cases h
theorem tyN_lst {H : Hp} {p : Addr} {xs : List V} (h : H p = some (.lst xs)) : tyN H (.ref p) = some "list" := by unfold tyN; simp only [h]
theorem tyN_tup {H : Hp} {p : Addr} {xs : List V} (h : H p = some (.tup xs)) : tyN H (.ref p) = some "tuple" := by unfold tyN; simp only [h]
theorem tyN_dK {H : Hp} {p : Addr} {xs : List (Key × V)} (h : H p = some (.dK xs)) : tyN H (.ref p) = some "dict" := by unfold tyN; simp only [h]
/-- whether the first type is one of the second -/
def isaB (t c : String) : Bool := t == c || (t == "bool" && c == "int")
theorem kit_isaB {t c : String} (ht : t ∈ ["NoneType", "bool", "int", "str", "list", "tuple", "dict"]) (hc : c ∈ ["bool", "int", "str", "list", "tuple"]) : kitB t c = some (isaB t c) := by
  simp only [List.mem_cons, List.not_mem_nil, or_false] at ht hc
  rcases ht with rfl | rfl | rfl | rfl | rfl | rfl | rfl <;> rcases hc with rfl | rfl | rfl | rfl | rfl <;> decide +kernel
theorem tyN_in {H : Hp} {v : V} {t : String} (h : tyN H v = some t) : t ∈ ["NoneType", "bool", "int", "str", "list", "tuple", "dict"] := by
  unfold tyN at h
  split at h
  · cases h; decide
  · cases h; decide
  · cases h; decide
  · cases h; decide
  · split at h
    · cases h; decide
    · cases h; decide
    · cases h; decide
    · cases h
  · cases h
section
variable {X : Cx} {p pos : Pos} {e : Expr} {es : List Expr} {t : TA}
/-- len of a tracked tuple, of a tracked list -/
theorem Blt.len_t (B : Blt X.mg) (ha : PA X (e :: es) t) (hg : Gl X "len" := by rfl) (he : starEach (e :: es) X.env = (false, eval e X.env) :: starEach es X.env := by rfl) (hpl : (backTo pos (starEach es X.env)).any (·.1) = false := by rfl) :
    PE X (.Call (.Name "len" p) (e :: es) [] pos) (tCB (fun xs H Q => ∃ p ys, xs = [.ref p] ∧ H p = some (.tup ys) ∧ Q (.int ys.length) H) t) :=
  pe_callB (fun pins s σ H xs us Q I r ⟨p, ys, e1, e2, q⟩ => call_len_seq pins s σ H xs us Q I r ⟨p, ys, e1, .inr (SqT.of e2), q⟩) hg B.len PySem.boot_len ha (he := he) (hpl := hpl)
end
section
variable {X : Cx} {p p2 pos : Pos} {e : Expr} {te : TE} {c : Str} {cs : String}
/-- a reading that may be weakened -/
def tMono (te : TE) : TE := fun σ H Q => ∃ Q0 : VK, te σ H Q0 ∧ ∀ x H1, Q0 x H1 → Q x H1
theorem pe_mono (he : PE X e te) : PE X e (tMono te) := ⟨fun pins s σ H Q I ⟨Q0, q, m⟩ => thn (he.run pins s σ H Q0 I q) fun u s1 ⟨v, H1, J, r, z⟩ => ⟨v, H1, J, r, m v H1 z⟩⟩
/-- isinstance(e, T), T a built-in type's name: told by the tracked heap -/
def tIsT (c : String) (te : TE) : TE := fun σ H Q => te σ H fun x H1 => ∃ t, tyN H1 x = some t ∧ Q (.bl (isaB t c)) H1
theorem Blt.isT (B : Blt X.mg) (he : PE X e te) (hc : PE X (.Name c p2) (tC (.ty cs))) (hm : cs ∈ ["bool", "int", "str", "list", "tuple"] := by decide) (hg : Gl X "isinstance" := by rfl) (hs : starEach [e, .Name c p2] X.env = (false, eval e X.env) :: starEach [.Name c p2] X.env := by rfl)
    (hs2 : starEach [.Name c p2] X.env = (false, eval (.Name c p2) X.env) :: starEach [] X.env := by rfl) (hpl : (backTo pos (starEach [.Name c p2] X.env)).any (·.1) = false := by rfl) :
    PE X (.Call (.Name "isinstance" p) [e, .Name c p2] [] pos) (tIsT cs te) := by
  have h := Blt.isi (p := p) (pos := pos) B (pa_cons (pe_mono he) (pa_cons hc pa_nil hs2) hs) hg hs hpl
  exact ⟨fun pins s σ H Q I q => h.run pins s σ H Q I ⟨_, q, fun x H1 ⟨t, h1, h2⟩ => ⟨x, .ty cs, .type t, .type cs, isaB t cs, rfl, .ty cs, tyN_ok h1, kit_ty (kit_isaB (tyN_in h1) hm), h2⟩⟩⟩
end
theorem tyN_ref {H : Hp} {p : Addr} {t : String} (h : tyN H (.ref p) = some t) : t = "list" ∨ t = "tuple" ∨ t = "dict" := by
  unfold tyN at h
  simp only at h
  split at h
  · cases h; exact .inl rfl
  · cases h; exact .inr (.inl rfl)
  · cases h; exact .inr (.inr rfl)
  · cases h
theorem isa_str {H : Hp} {v : V} {t : String} (h : tyN H v = some t) (q : isaB t "str" = true) : ∃ z, v = .str z := by
  cases v with
  | str z => exact ⟨z, rfl⟩
  | ref p => rcases tyN_ref h with rfl | rfl | rfl <;> exact absurd q (by decide)
  | _ => cases h <;> exact absurd q (by decide)
theorem isa_int {H : Hp} {v : V} {t : String} (h : tyN H v = some t) (q : isaB t "int" = true) : (∃ z, v = .int z) ∨ ∃ b, v = .bl b := by
  cases v with
  | int z => exact .inl ⟨z, rfl⟩
  | bl b => exact .inr ⟨b, rfl⟩
  | ref p => rcases tyN_ref h with rfl | rfl | rfl <;> exact absurd q (by decide)
  | _ => cases h <;> exact absurd q (by decide)
theorem isa_tuple {H : Hp} {v : V} {t : String} (h : tyN H v = some t) (q : isaB t "tuple" = true) : ∃ p xs, v = .ref p ∧ H p = some (.tup xs) := by
  cases v with
  | ref p =>
    unfold tyN at h
    simp only at h
    split at h
    · cases h; exact absurd q (by decide)
    · rename_i xs e; exact ⟨p, xs, rfl, e⟩
    · cases h; exact absurd q (by decide)
    · cases h
  | _ => cases h <;> exact absurd q (by decide)
theorem isaB_all : isaB "NoneType" "bool" = false ∧ isaB "NoneType" "int" = false ∧ isaB "NoneType" "str" = false ∧ isaB "NoneType" "list" = false ∧ isaB "NoneType" "tuple" = false ∧
  isaB "bool" "bool" = true ∧ isaB "bool" "int" = true ∧ isaB "bool" "str" = false ∧ isaB "bool" "list" = false ∧ isaB "bool" "tuple" = false ∧
  isaB "int" "bool" = false ∧ isaB "int" "int" = true ∧ isaB "int" "str" = false ∧ isaB "int" "list" = false ∧ isaB "int" "tuple" = false ∧
  isaB "str" "bool" = false ∧ isaB "str" "int" = false ∧ isaB "str" "str" = true ∧ isaB "str" "list" = false ∧ isaB "str" "tuple" = false ∧
  isaB "list" "bool" = false ∧ isaB "list" "int" = false ∧ isaB "list" "str" = false ∧ isaB "list" "list" = true ∧ isaB "list" "tuple" = false ∧
  isaB "tuple" "bool" = false ∧ isaB "tuple" "int" = false ∧ isaB "tuple" "str" = false ∧ isaB "tuple" "list" = false ∧ isaB "tuple" "tuple" = true ∧
  isaB "dict" "bool" = false ∧ isaB "dict" "int" = false ∧ isaB "dict" "str" = false ∧ isaB "dict" "list" = false ∧ isaB "dict" "tuple" = false := by decide
theorem tyN_non {H : Hp} : tyN H .non = some "NoneType" := rfl
theorem tyN_bl {H : Hp} {b : Bool} : tyN H (.bl b) = some "bool" := rfl
theorem tyN_int {H : Hp} {b : Int} : tyN H (.int b) = some "int" := rfl
theorem tyN_str {H : Hp} {b : Str} : tyN H (.str b) = some "str" := rfl
theorem ixN_20 : ixN 2 0 = some 0 := rfl
theorem ixN_21 : ixN 2 1 = some 1 := rfl
theorem ixN_10 : ixN 1 0 = some 0 := rfl
theorem at0 {α : Type} {a : α} {l : List α} : atI (a :: l) 0 = some a := atI_nat (j := 0) rfl
theorem at1 {α : Type} {a b : α} {l : List α} : atI (a :: b :: l) 1 = some b := atI_nat (j := 1) rfl
theorem gsOf {env : Env} {scope : Scope} {x : Str} (h : (match scope.kind with | .function => true | _ => false) && !scope.isCoroutine && (scope.names.all fun y => match y.2 with | .cell => false | .free => false | _ => true) && (match scope.names.lookup (".0" : Str) with | some .local => true | _ => false) = true)
    (hx : (match scope.names.lookup x with | some .local => true | _ => false) = true) : GxR.GenS env scope x := by
  simp only [Bool.and_eq_true, List.all_eq_true] at h
  obtain ⟨⟨⟨h1, h2⟩, h3⟩, h4⟩ := h
  refine ⟨?_, by simpa using h2, fun y hy e => ?_, ?_, ?_, fun y hy e => ?_⟩
  · split at h1
    · assumption
    · cases h1
  · have := h3 y hy; rw [e] at this; cases this
  · split at h4
    · assumption
    · cases h4
  · split at hx
    · assumption
    · cases hx
  · have := h3 y hy; rw [e] at this; cases this
/-- the empty text joins -/
theorem joinL_nil : ∀ l : List (List Nat), TL.joinL [] l = l.flatten
  | [] => rfl
  | [p] => by simp [TL.joinL]
  | p :: q :: r => by
    show p ++ ([] ++ TL.joinL [] (q :: r)) = _
    rw [joinL_nil (q :: r)]
    simp
theorem tl_joinE (ys : List Str) : TL.tl (Txt.join (Str.ofString "") ys) = (ys.map TL.tl).flatten := by
  rw [TL.join_eq, TL.tl_join]
  exact joinL_nil _
/-- one-sign texts -/
def sgs (cs : List Nat) : List Str := cs.map fun c => (⟨#[c]⟩ : Str)
theorem sgs_sum (cs : List Nat) : ((sgs cs).map (·.length)).sum = cs.length := by
  unfold sgs
  rw [List.map_map]
  induction cs with
  | nil => rfl
  | cons c r ih => rw [List.map_cons, List.sum_cons, ih]; show 1 + r.length = r.length + 1; omega
theorem sgs_len (cs : List Nat) : (sgs cs).length = cs.length := List.length_map _
end SC
/-! all(test for mark in text), the test one that reads built-ins and globals too -/
namespace SC
open PySem PySem.Spec PyProof.Rows L2
open GxR (TabB TabG Tabbed Ready GenS keeps_tok trF trF_some all_signs inv_tab sh_eta)
/-- what the element may lean on: the module's names, the built-ins -/
structure Names2 (h : Heap) (mg : Str → Option Value) : Prop where
  glob : h.Ns mainGlobals mg
  blt : ∃ mb, h.Ns builtinsNs mb ∧ ∀ x : Str, x ≠ "__name__" → mb x = bootBuiltins x
def EltX (prog : Program) (w : World) (mg : Str → Option Value) (scope : Scope) (x : Str) (elt : Expr) (pb : Nat → Bool) : Prop :=
  ∀ (ce : Env) (A' : Around) (E' : Value → Shared → Prop) (c : Nat) (t : Tok) (s2 : Shared) (m2 : Str → Option Value), ce.scope = scope → ce.globals = mainGlobals → ce.builtins = builtinsNs → Names2 s2.heap mg →
    s2.heap.Ns ce.locals m2 → m2 x = some (.str ⟨#[c]⟩ t) → wpAny (model prog w) A' (eval elt ce) (fun y s3 => y = .bool (pb c) ∧ Keeps s2 s3) E' s2
section
variable {X : Cx} {pins : List (Addr × Obj)} {σ : L2.St} {H : Hp} {s : Shared}
theorem gen_mk {c P : Addr} {elt iter : Expr} {x : Str} {px gpos : Pos} {scope : Scope} {pb : Nat → Bool} {te : TE} {k : Nat} {Q' : Value → Shared → Prop} {R : Str → Hp → Prop}
    (hr : Room k X.A) (TB : TabB X.base X.mg c P) (hcode : X.env.code = .ref c) (S : GenS X.env scope x) (hi : PE X iter te) (hel : EltX X.prog X.w X.mg scope x elt pb)
    (hs : ∀ v, genFold iter X.env v = pure v) (I : Inv X pins σ H s) (h : te σ H fun v H1 => ∃ a : Str, v = .str a ∧ TabG H1 P ∧ R a H1)
    (hQ : ∀ a H1 g s5, R a H1 → Ready X pins σ H1 P a pb g s5 → Q' (.ref g) s5) :
    wpAny (model X.prog X.w) X.A (eval (.GeneratorExp elt [⟨.Name x px, iter, [], 0⟩] scope gpos) X.env) Q' X.xe s := by
  refine wpAny_GeneratorExp_walksQ hr.hd S.co (closure_ok S.free) S.cell S.dot S.loc S.kind (by have := hr.dp; omega) ?_ hs
  refine thn (hi.run pins s σ H _ I h) fun xv t1 ⟨v, H1, J, rv, a, ev, ⟨ps, hP, htr⟩, hR⟩ => ?_
  subst ev
  obtain ⟨tk1, rfl⟩ := rv
  refine wpAny_pyIter_str fun o St W hst => ?_
  have hPs : t1.heap.get? P = some { cls := .none, data := .fields ps } := J.hok P _ hP
  have hPlt := Heap.lt_size hPs
  have up : ∀ b u, t1.heap.get? b = some u → (t1.heap.push o).get? b = some u := fun b u e => Heap.get?_push_of_some _ e
  have cd : PySem.W.CodeHd (t1.heap.push o) c P := TB.code.keeps fun b u e => up b u (J.bk b u e)
  have lim : (t1.heap.push o).NoLimit := J.nolimit.push o
  have hclt : cStatics < t1.heap.objs.size := let ⟨_, hn, _⟩ := J.nolimit; hn.lt
  have hsz1 : (t1.heap.push o).objs.size = t1.heap.objs.size + 1 := Heap.size_push ..
  refine ⟨lim, ?_⟩
  have go : ∀ (code : Value) (h3 : Heap) (tk : Nat) (qs : Array Value), Heap.ExtBut P (t1.heap.push o) h3 → (t1.heap.push o).objs.size ≤ h3.objs.size → h3.get? P = some { cls := .none, data := .fields qs } →
      (∃ more, qs = ps ++ more) → TriplesOk qs.toList →
      wpAny (model X.prog X.w) X.A (builtinsFor X.env.globals X.env.builtins) (fun bi s4 =>
        ∃ Ia fp wr n0 Pf St0 pz F, Value.ref t1.heap.objs.size = .ref Ia ∧ (∀ A' : Around, A'.handled = none → Walks X.prog X.w A' Ia fp wr n0 Pf St0) ∧ St0 0 s4.heap ∧ (∀ b ∈ fp, b < s4.heap.objs.size) ∧ s4.heap.NoLimit ∧ cStatics ∉ wr ∧
          (∀ href : Heap, (∀ b o, s4.heap.get? b = some o → href.get? b = some o) →
            QuietGen X.prog X.w (genEnv scope (cloFrom X.env.cells scope.names []) s4.heap.objs.size code bi X.env) x [] elt (List.range s4.heap.objs.size) wr Pf pz F href) ∧
          (∀ g h5 tk5 gs, gs.bare = true → s4.heap.objs.size < g → h5.objs.size = g + 1 → (∀ b o, s4.heap.get? b = some o → h5.get? b = some o) →
            WalksS X.prog X.w X.A.in4 g (g :: s4.heap.objs.size :: List.range s4.heap.objs.size) (s4.heap.objs.size :: wr) (GenOnlyQ s4.gens.size) (passing pz n0 0).length
              (fun j y => ∃ i, (passing pz n0 0)[j]? = some i ∧ F i y) (GenAt X.prog X.w X.A.in4 g s4.gens.size s4.heap.objs.size (List.range s4.heap.objs.size) wr pz n0 F) →
            GenAt X.prog X.w X.A.in4 g s4.gens.size s4.heap.objs.size (List.range s4.heap.objs.size) wr pz n0 F 0 { s4 with gens := s4.gens.push gs, toks := tk5, heap := h5 } →
            Q' (.ref g) { s4 with gens := s4.gens.push gs, toks := tk5, heap := h5 })) X.xe { t1 with heap := h3, toks := tk } := by
    intro code h3 tk qs hx hsz hP3 hmore htq
    obtain ⟨bm, ob, e1, e2, e3, e4, e5, e6, e7, e8⟩ := TB.bm
    have ncP : cStatics ≠ P := fun e => by
      obtain ⟨_, hns, _⟩ := J.nolimit
      obtain ⟨o', es, ep, ho, hd, _⟩ := hns
      rw [e, hPs] at ho
      cases ho; cases hd
    have nbP : (builtinsNs : Addr) ≠ P := fun e => by
      obtain ⟨mb, hns, _⟩ := J.mod.blt
      obtain ⟨o', es, ep, ho, hd, _⟩ := hns
      have ho := J.bk _ _ ho
      rw [e, hPs] at ho
      cases ho; cases hd
    have k3 : ∀ b u, b ≠ P → t1.heap.get? b = some u → h3.get? b = some u := fun b u hb e => hx b u hb (up b u e)
    refine wpAny_builtinsFor (m := X.mg) (by rw [J.ok.glob]; exact ((J.mod.glob.keeps J.bk).push o).extBut hx TB.gP) e1 e2 (k3 _ _ e4 (J.bk _ _ e5)) e6 e7 e8 ?_
    refine ⟨t1.heap.objs.size, [t1.heap.objs.size], [t1.heap.objs.size], a.cps.size, SignAt a, St, (fun _ => true), (fun i y => ∃ cc, a.cps[i]? = some cc ∧ y = .bool (pb cc)), rfl, W, ?_, ?_, lim.extBut hx ncP, ?_, ?_, ?_⟩
    · refine (W X.A hr.hd).frame _ _ _ hst fun b hb u e => hx b u (fun z => ?_) e
      rcases List.mem_cons.mp hb with y | y
      · exact Nat.ne_of_lt hPlt (z.symm.trans y)
      · cases y
    · intro b hb
      rcases List.mem_cons.mp hb with z | z
      · rw [z]
        show t1.heap.objs.size < h3.objs.size
        omega
      · cases z
    · intro z
      rcases List.mem_cons.mp z with z | z
      · exact Nat.ne_of_lt hclt z
      · cases z
    · intro href hh
      refine ⟨fun A' E' i v s2 m2 hA hv hn hm hk => ?_, fun A' E' i v s2 m2 hA hv hp hn hm hk => ?_⟩
      · simp only [List.forIn_nil]
        exact wpAny_pure ⟨rfl, GxR.keeps_refl _⟩
      · obtain ⟨cc, u, hcc, rfl⟩ := hv
        have old : ∀ L, L ≠ P → ∀ q, X.base.get? L = some q → s2.heap.get? L = some q := fun L nL q e => by
          have e1 := J.bk _ _ e
          have l1 := Heap.lt_size e1
          have e2 := k3 L q nL e1
          refine hk L (List.mem_range.mpr (Heap.lt_size e2)) (fun z => ?_) q (hh L q e2)
          rcases List.mem_cons.mp z with z | z
          · rw [z] at l1; exact Nat.lt_irrefl _ l1
          · cases z
        have nm : Names2 s2.heap X.mg := ⟨J.mod.glob.at (old mainGlobals TB.gP), let ⟨mb, q1, q2⟩ := J.mod.blt; ⟨mb, q1.at (old builtinsNs nbP), q2⟩⟩
        exact wpAny_mono (hel (genEnv scope (cloFrom X.env.cells scope.names []) h3.objs.size code builtinsNs X.env) A' E' cc u s2 m2 rfl J.ok.glob rfl nm hn hm) (fun y s3 r => ⟨⟨cc, hcc, r.1⟩, r.2⟩) fun _ _ e => e
    · intro g h5 tk5 gs hgb hag hsz5 hk5 W5 hat
      simp only [GxR.passing_true, List.length_range] at W5
      refine hQ a H1 g _ hR ⟨_, _, _, _, _, W5.in4_1, hat, ?_, fun s' hm => ?_⟩
      · intro j y sj Qj Ej hy hQj
        obtain ⟨i, hij, cc, hcc, rfl⟩ := hy
        obtain ⟨hj, ej⟩ := List.getElem?_eq_some_iff.mp hij
        rw [List.getElem_range] at ej
        subst ej
        have e9 : a.cps.toList[j]? = some cc := by rw [Array.getElem?_toList]; exact hcc
        have hQ2 : Qj (trF pb a.cps.toList j) sj := hQj
        rw [trF_some e9] at hQ2
        exact wpAny_truthy_bool hQ2
      · obtain ⟨more, em⟩ := hmore
        have nwr : ∀ b u, t1.heap.get? b = some u → b ∉ h3.objs.size :: [t1.heap.objs.size] := fun b u e hb => by
          have hl : b < t1.heap.objs.size := Heap.lt_size e
          rcases List.mem_cons.mp hb with z | z
          · rw [z] at hl
            exact absurd hl (Nat.not_lt.mpr (show t1.heap.objs.size ≤ h3.objs.size by omega))
          · rcases List.mem_cons.mp z with z | z
            · rw [z] at hl
              exact Nat.lt_irrefl _ hl
            · cases z
        have J2 := inv_tab (more := more) (h' := s'.heap) (g' := s'.gens) (d' := s'.drawn) (t' := s'.toks) J hP (fun b u hb e => hm.heap b u (nwr b u e) (hk5 b u (k3 b u hb e)))
          (by rw [← em]; exact hm.heap P _ (nwr P _ hPs) (hk5 P _ hP3)) (AllBare.movedS (J.bare.push hgb) hm)
        rw [sh_eta t1 s' hm.os] at J2
        refine ⟨upd H1 P (.tbl (ps ++ more)), ⟨⟨ps ++ more, upd_same, by rw [← em]; exact htq⟩, fun b hb => upd_ne hb⟩, J2⟩
  cases hf : codeAmong gpos ps.toList with
  | none =>
    refine wpAny_genexprCodeX hcode (cd.code (up _ _ hPs) htr) (cd.tab (up _ _ hPs)) hf fun c' h' tk hx hge hlt hco' _ htab' _ => ?_
    obtain ⟨o1, vs, f1, tf, fl, tg, inF, tx, tt, op, _, _, _, _, _, _, _, _, _, hz, _⟩ := hco'
    exact go _ h' tk _ hx (Nat.le_trans hge (Nat.le_of_lt hlt)) htab'.2 ⟨_, rfl⟩ hz
  | some cv =>
    refine wpAny_genexprCode_hit hcode (cd.code (up _ _ hPs) htr) hf ?_
    exact go cv (t1.heap.push o) t1.toks ps (Heap.ExtBut.refl _ _) (Nat.le_refl _) (up _ _ hPs) ⟨#[], by simp⟩ htr
theorem pe_allX {c P : Addr} {elt iter : Expr} {x : Str} {px p pos gpos : Pos} {scope : Scope} {pb : Nat → Bool} {te : TE} {k : Nat}
    (hr : Room k X.A) (B : Blt X.mg) (TB : TabB X.base X.mg c P) (hcode : X.env.code = .ref c) (S : GenS X.env scope x) (hi : PE X iter te) (hel : EltX X.prog X.w X.mg scope x elt pb)
    (hs : ∀ v, genFold iter X.env v = pure v) (hg : Gl X "all" := by rfl)
    (he : starEach [.GeneratorExp elt [⟨.Name x px, iter, [], 0⟩] scope gpos] X.env = (false, eval (.GeneratorExp elt [⟨.Name x px, iter, [], 0⟩] scope gpos) X.env) :: starEach [] X.env := by rfl) :
    PE X (.Call (.Name "all" p) [.GeneratorExp elt [⟨.Name x px, iter, [], 0⟩] scope gpos] [] pos) (GxR.tAllS P pb te) := by
  refine ⟨fun pins s σ H Q I h => ?_⟩
  refine wpAny_Call_Name_kw (ld_blt I hg B.all (show bootBuiltins "all" = some (.builtin "all") by decide +kernel) ?_)
  refine PyProof.Rows.callWith_builtin1 ?_ he (by rfl)
  rw [he]
  show wpAny _ _ (spliced ((false, eval (.GeneratorExp elt [⟨.Name x px, iter, [], 0⟩] scope gpos) X.env) :: backTo pos (starEach [] X.env))) _ _ s
  refine Calls.spliced_cons (gen_mk (R := fun a H1 => ∀ H2, Tabbed P H1 H2 → Q (.bl (a.cps.toList.all pb)) H2) hr TB hcode S hi hel hs I h fun a H1 g t5 hR hG => ?_)
  obtain ⟨fp, wr, G, F, St, W, hst, htr, hI⟩ := hG
  refine Calls.spliced_nil (call_all_walkS (W.self 0 _ _ _ hst ⟨g, fp, wr, G, _, F, St, _, rfl, W, hst, htr, fun s' hmv => ?_⟩))
  obtain ⟨H2, hT, J⟩ := hI s' hmv
  refine ⟨.bl _, H2, J, rfl, ?_⟩
  rw [all_signs a pb]
  exact hR H2 hT
end
/-- a sign that the document calls printable -/
def prc (c : Nat) : Bool := decide (32 ≤ c) && decide (c ≤ 126) && !decide (c = 37)
def prn (z : Str) : Bool := z.cps.toList.all prc
theorem one_lt {a b : Nat} : ([a] < [b]) ↔ a < b := by
  constructor
  · intro h
    cases h with
    | rel h => exact h
    | cons h => cases h
  · intro h
    exact List.Lex.rel h
theorem elt_prn {prog : Program} {w : World} {mg : Str → Option Value} {scope : Scope} {j1 j2 : Nat} {q1 q2 q3 q4 q5 q6 q7 q8 q9 q10 : Pos} {t37 : Tok} (B : Blt mg) (h37 : mg "_BARRED_CODE" = some (.int 37 t37))
    (hk : scope.kind = .function) (hl : scope.names.lookup ("mark" : Str) = some .local) (h1 : scope.names.lookup ("ord" : Str) = some .globalImplicit) (h2 : scope.names.lookup ("_BARRED_CODE" : Str) = some .globalImplicit) :
    EltX prog w mg scope "mark" (.BoolOp .And [.Compare (.Constant (.str " ") j1 q1) [.LtE, .LtE] [.Name "mark" q2, .Constant (.str "~") j2 q3] q4,
      .Compare (.Call (.Name "ord" q5) [.Name "mark" q6] [] q7) [.NotEq] [.Name "_BARRED_CODE" q8] q9] q10) prc := by
  intro ce A' E' c t s2 m2 hs hg hb nm hn hm
  have ld : ∀ {Q : Value → Shared → Prop} {p : Pos} {s3 : Shared}, (∃ tk, s3 = { s2 with toks := tk }) → Q (.str ⟨#[c]⟩ t) s3 → wpAny (model prog w) A' (eval (.Name "mark" p) ce) Q E' s3 := by
    rintro Q p s3 ⟨tk, rfl⟩ h
    exact wpAny_Name (wpAny_loadName_local (by rw [hs]; exact hk) (show ce.scope.names.lookup ("mark" : Str) = some .local by rw [hs]; exact hl) hn hm h) (by decide)
  have fin : ∀ {b : Bool} {tk : Nat}, b = prc c → (fun y s3 => y = Value.bool (prc c) ∧ Keeps s2 s3) (.bool b) { s2 with toks := tk } := fun e => ⟨by rw [e], keeps_tok _ _⟩
  refine BoolOp_and ?_
  refine Compare_chain (Calls.Constant_str (chain_link (ld ⟨_, rfl⟩ (PySem.P.le_str ?_))))
  have e1 : (!decide ((⟨#[c]⟩ : Str).cps.toList < (Str.ofString " ").cps.toList)) = decide (32 ≤ c) := by
    show (!decide ([c] < [32])) = _
    rw [decide_eq_decide.mpr (one_lt (a := c) (b := 32))]
    by_cases h : c < 32
    · rw [decide_eq_true h, decide_eq_false (by omega)]; rfl
    · rw [decide_eq_false h, decide_eq_true (by omega)]; rfl
  rw [e1]
  refine wpAny_truthy_bool ?_
  by_cases c1 : 32 ≤ c
  · rw [decide_eq_true c1]
    refine ite_tt (chain_last (Calls.Constant_str (PySem.P.le_str ?_)))
    have e2 : (!decide ((Str.ofString "~").cps.toList < (⟨#[c]⟩ : Str).cps.toList)) = decide (c ≤ 126) := by
      show (!decide ([126] < [c])) = _
      rw [decide_eq_decide.mpr (one_lt (a := 126) (b := c))]
      by_cases h : c ≤ 126
      · rw [decide_eq_true h, decide_eq_false (by omega)]; rfl
      · rw [decide_eq_false h, decide_eq_true (by omega)]; rfl
    rw [e2]
    refine wpAny_truthy_bool ?_
    by_cases c2 : c ≤ 126
    · rw [decide_eq_true c2]
      refine ite_tt (BoolOp_one (wpAny_Compare1 ?_))
      obtain ⟨mb, n1, n2⟩ := nm.blt
      refine wpAny_Call_Name_kw (Calls.Name_function_global (by rw [hs]; exact hk) (show ce.scope.names.lookup ("ord" : Str) = some .globalImplicit by rw [hs]; exact h1) (Calls.loadGlobal_builtin (by rw [hg]; exact nm.glob) B.ord (by rw [hb]; exact n1) ((n2 "ord" (by decide)).trans (show bootBuiltins "ord" = some (.builtin "ord") by decide +kernel)) ?_) (by decide))
      refine PyProof.Rows.callWith_builtin1 ?_ (by rfl) (by rfl)
      refine Calls.spliced_cons (ld ⟨_, rfl⟩ (Calls.spliced_nil (PyProof.Rows.ord_of_one rfl ?_)))
      refine Calls.Name_function_global (by rw [hs]; exact hk) (show ce.scope.names.lookup ("_BARRED_CODE" : Str) = some .globalImplicit by rw [hs]; exact h2) (Calls.loadGlobal_global (by rw [hg]; exact nm.glob) h37 ?_) (by decide)
      refine ne_int (fin ?_)
      show (((c : Int)) != 37) = (decide (32 ≤ c) && decide (c ≤ 126) && !decide (c = 37))
      rw [decide_eq_true c1, decide_eq_true c2]
      by_cases c3 : c = 37
      · subst c3; rfl
      · rw [decide_eq_false c3]
        have : ((c : Int) != 37) = true := bne_iff_ne.mpr (by omega)
        rw [this]; rfl
    · rw [decide_eq_false c2]
      refine ite_ff (fin ?_)
      simp [prc, c2]
  · rw [decide_eq_false c1]
    refine ite_ff (wpAny_truthy_bool (ite_ff (fin ?_)))
    simp [prc, c1]
end SC
/-! the end of a law's row whose text holds generator expressions: the tables out of the top -/
namespace SC
open PySem PySem.Spec PyProof.Rows L2 LamX
theorem tab_mk {q : Program} {lo : List Str} {mean : ExcName → Option Value} {mg mb : Str → Option Value} {h : Heap} {K : PySem.W.Frag} {d : DefRec} {x : Str} {f c P : Addr} {fd : FuncData} {oc cc : Value} {od dc : Option Addr} {sl sc : Array (Option Value)} {vs : Array Value}
    (T : Top q lo mean mg mb h) (X : K.In h) (hr : (recsOf q).find? (fun e => e.name == x) = some d) (a : PySem.W.nsIn K mainGlobals x = some (some (.ref f))) (l : K.lookup f = some ⟨oc, od, .func fd, sl⟩) (hc : fd.code = .ref c)
    (lc : K.lookup c = some ⟨cc, dc, .fields vs, sc⟩) (hv : vs[11]? = some (.ref P)) : PySem.W.CodeHd h c P ∧ h.get? P = some (PySem.W.tabObj #[]) := by
  refine PySem.W.tab_of T X hr ?_
  unfold PySem.W.tabIn
  rw [a]
  simp only [l, hc, lc, hv]
/-- a law's state: the table may have grown, the stream stands, all else that was there is as it was -/
structure LS (Pt st : Addr) (H0 H : Hp) : Prop where
  k : Kp [Pt] H0 H
  g : GxR.TabG H Pt
  s : Strm H st
  g0 : GxR.TabG H0 Pt
  fr : H0 st = none
section
variable {Pt st p : Addr} {H0 H H' : Hp} {K : PySem.W.Frag}
theorem LS.ne (L : LS Pt st H0 H) : st ≠ Pt := L.s.nT L.g
theorem LS.take (L : LS Pt st H0 H) (k : Kp [st] H H') (s : Strm H' st) : LS Pt st H0 H' :=
  ⟨Kp.drop L.fr ((L.k.mono fun b hb => List.mem_cons_of_mem _ hb).trans (k.mono fun b hb => by rw [List.mem_singleton.mp hb]; exact List.mem_cons_self)), tabG_kp L.g k (by simpa using L.ne.symm), s, L.g0, L.fr⟩
theorem LS.new (L : LS Pt st H0 H) (h : H p = none) (o : HO) : LS Pt st H0 (upd H p o) :=
  ⟨L.k.trans (Kp.new h o), tabG_kp L.g (Kp.new h o : Kp [] _ _) (by simp), L.s.kp (Kp.new h o : Kp [] _ _) (by simp), L.g0, L.fr⟩
theorem LS.kp0 (L : LS Pt st H0 H) (k : Kp [] H H') : LS Pt st H0 H' := ⟨L.k.trans (k.mono fun b hb => absurd hb (by simp)), tabG_kp L.g k (by simp), L.s.kp k (by simp), L.g0, L.fr⟩
theorem seq_tab {a : Addr} {xs : List V} (k : Kp [Pt] H0 H) (g0 : GxR.TabG H0 Pt) (h : SqL K H0 a xs) : SqL K H a xs := by
  obtain ⟨ps, e, _⟩ := g0
  rcases h with (h | ⟨o, h⟩) | h
  · exact .inl (.inl (k.keep _ _ (by simpa using ne_of h e (by intro z; cases z)) h))
  · exact .inl (.inr ⟨o, k.keep _ _ (by simpa using ne_of h e (by intro z; cases z)) h⟩)
  · exact .inr h
theorem LS.seq {a : Addr} {xs : List V} (L : LS Pt st H0 H) (h : SqL K H0 a xs) : SqL K H a xs := seq_tab L.k L.g0 h
theorem Kp.get1 {b : Addr} {o : HO} (k : Kp [Pt] H H') (g : GxR.TabG H Pt) (h : H b = some o) (no : ∀ ps, o ≠ .tbl ps := by intro ps z; cases z) : H' b = some o := by
  obtain ⟨ps, e, _⟩ := g
  exact k.keep b o (by simpa using ne_of h e (no ps)) h
theorem tyN_kp {v : V} {t : String} (k : Kp [Pt] H H') (g : GxR.TabG H Pt) (h : tyN H v = some t) : tyN H' v = some t := by
  cases v with
  | ref p =>
    unfold tyN at h
    simp only at h
    split at h
    · rename_i xs q; cases h; exact tyN_lst (k.get1 g q)
    · rename_i xs q; cases h; exact tyN_tup (k.get1 g q)
    · rename_i xs q; cases h; exact tyN_dK (k.get1 g q)
    · cases h
  | _ => exact h
end
end SC
/-! canonical texts: the values as trees, what encode writes, what decode reads: plain Lean -/
namespace SC
open PySem L2
/-- a value as a tree; oth: what is neither an int nor a text nor a tuple -/
inductive Tr where
  | int (n : Int) | str (z : Str) | tup (ts : List Tr) | oth (v : V)
mutual
inductive Rep (H : Hp) : V → Tr → Prop
  | int (i : Int) : Rep H (.int i) (.int i)
  | str (z : Str) : Rep H (.str z) (.str z)
  | tup {a : Addr} {xs : List V} {ts : List Tr} : H a = some (.tup xs) → RepAll H xs ts → Rep H (.ref a) (.tup ts)
  | oth {v : V} {t : String} : tyN H v = some t → t ≠ "int" → t ≠ "str" → t ≠ "tuple" → Rep H v (.oth v)
inductive RepAll (H : Hp) : List V → List Tr → Prop
  | nil : RepAll H [] []
  | cons {v : V} {vs : List V} {t : Tr} {ts : List Tr} : Rep H v t → RepAll H vs ts → RepAll H (v :: vs) (t :: ts)
end
theorem Rep.ty {H : Hp} {v : V} {t : Tr} (h : Rep H v t) : ∃ s, tyN H v = some s := by
  cases h with
  | int => exact ⟨_, rfl⟩
  | str => exact ⟨_, rfl⟩
  | tup e _ => exact ⟨_, tyN_tup e⟩
  | oth e _ _ _ => exact ⟨_, e⟩
theorem RepAll.len {H : Hp} : ∀ {xs : List V} {ts : List Tr}, RepAll H xs ts → xs.length = ts.length
  | _, _, .nil => rfl
  | _, _, .cons _ h => congrArg (· + 1) h.len
theorem RepAll.app {H : Hp} : ∀ {xs ys : List V} {ts us : List Tr}, RepAll H xs ts → RepAll H ys us → RepAll H (xs ++ ys) (ts ++ us)
  | _, _, _, _, .nil, h => h
  | _, _, _, _, .cons a b, h => .cons a (b.app h)
theorem RepAll.get {H : Hp} : ∀ {xs : List V} {ts : List Tr} {i : Nat} {x : V}, RepAll H xs ts → xs[i]? = some x → ∃ t, ts[i]? = some t ∧ Rep H x t
  | _, _, _, _, .nil, h => by simp at h
  | _, _, 0, _, .cons a _, h => by
    have e := Option.some.inj h
    subst e
    exact ⟨_, rfl, a⟩
  | _, _, i + 1, _, .cons _ b, h => b.get (i := i) h
mutual
theorem Rep.kp {Pt : Addr} {H H' : Hp} (k : Kp [Pt] H H') (g : GxR.TabG H Pt) : ∀ {v : V} {t : Tr}, Rep H v t → Rep H' v t
  | _, _, .int i => .int i
  | _, _, .str z => .str z
  | _, _, .tup e h => .tup (k.tup _ _ e) (h.kp k g)
  | v, _, .oth e a b c => .oth (tyN_kp k g e) a b c
theorem RepAll.kp {Pt : Addr} {H H' : Hp} (k : Kp [Pt] H H') (g : GxR.TabG H Pt) : ∀ {vs : List V} {ts : List Tr}, RepAll H vs ts → RepAll H' vs ts
  | _, _, .nil => .nil
  | _, _, .cons a b => .cons (a.kp k g) (b.kp k g)
end
/-- the digits of a number -/
abbrev dig (n : Nat) : List Nat := TL.numL n
mutual
/-- the canonical text, its codes -/
def txt : Tr → List Nat
  | .int n => dig n.toNat ++ [46]
  | .str z => dig z.length ++ 58 :: TL.tl z
  | .tup ts => 91 :: (txts ts ++ [93])
  | .oth _ => []
def txts : List Tr → List Nat
  | [] => []
  | t :: ts => txt t ++ txts ts
end
mutual
/-- plain, tuples nested at most n deep -/
def pl (n : Nat) : Tr → Bool
  | .int i => decide (0 ≤ i) && decide (i ≤ 99999999999999999999)
  | .str z => prn z
  | .tup ts => match n with
    | 0 => false
    | m + 1 => pls m ts
  | .oth _ => false
def pls (n : Nat) : List Tr → Bool
  | [] => true
  | t :: ts => pl n t && pls n ts
end
mutual
/-- no tuple's text within is too long -/
def fit : Tr → Bool
  | .tup ts => fits ts && decide ((txts ts).length + 2 ≤ 100000)
  | _ => true
def fits : List Tr → Bool
  | [] => true
  | t :: ts => fit t && fits ts
end
mutual
/-- texts of a size that Python's may have -/
def sml : Tr → Bool
  | .str z => decide (z.length ≤ 10000000)
  | .tup ts => smls ts && decide (ts.length ≤ 1000000)
  | _ => true
def smls : List Tr → Bool
  | [] => true
  | t :: ts => sml t && smls ts
end
theorem txts_app : ∀ (ts us : List Tr), txts (ts ++ us) = txts ts ++ txts us
  | [], _ => rfl
  | t :: ts, us => by
    show txt t ++ txts (ts ++ us) = (txt t ++ txts ts) ++ txts us
    rw [txts_app ts us, List.append_assoc]
theorem pls_app (n : Nat) : ∀ (ts us : List Tr), pls n (ts ++ us) = (pls n ts && pls n us)
  | [], us => by simp [pls]
  | t :: ts, us => by
    show (pl n t && pls n (ts ++ us)) = ((pl n t && pls n ts) && pls n us)
    rw [pls_app n ts us, Bool.and_assoc]
theorem fits_app : ∀ (ts us : List Tr), fits (ts ++ us) = (fits ts && fits us)
  | [], us => by simp [fits]
  | t :: ts, us => by
    show (fit t && fits (ts ++ us)) = ((fit t && fits ts) && fits us)
    rw [fits_app ts us, Bool.and_assoc]
theorem mem_len : ∀ {t : Tr} {ts : List Tr}, t ∈ ts → (txt t).length ≤ (txts ts).length
  | t, u :: ts, h => by
    show _ ≤ (txt u ++ txts ts).length
    rw [List.length_append]
    rcases List.mem_cons.mp h with rfl | h
    · omega
    · have := mem_len h; omega
mutual
theorem fit_of : ∀ (t : Tr), (txt t).length ≤ 100000 → fit t = true
  | .int _, _ => rfl
  | .str _, _ => rfl
  | .oth _, _ => rfl
  | .tup ts, h => by
    have h : (91 :: (txts ts ++ [93])).length ≤ 100000 := h
    rw [List.length_cons, List.length_append] at h
    have h : (txts ts).length + 1 + 1 ≤ 100000 := h
    show (fits ts && decide ((txts ts).length + 2 ≤ 100000)) = true
    rw [fits_of ts (by omega), decide_eq_true (by omega)]
    rfl
theorem fits_of : ∀ (ts : List Tr), (txts ts).length ≤ 100000 → fits ts = true
  | [], _ => rfl
  | t :: ts, h => by
    have h : (txt t ++ txts ts).length ≤ 100000 := h
    rw [List.length_append] at h
    show (fit t && fits ts) = true
    rw [fit_of t (by omega), fits_of ts (by omega)]
    rfl
end
/-! ### reading -/
def isD (c : Nat) : Bool := decide (48 ≤ c) && decide (c ≤ 57)
def val (l : List Nat) : Nat := NumText.digitsVal l
/-- items up to the closing bracket -/
def items (p : List Nat → Option (Tr × List Nat)) : Nat → List Nat → Option (List Tr × List Nat)
  | 0, _ => none
  | f + 1, l => match l with
    | 93 :: r => some ([], r)
    | l => match p l with
      | none => none
      | some (t, r) => match items p f r with
        | none => none
        | some (ts, r2) => some (t :: ts, r2)
/-! ### digits -/
theorem isD_iff {c : Nat} : isD c = true ↔ 48 ≤ c ∧ c ≤ 57 := by unfold isD; simp
theorem dig_isD (n : Nat) : ∀ c ∈ dig n, isD c = true := fun c hc => by
  have := TL.numL_digits n c hc
  exact isD_iff.mpr ⟨by omega, by omega⟩
theorem dig_first (n : Nat) : ∃ a r, dig n = a :: r ∧ 48 ≤ a ∧ a ≤ 57 := by
  obtain ⟨a, r, e⟩ := List.exists_cons_of_ne_nil (TL.numL_ne n)
  have := isD_iff.mp (dig_isD n a (by rw [show dig n = a :: r from e]; exact List.mem_cons_self))
  exact ⟨a, r, e, this.1, this.2⟩
end SC
/-! own errors of the text -/
namespace SC
open PySem L2
/-- an own error class over ValueError without an __init__ -/
structure Err (K : PySem.W.Frag) (mg : Str → Option Value) (x : Str) (C : Addr) : Prop where
  g : mg x = some (.ref C)
  e : PySem.W.excIn K C [.type "ValueError", .type "Exception", .type "BaseException", .type "object"] "ValueError.__new__" = true
  k : PySem.W.keepIn K (.ref C) = true
  b : PySem.W.subIn K (.ref C) (.type "BaseException") = some true
  t : PySem.W.typeIn K (.ref C) = some (.type "type")
  i : PySem.W.isClsIn K C = true
  s : PySem.W.subIn K (.ref C) (.ref C) = some true
def tErr (C : Addr) (W : WX) : TS := fun _ σ H => W (.ref C) none σ H
theorem Err.raise {X : Cx} {W : WX} {x m : Str} {C : Addr} {j : Nat} {p p2 pos pos2 : Pos} (T : Err X.K X.mg x C) (tk : Takes X W) (hc : X.calm = true := by rfl) (hg : Gl X x := by rfl) (hdb : (x == ("__debug__" : Str)) = false := by decide) :
    PS X (.Raise (some (.Call (.Name x p) [.Constant (.str m) j p2] [] pos)) none pos2) (tErr C W) :=
  ps_raise hc tk (pmk_own PySem.F.excBase_ValueError T.e T.g T.k (raises_own T.b T.t) hg hdb)
theorem Err.em {K : PySem.W.Frag} {mg : Str → Option Value} {x : Str} {C : Addr} (T : Err K mg x C) : PySem.W.exmOne K (.ref C) (.ref C) = some true := by
  have e1 : (PySem.W.subIn K (.ref C) (.type "BaseException") == some true) = true := by rw [T.b]; rfl
  have e2 : ((PySem.W.clsIn K C).isSome && PySem.W.typeIn K (.ref C) == some (.type "type")) = true := by
    rw [show (PySem.W.clsIn K C).isSome = true from T.i, T.t]; rfl
  have e3 : PySem.W.kitCls K (.ref C) (.ref C) = some true := by
    show (if ((PySem.W.clsIn K C).isSome && PySem.W.typeIn K (.ref C) == some (.type "type")) = true then PySem.W.subIn K (.ref C) (.ref C) else none) = some true
    rw [if_pos e2]; exact T.s
  show (if (PySem.W.subIn K (.ref C) (.type "BaseException") == some true) = true then PySem.W.kitCls K (.ref C) (.ref C) else none) = some true
  rw [if_pos e1]; exact e3
/-- what a raising def's callees let out, handed on -/
theorem passX {X : Cx} {E : XK} {W : WX} (tk : Takes X W) (h : ∀ cls d σ H, E cls d H → W cls d σ H) : Passes (L2.CX X.prog X.w) X E := passes_call tk h
/-- a module's constant int -/
theorem pe_cI {X : Cx} {x : Str} {n : Int} {t : Tok} {p : Pos} (h : X.mg x = some (.int n t)) (hg : Gl X x := by rfl) (hd : (x == ("__debug__" : Str)) = false := by decide) : PE X (.Name x p) (tC (.int n)) :=
  pe_glob (v := .int n) hg h ⟨t, rfl⟩ hd
/-- c * n, c one sign -/
theorem op_mulS {X : Cx} : OpR X (binaryOp .Mult) (fun x y H Q => ∃ (c : Nat) (n : Int), x = .str ⟨#[c]⟩ ∧ y = .int n ∧ (0 ≤ n ∧ n ≤ 16000000) ∧ Q (.str ⟨(List.replicate n.toNat c).toArray⟩) H) := by
  intro pins s σ H x y v u Q I rx ry h
  obtain ⟨c, n, rfl, rfl, ⟨n0, n1⟩, q⟩ := h
  obtain ⟨t, rfl⟩ := rx
  obtain ⟨t', rfl⟩ := ry
  have lim : sizeLine = 16777216 := sizeLine_eq
  have fold : ∀ (k : Nat) (a : Array Nat), ((List.replicate k (#[c] : Array Nat)).foldl (· ++ ·) a).toList = a.toList ++ List.replicate k c := by
    intro k
    induction k with
    | zero => intro a; simp
    | succ k ih => intro a; rw [List.replicate_succ, List.foldl_cons, ih, Array.toList_append, List.replicate_succ]; simp
  have e : Txt.mul (⟨#[c]⟩ : Str) n = ⟨(List.replicate n.toNat c).toArray⟩ := by
    unfold Txt.mul
    by_cases h1 : n < 1
    · rw [if_pos h1]
      have : n.toNat = 0 := by omega
      rw [this]; rfl
    · rw [if_neg h1]
      by_cases h2 : n = 1
      · subst h2; rfl
      · have h3 : (n == 1 || (⟨#[c]⟩ : Str).length == 0) = false := by
          have : (n == 1) = false := by simpa using h2
          rw [this]; rfl
        rw [h3, if_neg Bool.false_ne_true]
        refine TL.ext_tl ?_
        show ((List.replicate n.toNat (#[c] : Array Nat)).foldl (· ++ ·) #[]).toList = _
        rw [fold]
        simp [TL.tl]
  refine PySem.SB.mul ⟨?_, fun h1 h2 => ?_, fun h1 h2 => ?_⟩ fun t' k => ?_
  · rw [decide_eq_false (by omega), decide_eq_false (by omega)]; rfl
  · show ¬ ((1 : Int) > (2 ^ 63 - 1) / n)
    have : (1 : Int) ≤ (2 ^ 63 - 1) / n := by
      rw [Int.le_ediv_iff_mul_le (by omega)]
      omega
    omega
  · show PySem.Builtin.Str.tooLong (1 * n.toNat) = false
    rw [Nat.one_mul]
    unfold PySem.Builtin.Str.tooLong
    simp only [decide_eq_false_iff_not]
    omega
  · rw [e]
    exact ⟨.str _, H, I.tok _, ⟨_, rfl⟩, q⟩
theorem dig_len {n : Nat} (h : n < 10 ^ 20) : (dig n).length ≤ 20 := TL.numL_len (by decide) h
theorem txt_size {n : Nat} : ∀ {t : Tr}, pl n t = true → fit t = true → sml t = true → (txt t).length ≤ 10000100
  | .int i, h, _, _ => by
    have h : (decide (0 ≤ i) && decide (i ≤ 99999999999999999999)) = true := h
    rw [Bool.and_eq_true, decide_eq_true_eq, decide_eq_true_eq] at h
    have := dig_len (n := i.toNat) (by omega)
    show (dig i.toNat ++ [46]).length ≤ _
    rw [List.length_append]
    show _ + 1 ≤ _
    omega
  | .str z, _, _, hs => by
    have h : z.length ≤ 10000000 := of_decide_eq_true hs
    have := dig_len (n := z.length) (by omega)
    show (dig z.length ++ 58 :: TL.tl z).length ≤ _
    rw [List.length_append, List.length_cons, ← TL.len_tl]
    omega
  | .tup ts, _, h, _ => by
    have h : (fits ts && decide ((txts ts).length + 2 ≤ 100000)) = true := h
    rw [Bool.and_eq_true, decide_eq_true_eq] at h
    show (91 :: (txts ts ++ [93])).length ≤ _
    rw [List.length_cons, List.length_append]
    show _ + 1 + 1 ≤ _
    omega
  | .oth _, h, _, _ => by cases h
theorem S_len (l : List Nat) : (⟨l.toArray⟩ : Str).length = l.length := by
  show l.toArray.size = _
  rw [List.size_toArray]
/-- str(n) -/
theorem toString_S (n : Nat) : Str.ofString (toString ((n : Nat) : Int)) = ⟨(dig n).toArray⟩ := TL.ext_tl (TL.tl_num n)
theorem log_small {i : Int} (h0 : 0 ≤ i) (h : i ≤ 99999999999999999999) : i.natAbs.log2 < 1920 := by
  by_cases z : i.natAbs = 0
  · rw [z]; decide
  · have := (Nat.log2_lt (k := 70) z).mpr (by omega)
    omega
theorem pls_mem {n : Nat} {t : Tr} : ∀ {ts : List Tr}, pls n ts = true → t ∈ ts → pl n t = true
  | u :: ts, h, m => by
    have h : (pl n u && pls n ts) = true := h
    rw [Bool.and_eq_true] at h
    rcases List.mem_cons.mp m with rfl | m
    · exact h.1
    · exact pls_mem h.2 m
theorem fits_mem {t : Tr} : ∀ {ts : List Tr}, fits ts = true → t ∈ ts → fit t = true
  | u :: ts, h, m => by
    have h : (fit u && fits ts) = true := h
    rw [Bool.and_eq_true] at h
    rcases List.mem_cons.mp m with rfl | m
    · exact h.1
    · exact fits_mem h.2 m
theorem smls_mem {t : Tr} : ∀ {ts : List Tr}, smls ts = true → t ∈ ts → sml t = true
  | u :: ts, h, m => by
    have h : (sml u && smls ts) = true := h
    rw [Bool.and_eq_true] at h
    rcases List.mem_cons.mp m with rfl | m
    · exact h.1
    · exact smls_mem h.2 m
theorem take_one {α : Type} {l : List α} {i : Nat} {x : α} (h : l[i]? = some x) : l.take (i + 1) = l.take i ++ [x] := by
  rw [List.take_add_one, h]; rfl
/-- the texts of items, as Python's texts -/
def tys (ts : List Tr) : List Str := ts.map fun t => (⟨(txt t).toArray⟩ : Str)
theorem tys_app (ts us : List Tr) : tys (ts ++ us) = tys ts ++ tys us := List.map_append
theorem tl_tys : ∀ ts : List Tr, TL.tl (Txt.join (Str.ofString "") (tys ts)) = txts ts := by
  intro ts
  rw [tl_joinE]
  induction ts with
  | nil => rfl
  | cons t ts ih =>
    show txt t ++ ((tys ts).map TL.tl).flatten = txt t ++ txts ts
    rw [ih]
theorem tys_sum : ∀ ts : List Tr, ((tys ts).map (·.length)).sum = (txts ts).length
  | [] => rfl
  | t :: ts => by
    show (⟨(txt t).toArray⟩ : Str).length + ((tys ts).map (·.length)).sum = (txt t ++ txts ts).length
    rw [tys_sum ts, S_len, List.length_append]
theorem take_le : ∀ (ts : List Tr) (i : Nat), (txts (ts.take i)).length ≤ (txts ts).length
  | [], i => by rw [List.take_nil]; exact Nat.le_refl _
  | t :: ts, 0 => Nat.zero_le _
  | t :: ts, i + 1 => by
    show (txt t ++ txts (ts.take i)).length ≤ (txt t ++ txts ts).length
    have := take_le ts i
    rw [List.length_append, List.length_append]
    omega
theorem TabG.ne_lst {Pt p : Addr} {H : Hp} {xs : List V} (g : GxR.TabG H Pt) (h : H p = some (.lst xs)) : p ≠ Pt := by
  obtain ⟨ps, e, _⟩ := g
  exact ne_of h e (by intro z; cases z)
theorem TabG.upd {Pt p : Addr} {H : Hp} {o : HO} (g : GxR.TabG H Pt) (n : p ≠ Pt) : GxR.TabG (upd H p o) Pt := by
  obtain ⟨ps, e, q⟩ := g
  exact ⟨ps, by rw [upd_ne (Ne.symm n)]; exact e, q⟩
end SC
/-! decode: what its readings want -/
namespace SC
open PySem L2
section
variable {H H' : Hp}
theorem tyN_kp0 {v : V} {t : String} (k : Kp [] H H') (h : tyN H v = some t) : tyN H' v = some t := by
  cases v with
  | ref p =>
    unfold tyN at h
    simp only at h
    split at h
    · rename_i xs q; cases h; exact tyN_lst (k.keep _ _ (by simp) q)
    · rename_i xs q; cases h; exact tyN_tup (k.keep _ _ (by simp) q)
    · rename_i xs q; cases h; exact tyN_dK (k.keep _ _ (by simp) q)
    · cases h
  | _ => exact h
mutual
theorem Rep.kp0 (k : Kp [] H H') : ∀ {v : V} {t : Tr}, Rep H v t → Rep H' v t
  | _, _, .int i => .int i
  | _, _, .str z => .str z
  | _, _, .tup e h => .tup (k.tup _ _ e) (h.kp0 k)
  | _, _, .oth e a b c => .oth (tyN_kp0 k e) a b c
theorem RepAll.kp0 (k : Kp [] H H') : ∀ {vs : List V} {ts : List Tr}, RepAll H vs ts → RepAll H' vs ts
  | _, _, .nil => .nil
  | _, _, .cons a b => .cons (a.kp0 k) (b.kp0 k)
end
end
end SC
/-! values that a law draws: their bounds -/
namespace SC
open PySem L2
theorem ok_never {P : Program} {w : World} {K : PySem.W.Frag} {mg : Str → Option Value} {base : Heap} {CX : CXT} {k : Nat} {f : Addr} {fd : FuncData} {ps : List Str} : FnOk P w K mg base CX k f fd ps (fun _ _ _ _ => False) :=
  ⟨fun _ _ _ _ h => h.elim, fun _ _ _ _ _ _ _ _ _ _ _ _ _ h => h.elim⟩
mutual
/-- how many tuples -/
def nT : Tr → Nat
  | .tup ts => 1 + nTs ts
  | _ => 0
def nTs : List Tr → Nat
  | [] => 0
  | t :: ts => nT t + nTs ts
end
mutual
/-- drawn: small leaves, at most three items, at most n deep -/
def gd (n : Nat) : Tr → Bool
  | .int i => decide (0 ≤ i) && decide (i ≤ 99999999999999999999)
  | .str z => decide (z.length ≤ 105) && prn z
  | .tup ts => match n with
    | 0 => false
    | m + 1 => decide (ts.length ≤ 3) && gds m ts
  | .oth _ => false
def gds (n : Nat) : List Tr → Bool
  | [] => true
  | t :: ts => gd n t && gds n ts
end
mutual
theorem pl_mono : ∀ (n m : Nat) (t : Tr), n ≤ m → pl n t = true → pl m t = true
  | _, _, .int _, _, h => h
  | _, _, .str _, _, h => h
  | 0, _, .tup _, _, h => by cases h
  | n + 1, 0, .tup _, q, _ => by omega
  | n + 1, m + 1, .tup ts, q, h => pls_mono n m ts (by omega) h
  | _, _, .oth _, _, h => h
theorem pls_mono : ∀ (n m : Nat) (ts : List Tr), n ≤ m → pls n ts = true → pls m ts = true
  | _, _, [], _, _ => rfl
  | n, m, t :: ts, q, h => by
    have h : (pl n t && pls n ts) = true := h
    rw [Bool.and_eq_true] at h
    show (pl m t && pls m ts) = true
    rw [pl_mono n m t q h.1, pls_mono n m ts q h.2]
    rfl
end
mutual
/-- no other kind within: such values stand whatever lists change -/
def pure_ : Tr → Bool
  | .oth _ => false
  | .tup ts => pures ts
  | _ => true
def pures : List Tr → Bool
  | [] => true
  | t :: ts => pure_ t && pures ts
end
mutual
theorem pl_pure : ∀ (n : Nat) (t : Tr), pl n t = true → pure_ t = true
  | _, .int _, _ => rfl
  | _, .str _, _ => rfl
  | 0, .tup _, h => by cases h
  | n + 1, .tup ts, h => pls_pure n ts h
  | _, .oth _, h => by cases h
theorem pls_pure : ∀ (n : Nat) (ts : List Tr), pls n ts = true → pures ts = true
  | _, [], _ => rfl
  | n, t :: ts, h => by
    have h : (pl n t && pls n ts) = true := h
    rw [Bool.and_eq_true] at h
    show (pure_ t && pures ts) = true
    rw [pl_pure n t h.1, pls_pure n ts h.2]
    rfl
end
mutual
theorem Rep.any {S : List Addr} {H H' : Hp} (k : Kp S H H') : ∀ {v : V} {t : Tr}, Rep H v t → pure_ t = true → Rep H' v t
  | _, _, .int i, _ => .int i
  | _, _, .str z, _ => .str z
  | _, _, .tup e q, h => .tup (k.tup _ _ e) (q.any k h)
  | _, _, .oth _ _ _ _, h => by cases h
theorem RepAll.any {S : List Addr} {H H' : Hp} (k : Kp S H H') : ∀ {vs : List V} {ts : List Tr}, RepAll H vs ts → pures ts = true → RepAll H' vs ts
  | _, _, .nil, _ => .nil
  | _, t :: ts, .cons a b, h => by
    have h : (pure_ t && pures ts) = true := h
    rw [Bool.and_eq_true] at h
    exact .cons (a.any k h.1) (b.any k h.2)
end
mutual
/-- the law's own comparison -/
def same : Tr → Tr → Bool
  | .tup us, .tup ts => sames us ts
  | .str a, .str b => decide (a = b)
  | .int a, .int b => decide (a = b)
  | _, _ => false
def sames : List Tr → List Tr → Bool
  | [], [] => true
  | u :: us, t :: ts => same u t && sames us ts
  | _, _ => false
end
mutual
theorem same_refl : ∀ (n : Nat) (t : Tr), pl n t = true → same t t = true
  | _, .int _, _ => by show decide _ = true; exact decide_eq_true rfl
  | _, .str _, _ => by show decide _ = true; exact decide_eq_true rfl
  | 0, .tup _, h => by cases h
  | n + 1, .tup ts, h => sames_refl n ts h
  | _, .oth _, h => by cases h
theorem sames_refl : ∀ (n : Nat) (ts : List Tr), pls n ts = true → sames ts ts = true
  | _, [], _ => rfl
  | n, t :: ts, h => by
    have h : (pl n t && pls n ts) = true := h
    rw [Bool.and_eq_true] at h
    show (same t t && sames ts ts) = true
    rw [same_refl n t h.1, sames_refl n ts h.2]
    rfl
end
mutual
theorem same_eq : ∀ (a b : Tr), same a b = true → a = b
  | .tup us, .tup ts, h => by rw [sames_eq us ts h]
  | .str a, .str b, h => by rw [of_decide_eq_true (show decide (a = b) = true from h)]
  | .int a, .int b, h => by rw [of_decide_eq_true (show decide (a = b) = true from h)]
  | .oth _, .oth _, h => by cases h
  | .oth _, .int _, h => by cases h
  | .oth _, .str _, h => by cases h
  | .oth _, .tup _, h => by cases h
  | .int _, .oth _, h => by cases h
  | .int _, .str _, h => by cases h
  | .int _, .tup _, h => by cases h
  | .str _, .oth _, h => by cases h
  | .str _, .int _, h => by cases h
  | .str _, .tup _, h => by cases h
  | .tup _, .oth _, h => by cases h
  | .tup _, .int _, h => by cases h
  | .tup _, .str _, h => by cases h
theorem sames_eq : ∀ (us ts : List Tr), sames us ts = true → us = ts
  | [], [], _ => rfl
  | u :: us, t :: ts, h => by
    have h : (same u t && sames us ts) = true := h
    rw [Bool.and_eq_true] at h
    rw [same_eq u t h.1, sames_eq us ts h.2]
  | [], _ :: _, h => by cases h
  | _ :: _, [], h => by cases h
end
theorem sames_len : ∀ {us ts : List Tr}, sames us ts = true → us.length = ts.length := fun h => by rw [sames_eq _ _ h]
/-- one promise for all depths up to a bound -/
theorem fnok_ex {P : Program} {w : World} {K : PySem.W.Frag} {mg : Str → Option Value} {base : Heap} {CX : CXT} {k : Nat} {f : Addr} {fd : FuncData} {ps : List Str} {sp : Nat → Sp} {N : Nat} (h : ∀ n, n ≤ N → FnOk P w K mg base CX k f fd ps (sp n)) :
    FnOk P w K mg base CX k f fd ps (fun vs H Q E => ∃ n, n ≤ N ∧ sp n vs H Q E) :=
  ⟨fun vs H Q E ⟨n, hn, q⟩ => (h n hn).len vs H Q E q, fun A outer s H args us vs Q E hr he hb hv ⟨n, hn, q⟩ => (h n hn).run A outer s H args us vs Q E hr he hb hv q⟩
theorem strT {z : Str} (hz : z.length ≤ 10000000) : z.length ≤ sizeLine ∧ (z.length : Int).natAbs.log2 < 1920 ∧ (Str.ofString (toString (z.length : Int))).length + (Str.ofString ":").length ≤ sizeLine ∧
    (Str.ofString (toString (z.length : Int)) ++ Str.ofString ":").length + z.length ≤ sizeLine ∧ Str.ofString (toString (z.length : Int)) ++ Str.ofString ":" ++ z = ⟨(txt (.str z)).toArray⟩ := by
  have lim : sizeLine = 16777216 := sizeLine_eq
  have dl := dig_len (n := z.length) (by omega)
  have e1 : (Str.ofString (toString (z.length : Int))).length ≤ 20 := by rw [toString_S, S_len]; exact dl
  have e2 : (Str.ofString ":").length = 1 := by decide +kernel
  have e3 : (Str.ofString (toString (z.length : Int)) ++ Str.ofString ":").length ≤ 21 := by
    rw [TL.len_tl, TL.tl_append, List.length_append, ← TL.len_tl, ← TL.len_tl]; omega
  refine ⟨by omega, log_small (by omega) (by omega), by omega, by omega, TL.ext_tl ?_⟩
  rw [TL.tl_append, TL.tl_append, TL.tl_num]
  show (dig z.length ++ [58]) ++ TL.tl z = dig z.length ++ 58 :: TL.tl z
  rw [List.append_assoc]; rfl
theorem intT {i : Int} (h0 : 0 ≤ i) (h1 : i ≤ 99999999999999999999) : i.natAbs.log2 < 1920 ∧ (Str.ofString (toString i)).length + (Str.ofString ".").length ≤ sizeLine ∧ Str.ofString (toString i) ++ Str.ofString "." = ⟨(txt (.int i)).toArray⟩ := by
  have lim : sizeLine = 16777216 := sizeLine_eq
  have ei : i = ((i.toNat : Nat) : Int) := by omega
  have dl := dig_len (n := i.toNat) (by omega)
  have e2 : (Str.ofString ".").length = 1 := by decide +kernel
  have e1 : (Str.ofString (toString i)).length ≤ 20 := by rw [ei, toString_S, S_len]; exact dl
  refine ⟨log_small h0 h1, by omega, TL.ext_tl ?_⟩
  rw [TL.tl_append]
  show TL.tl (Str.ofString (toString i)) ++ [46] = dig i.toNat ++ [46]
  rw [show TL.tl (Str.ofString (toString i)) = dig i.toNat by rw [ei]; exact TL.tl_num _]
theorem tupT (ts : List Tr) (h : (txts ts).length ≤ 16000000) : ((tys ts).map (·.length)).sum + (tys ts).length * (Str.ofString "").length ≤ 16777216 ∧ (Str.ofString "[").length + (Txt.join (Str.ofString "") (tys ts)).length ≤ sizeLine ∧
    (Str.ofString "[" ++ Txt.join (Str.ofString "") (tys ts)).length + (Str.ofString "]").length ≤ sizeLine ∧ Str.ofString "[" ++ Txt.join (Str.ofString "") (tys ts) ++ Str.ofString "]" = ⟨(txt (.tup ts)).toArray⟩ := by
  have lim : sizeLine = 16777216 := sizeLine_eq
  have h2 : (Str.ofString "]").length = 1 := by decide +kernel
  have h1 : (Str.ofString "[").length = 1 := by decide +kernel
  refine ⟨?_, ?_, ?_, TL.ext_tl ?_⟩
  · rw [tys_sum]
    show _ + (tys ts).length * 0 ≤ _
    omega
  · rw [h1, TL.len_tl, tl_tys]; omega
  · rw [TL.len_tl, TL.tl_append, List.length_append, ← TL.len_tl, h1, tl_tys, h2]; omega
  · rw [TL.tl_append, TL.tl_append, tl_tys]
    rfl
theorem sames_cat {u t : Tr} (h : same u t = true) : ∀ (us ts : List Tr), sames us ts = true → sames (us ++ [u]) (ts ++ [t]) = true
  | [], [], _ => by show (same u t && true) = true; rw [h]; rfl
  | a :: us, b :: ts, q => by
    have q : (same a b && sames us ts) = true := q
    rw [Bool.and_eq_true] at q
    show (same a b && sames (us ++ [u]) (ts ++ [t])) = true
    rw [q.1, sames_cat h us ts q.2]; rfl
  | [], _ :: _, q => by cases q
  | _ :: _, [], q => by cases q
theorem dig_prc (n : Nat) : ∀ c ∈ dig n, prc c = true := fun c hc => by
  obtain ⟨h1, h2⟩ := isD_iff.mp (dig_isD n c hc)
  unfold prc
  rw [decide_eq_true (by omega), decide_eq_true (by omega), decide_eq_false (by omega)]
  rfl
mutual
theorem txt_prc : ∀ (n : Nat) (t : Tr), pl n t = true → ∀ c ∈ txt t, prc c = true
  | n, .int i, _, c, h => by
    rcases List.mem_append.mp (show c ∈ dig i.toNat ++ [46] from h) with h | h
    · exact dig_prc _ c h
    · rw [List.mem_singleton.mp h]; decide
  | n, .str z, hp, c, h => by
    rcases List.mem_append.mp (show c ∈ dig z.length ++ 58 :: TL.tl z from h) with h | h
    · exact dig_prc _ c h
    · rcases List.mem_cons.mp h with h | h
      · rw [h]; decide
      · have hp : prn z = true := hp
        unfold prn at hp
        exact List.all_eq_true.mp hp c h
  | 0, .tup ts, hp, c, h => by cases hp
  | n + 1, .tup ts, hp, c, h => by
    rcases List.mem_cons.mp (show c ∈ 91 :: (txts ts ++ [93]) from h) with h | h
    · rw [h]; decide
    · rcases List.mem_append.mp h with h | h
      · exact txts_prc n ts hp c h
      · rw [List.mem_singleton.mp h]; decide
  | _, .oth _, hp, _, _ => by cases hp
theorem txts_prc : ∀ (n : Nat) (ts : List Tr), pls n ts = true → ∀ c ∈ txts ts, prc c = true
  | _, [], _, c, h => by cases h
  | n, t :: ts, hp, c, h => by
    have hp : (pl n t && pls n ts) = true := hp
    rw [Bool.and_eq_true] at hp
    rcases List.mem_append.mp (show c ∈ txt t ++ txts ts from h) with h | h
    · exact txt_prc n t hp.1 c h
    · exact txts_prc n ts hp.2 c h
end
theorem txt_prn {n : Nat} {t : Tr} (h : pl n t = true) : prn ⟨(txt t).toArray⟩ = true := by
  unfold prn
  exact List.all_eq_true.mpr fun c hc => txt_prc n t h c (by simpa using hc)
end SC
namespace SC
open PySem L2 PyProof.Rows
theorem hexF (n : Nat) : PyProof.Rows.intField' { align := 62, type := some 120 } false [] ((Nat.toDigits 16 n).map fun c => (if (120 : Nat) == 88 then c.toUpper else c).toNat) [] 4 = ⟨((Nat.toDigits 16 n).map Char.toNat).toArray⟩ := by
  have e : ((Nat.toDigits 16 n).map fun c => (if (120 : Nat) == 88 then c.toUpper else c).toNat) = (Nat.toDigits 16 n).map Char.toNat := by
    apply List.map_congr_left
    intro c _
    rw [if_neg (by decide)]
  rw [e]
  unfold PyProof.Rows.intField'
  have hd : ((Nat.toDigits 16 n).map Char.toNat).isEmpty = false := by
    have := tDigits_len_ge 16 n
    cases h : Nat.toDigits 16 n with
    | nil => rw [h] at this; simp at this
    | cons _ _ => rfl
  generalize (Nat.toDigits 16 n).map Char.toNat = ds at hd ⊢
  simp [hd]
open PySem.W PySem.Calls Builtin Builtin.Str Builtin.Int Builtin.Float in
theorem fld_hex {prog : Program} {w : World} {A : Around} {E : Value → Shared → Prop} {s : Shared} {t : Tok} {n : Nat} {Q : Value → Shared → Prop} (hn : (Nat.toDigits 16 n).length ≤ 1000)
    (h : ∀ t' k, Q (.str ⟨((Nat.toDigits 16 n).map Char.toNat).toArray⟩ t') { s with toks := k }) : wpAny (model prog w) A (formatField (.int (n : Int) t) (PySem.Str.ofString "x")) Q E s := by
  refine PySem.W.KXf.field_int rfl (by decide) (by decide) ?_ h
  intro u
  apply PySem.W.KPc.meets_of
  intro p1 w1 A1 s1 Q1 E1 h1
  unfold Builtin.«int.__format__»
  have hne : ((Str.ofString "x").length == 0) = false := by decide
  have hasc : (((Str.ofString "x").cps.toList.drop 1).any (· ≥ 128) || ((Str.ofString "x").cps.getD 0 0 ≥ 128 && !([60, 62, 61, 94] : List Nat).contains ((Str.ofString "x").cps.getD 1 0))) = false := by decide
  simp only [selfAndOne, noKeywords, Int.intOfSelf, asInt?, asStr?, List.isEmpty_nil, if_true, pure_bind, bind_pure, bind_assoc, hne, hasc, Bool.false_eq_true, if_false,
    show (Value.str (Str.ofString "x") u == Value.none) = false from rfl]
  refine wpAny_bind (wpAny_typeNameOf (T := "str") (typeIs_str _ _ _) (by decide) fun _ => ?_)
  refine wpAny_bind (wpAny_typeNameOfCut_int ?_)
  have hp : parseFormatSpec (Str.ofString "x").cps.toList "int" 62 = .ok { align := 62, type := some 120 } := by rfl
  simp only [hp]
  rw [if_pos (show _ = true by decide)]
  conv => arg 3; whnf
  refine PySem.W.KXf.ret_text (T := ⟨((Nat.toDigits 16 n).map Char.toNat).toArray⟩) ?_ ?_ h1
  · show PyProof.Rows.intField' { align := 62, type := some 120 } (decide ((n : Int) < 0)) [] ((Nat.toDigits 16 ((n : Int)).natAbs).map fun c => (if (120 : Nat) == 88 then c.toUpper else c).toNat) [] 4 = _
    rw [decide_eq_false (by omega), Int.natAbs_natCast]
    exact hexF n
  · show (PyProof.Rows.intField' { align := 62, type := some 120 } (decide ((n : Int) < 0)) [] ((Nat.toDigits 16 ((n : Int)).natAbs).map fun c => (if (120 : Nat) == 88 then c.toUpper else c).toNat) [] 4).length ≤ sizeLine
    rw [decide_eq_false (by omega), Int.natAbs_natCast, hexF n]
    show ((Nat.toDigits 16 n).map Char.toNat).toArray.size ≤ _
    rw [List.size_toArray, List.length_map, sizeLine_eq]
    omega
section
variable {X : Cx}
/-- {n:x} of an int from 0 on -/
def tFmtX (te : TE) : TE := fun σ H Q => te σ H fun x H1 => ∃ n : Nat, x = .int (n : Int) ∧ (Nat.toDigits 16 n).length ≤ 1000 ∧ Q (.str ⟨((Nat.toDigits 16 n).map Char.toNat).toArray⟩) H1
theorem pe_fmtX {e : Expr} {te : TE} {j : Nat} {p1 p2 p3 : Pos} (he : PE X e te) : PE X (.FormattedValue e (-1) (some (.JoinedStr [.Constant (.str "x") j p1] p2)) p3) (tFmtX te) := by
  refine ⟨fun pins s σ H Q I h => ?_⟩
  refine wpAny_FormattedValue_spec (thn (he.run pins s σ H _ I h) fun v s1 hv => ?_)
  obtain ⟨x, H1, I1, r1, n, rfl, hz, q⟩ := hv
  obtain ⟨t, rfl⟩ := r1
  refine thn ((pe_joined1 pe_str).run pins s1 σ H1 (fun y H2 => H2 = H1 ∧ y = .str "x") I1 ⟨rfl, rfl⟩) fun r s2 hr => ?_
  obtain ⟨y, H2, I2, r2, rfl, rfl⟩ := hr
  obtain ⟨t2, rfl⟩ := r2
  exact ⟨_, t2, rfl, fld_hex hz fun t' k => ⟨.str _, H2, I2.tok _, ⟨_, rfl⟩, q⟩⟩
end
/-- a module's constant, its token left open -/
theorem pe_cE {X : Cx} {x : Str} {n : Int} {p : Pos} (h : ∃ t, X.mg x = some (.int n t)) (hg : Gl X x := by rfl) (hd : (x == ("__debug__" : Str)) = false := by decide) : PE X (.Name x p) (tC (.int n)) :=
  let ⟨t, h⟩ := h
  pe_glob (v := .int n) hg h ⟨t, rfl⟩ hd
theorem pe_cSE {X : Cx} {x : Str} {n : Str} {p : Pos} (h : ∃ t, X.mg x = some (.str n t)) (hg : Gl X x := by rfl) (hd : (x == ("__debug__" : Str)) = false := by decide) : PE X (.Name x p) (tC (.str n)) :=
  let ⟨t, h⟩ := h
  pe_glob (v := .str n) hg h ⟨t, rfl⟩ hd
/-! the digest: a number, its 18 hexadecimal signs -/
def dgD : Nat := 2361183241434822606617
def dgF (n c : Nat) : Nat := (n * 65599 + c) % dgD
def dgN (cs : List Nat) : Nat := cs.foldl dgF (cs.length + 1)
theorem fold_lt : ∀ (cs : List Nat) (a : Nat), a < dgD → cs.foldl dgF a < dgD
  | [], a, h => h
  | c :: cs, a, h => by
    rw [List.foldl_cons]
    exact fold_lt cs _ (Nat.mod_lt _ (by decide))
theorem dgN_lt (cs : List Nat) : dgN cs < dgD := by
  cases cs with
  | nil => decide
  | cons c cs => exact fold_lt cs _ (Nat.mod_lt _ (by decide))
/-- the place of a sign among the sixteen -/
def hxI (c : Nat) : Nat := if c ≤ 57 then c - 48 else c - 87
def hxs : List Nat := [48, 49, 50, 51, 52, 53, 54, 55, 56, 57, 97, 98, 99, 100, 101, 102]
def hxT (n : Nat) : List Nat := (Nat.toDigits 16 n).map Char.toNat
def hx18 (n : Nat) : List Nat := List.replicate (18 - (hxT n).length) 48 ++ hxT n
theorem hx_digit : ∀ d : Nat, d < 16 → hxI (Nat.digitChar d).toNat = d ∧ (Nat.digitChar d).toNat ∈ hxs := by decide
theorem hxT_snoc {m : Nat} (h : ¬ m < 16) : hxT m = hxT (m / 16) ++ [(Nat.digitChar (m % 16)).toNat] := by
  have hm : m % 16 < 16 := Nat.mod_lt m (by decide)
  have t : Nat.toDigits 16 (m / 16) ++ Nat.toDigits 16 (m % 16) = Nat.toDigits 16 (16 * (m / 16) + m % 16) := Nat.toDigits_append_toDigits (by decide) (by omega) hm
  rw [Nat.div_add_mod] at t
  unfold hxT
  rw [← t, List.map_append, Nat.toDigits_of_lt_base hm]
  rfl
theorem hxT_one {m : Nat} (h : m < 16) : hxT m = [(Nat.digitChar m).toNat] := by
  unfold hxT
  rw [Nat.toDigits_of_lt_base h]; rfl
theorem hxT_in (m : Nat) : ∀ c ∈ hxT m, c ∈ hxs := by
  induction m using Nat.strongRecOn with
  | _ m ih =>
    by_cases h : m < 16
    · rw [hxT_one h]
      intro c hc
      rw [List.mem_singleton.mp hc]
      exact (hx_digit m h).2
    · rw [hxT_snoc h]
      intro c hc
      rcases List.mem_append.mp hc with hc | hc
      · exact ih (m / 16) (by omega) c hc
      · rw [List.mem_singleton.mp hc]
        exact (hx_digit (m % 16) (Nat.mod_lt m (by decide))).2
theorem hxT_len {n : Nat} (h : n < dgD) : (hxT n).length ≤ 18 := by
  unfold hxT
  rw [List.length_map]
  exact PySem.StrLaws.toDigits_len (by decide) (Nat.lt_trans h (by decide))
theorem hx18_in (n : Nat) : ∀ c ∈ hx18 n, c ∈ hxs := by
  intro c hc
  rcases List.mem_append.mp hc with hc | hc
  · rw [List.eq_of_mem_replicate hc]; decide
  · exact hxT_in n c hc
/-- the digest of a text -/
def dgs (z : Str) : Str := ⟨(hx18 (dgN z.cps.toList)).toArray⟩
theorem zfill_hx {n : Nat} (h : n < dgD) : PySem.Txt.zfill ⟨(hxT n).toArray⟩ 18 = ⟨(hx18 n).toArray⟩ := by
  have hl := hxT_len h
  unfold PySem.Txt.zfill
  have el : (⟨(hxT n).toArray⟩ : Str).length = (hxT n).length := by show (hxT n).toArray.size = _; rw [List.size_toArray]
  rw [el]
  split
  · have e : (hxT n).length = 18 := by omega
    unfold hx18
    rw [e]; rfl
  · have ne : ∀ c ∈ hxT n, c ≠ 43 ∧ c ≠ 45 := fun c hc => by
      have := hxT_in n c hc
      simp only [hxs, List.mem_cons, List.not_mem_nil, or_false] at this
      omega
    have e1 : zfilled ⟨(hxT n).toArray⟩ ((18 : Int).toNat - (hxT n).length) = Builtin.Str.padded ⟨(hxT n).toArray⟩ ((18 : Int).toNat - (hxT n).length) 0 48 := by
      unfold zfilled
      split
      · rename_i q; rw [List.getElem?_toArray] at q; exact absurd rfl (ne _ (List.mem_of_getElem? q)).1
      · rename_i q; rw [List.getElem?_toArray] at q; exact absurd rfl (ne _ (List.mem_of_getElem? q)).2
      · rfl
    rw [e1]
    unfold Builtin.Str.padded hx18
    simp [List.toArray_replicate]
end SC
/-! z[::-1] of a text -/
namespace SC
open PySem PySem.Spec PyProof.Rows L2
theorem cut_from (z : Str) (k : Nat) : TL.tl (cutS z (some (k : Int)) none) = (TL.tl z).drop k := by
  show (z.cps.toList.drop (HT.sIx z.length 0 (some (k : Int)))).take (HT.sIx z.length z.length none - HT.sIx z.length 0 (some (k : Int))) = _
  rw [HT.sIx_nat, HT.sIx_none]
  have e : z.cps.toList.length = z.length := Array.length_toList
  rw [List.take_of_length_le (by rw [List.length_drop, e]; omega)]
  show z.cps.toList.drop (min k z.length) = z.cps.toList.drop k
  by_cases h : k ≤ z.length
  · rw [Nat.min_eq_left h]
  · rw [Nat.min_eq_right (by omega), List.drop_eq_nil_of_le (by omega), List.drop_eq_nil_of_le (by omega)]
end SC
/-! all(test for mark in text), the test one that reads a captured text of the def around -/
namespace SC
open PySem PySem.Spec PyProof.Rows L2
open GxR (TabB TabG Tabbed Ready GenS keeps_tok trF trF_some all_signs inv_tab sh_eta)
/-- the element: a test of the sign c and of the text z that the def around keeps in a cell under the name y -/
def EltC (prog : Program) (w : World) (mg : Str → Option Value) (scope : Scope) (x y : Str) (elt : Expr) (pf : Str → Nat → Bool) : Prop :=
  ∀ (ce : Env) (A' : Around) (E' : Value → Shared → Prop) (c : Nat) (t : Tok) (s2 : Shared) (m2 : Str → Option Value) (z : Str) (tz : Tok) (cy : Addr), ce.scope = scope → ce.globals = mainGlobals → ce.builtins = builtinsNs → Names2 s2.heap mg →
    s2.heap.Ns ce.locals m2 → m2 x = some (.str ⟨#[c]⟩ t) → ce.cells.lookup y = some cy → s2.heap.IsCell cy (some (.str z tz)) → wpAny (model prog w) A' (eval elt ce) (fun v s3 => v = .bool (pf z c) ∧ Keeps s2 s3) E' s2
/-- the generator's scope: what can be read off it -/
structure GenS0 (scope : Scope) (x : Str) : Prop where
  kind : scope.kind = .function
  co : scope.isCoroutine = false
  cell : ∀ y ∈ scope.names, y.2 ≠ .cell
  dot : scope.names.lookup (".0" : Str) = some NameKind.local
  loc : scope.names.lookup x = some .local
theorem gs0Of {scope : Scope} {x : Str} (h : (match scope.kind with | .function => true | _ => false) && !scope.isCoroutine && (scope.names.all fun y => match y.2 with | .cell => false | _ => true) && (match scope.names.lookup (".0" : Str) with | some .local => true | _ => false) = true)
    (hx : (match scope.names.lookup x with | some .local => true | _ => false) = true) : GenS0 scope x := by
  simp only [Bool.and_eq_true, List.all_eq_true] at h
  obtain ⟨⟨⟨h1, h2⟩, h3⟩, h4⟩ := h
  refine ⟨?_, by simpa using h2, fun y hy e => ?_, ?_, ?_⟩
  · split at h1
    · assumption
    · cases h1
  · have := h3 y hy; rw [e] at this; cases this
  · split at h4
    · assumption
    · cases h4
  · split at hx
    · assumption
    · cases hx
/-- what the generator captures, the def around has -/
def freeOk (scope sc : Scope) : Bool := scope.names.all fun y => match y.2 with
  | .free => (match sc.names.lookup y.1 with | some .cell => true | some .free => true | _ => false)
  | _ => true
theorem GenS0.all {X : Cx} {scope : Scope} {x : Str} (S : GenS0 scope x) (ok : X.Ok) (h : freeOk scope X.env.scope = true) : GenS X.env scope x := by
  refine ⟨S.kind, S.co, S.cell, S.dot, S.loc, fun y hy hf => ok.has y.1 ?_⟩
  unfold freeOk at h
  rw [List.all_eq_true] at h
  have := h y hy
  rw [hf] at this
  simp only at this
  split at this
  · rename_i e; exact .inl e
  · rename_i e; exact .inr e
  · cases this
section
variable {X : Cx} {pins : List (Addr × Obj)} {σ : L2.St} {H : Hp} {s : Shared}
theorem gen_mkC {y : Str} {iy : Nat} {z : Str} {c P : Addr} {elt iter : Expr} {x : Str} {px gpos : Pos} {scope : Scope} {pf : Str → Nat → Bool} {te : TE} {k : Nat} {Q' : Value → Shared → Prop} {R : Str → Hp → Prop}
    (hr : Room k X.A) (TB : TabB X.base X.mg c P) (hcode : X.env.code = .ref c) (S : GenS X.env scope x) (hi : PE X iter te) (hel : EltC X.prog X.w X.mg scope x y elt pf)
    (hN : X.N[iy]? = some y) (hky : X.env.kindOf y = some .cell) (hcl : ∀ cs : List (Str × Addr), (cloFrom cs scope.names []).lookup y = some ((cs.lookup y).getD 0)) (hσ : σ[iy]? = some (some (.str z)))
    (hs : ∀ v, genFold iter X.env v = pure v) (I : Inv X pins σ H s) (h : te σ H fun v H1 => ∃ a : Str, v = .str a ∧ TabG H1 P ∧ R a H1)
    (hQ : ∀ a H1 g s5, R a H1 → Ready X pins σ H1 P a (pf z) g s5 → Q' (.ref g) s5) :
    wpAny (model X.prog X.w) X.A (eval (.GeneratorExp elt [⟨.Name x px, iter, [], 0⟩] scope gpos) X.env) Q' X.xe s := by
  refine wpAny_GeneratorExp_walksQ hr.hd S.co (closure_ok S.free) S.cell S.dot S.loc S.kind (by have := hr.dp; omega) ?_ hs
  refine thn (hi.run pins s σ H _ I h) fun xv t1 ⟨v, H1, J, rv, a, ev, ⟨ps, hP, htr⟩, hR⟩ => ?_
  subst ev
  obtain ⟨tk1, rfl⟩ := rv
  obtain ⟨ml, hnl, hll⟩ := J.loc
  obtain ⟨uy, ruy, lky⟩ := hll iy y (.str z) hN hσ (.inr (.inl hky))
  obtain ⟨tz, rfl⟩ := ruy
  obtain ⟨cy, hcy, hic⟩ : ∃ cy, X.env.cells.lookup y = some cy ∧ t1.heap.IsCell cy (some (.str z tz)) := by
    rcases lky with ⟨hk2, _⟩ | ⟨_, cy, h1, h2⟩
    · rw [hky] at hk2; cases hk2
    · exact ⟨cy, h1, h2⟩
  refine wpAny_pyIter_str fun o St W hst => ?_
  have hPs : t1.heap.get? P = some { cls := .none, data := .fields ps } := J.hok P _ hP
  have hPlt := Heap.lt_size hPs
  have up : ∀ b u, t1.heap.get? b = some u → (t1.heap.push o).get? b = some u := fun b u e => Heap.get?_push_of_some _ e
  have cd : PySem.W.CodeHd (t1.heap.push o) c P := TB.code.keeps fun b u e => up b u (J.bk b u e)
  have lim : (t1.heap.push o).NoLimit := J.nolimit.push o
  have hclt : cStatics < t1.heap.objs.size := let ⟨_, hn, _⟩ := J.nolimit; hn.lt
  have hsz1 : (t1.heap.push o).objs.size = t1.heap.objs.size + 1 := Heap.size_push ..
  refine ⟨lim, ?_⟩
  have go : ∀ (code : Value) (h3 : Heap) (tk : Nat) (qs : Array Value), Heap.ExtBut P (t1.heap.push o) h3 → (t1.heap.push o).objs.size ≤ h3.objs.size → h3.get? P = some { cls := .none, data := .fields qs } →
      (∃ more, qs = ps ++ more) → TriplesOk qs.toList →
      wpAny (model X.prog X.w) X.A (builtinsFor X.env.globals X.env.builtins) (fun bi s4 =>
        ∃ Ia fp wr n0 Pf St0 pz F, Value.ref t1.heap.objs.size = .ref Ia ∧ (∀ A' : Around, A'.handled = none → Walks X.prog X.w A' Ia fp wr n0 Pf St0) ∧ St0 0 s4.heap ∧ (∀ b ∈ fp, b < s4.heap.objs.size) ∧ s4.heap.NoLimit ∧ cStatics ∉ wr ∧
          (∀ href : Heap, (∀ b o, s4.heap.get? b = some o → href.get? b = some o) →
            QuietGen X.prog X.w (genEnv scope (cloFrom X.env.cells scope.names []) s4.heap.objs.size code bi X.env) x [] elt (List.range s4.heap.objs.size) wr Pf pz F href) ∧
          (∀ g h5 tk5 gs, gs.bare = true → s4.heap.objs.size < g → h5.objs.size = g + 1 → (∀ b o, s4.heap.get? b = some o → h5.get? b = some o) →
            WalksS X.prog X.w X.A.in4 g (g :: s4.heap.objs.size :: List.range s4.heap.objs.size) (s4.heap.objs.size :: wr) (GenOnlyQ s4.gens.size) (passing pz n0 0).length
              (fun j y => ∃ i, (passing pz n0 0)[j]? = some i ∧ F i y) (GenAt X.prog X.w X.A.in4 g s4.gens.size s4.heap.objs.size (List.range s4.heap.objs.size) wr pz n0 F) →
            GenAt X.prog X.w X.A.in4 g s4.gens.size s4.heap.objs.size (List.range s4.heap.objs.size) wr pz n0 F 0 { s4 with gens := s4.gens.push gs, toks := tk5, heap := h5 } →
            Q' (.ref g) { s4 with gens := s4.gens.push gs, toks := tk5, heap := h5 })) X.xe { t1 with heap := h3, toks := tk } := by
    intro code h3 tk qs hx hsz hP3 hmore htq
    obtain ⟨bm, ob, e1, e2, e3, e4, e5, e6, e7, e8⟩ := TB.bm
    have ncP : cStatics ≠ P := fun e => by
      obtain ⟨_, hns, _⟩ := J.nolimit
      obtain ⟨o', es, ep, ho, hd, _⟩ := hns
      rw [e, hPs] at ho
      cases ho; cases hd
    have nbP : (builtinsNs : Addr) ≠ P := fun e => by
      obtain ⟨mb, hns, _⟩ := J.mod.blt
      obtain ⟨o', es, ep, ho, hd, _⟩ := hns
      have ho := J.bk _ _ ho
      rw [e, hPs] at ho
      cases ho; cases hd
    have k3 : ∀ b u, b ≠ P → t1.heap.get? b = some u → h3.get? b = some u := fun b u hb e => hx b u hb (up b u e)
    refine wpAny_builtinsFor (m := X.mg) (by rw [J.ok.glob]; exact ((J.mod.glob.keeps J.bk).push o).extBut hx TB.gP) e1 e2 (k3 _ _ e4 (J.bk _ _ e5)) e6 e7 e8 ?_
    refine ⟨t1.heap.objs.size, [t1.heap.objs.size], [t1.heap.objs.size], a.cps.size, SignAt a, St, (fun _ => true), (fun i v => ∃ cc, a.cps[i]? = some cc ∧ v = .bool (pf z cc)), rfl, W, ?_, ?_, lim.extBut hx ncP, ?_, ?_, ?_⟩
    · refine (W X.A hr.hd).frame _ _ _ hst fun b hb u e => hx b u (fun z => ?_) e
      rcases List.mem_cons.mp hb with y | y
      · exact Nat.ne_of_lt hPlt (z.symm.trans y)
      · cases y
    · intro b hb
      rcases List.mem_cons.mp hb with z | z
      · rw [z]
        show t1.heap.objs.size < h3.objs.size
        omega
      · cases z
    · intro z
      rcases List.mem_cons.mp z with z | z
      · exact Nat.ne_of_lt hclt z
      · cases z
    · intro href hh
      refine ⟨fun A' E' i v s2 m2 hA hv hn hm hk => ?_, fun A' E' i v s2 m2 hA hv hp hn hm hk => ?_⟩
      · simp only [List.forIn_nil]
        exact wpAny_pure ⟨rfl, GxR.keeps_refl _⟩
      · obtain ⟨cc, u, hcc, rfl⟩ := hv
        have old : ∀ L, L ≠ P → ∀ q, X.base.get? L = some q → s2.heap.get? L = some q := fun L nL q e => by
          have e1 := J.bk _ _ e
          have l1 := Heap.lt_size e1
          have e2 := k3 L q nL e1
          refine hk L (List.mem_range.mpr (Heap.lt_size e2)) (fun z => ?_) q (hh L q e2)
          rcases List.mem_cons.mp z with z | z
          · rw [z] at l1; exact Nat.lt_irrefl _ l1
          · cases z
        have nm : Names2 s2.heap X.mg := ⟨J.mod.glob.at (old mainGlobals TB.gP), let ⟨mb, q1, q2⟩ := J.mod.blt; ⟨mb, q1.at (old builtinsNs nbP), q2⟩⟩
        have ncyP : cy ≠ P := fun e => by
          obtain ⟨oc, ho, hd⟩ := hic
          rw [e, hPs] at ho
          cases ho; cases hd
        have cy2 : s2.heap.IsCell cy (some (.str z tz)) := by
          obtain ⟨oc, ho, hd⟩ := hic
          have l1 := Heap.lt_size ho
          have e2 := k3 cy oc ncyP ho
          refine ⟨oc, hk cy (List.mem_range.mpr (Heap.lt_size e2)) (fun z => ?_) oc (hh cy oc e2), hd⟩
          rcases List.mem_cons.mp z with z | z
          · rw [z] at l1; exact Nat.lt_irrefl _ l1
          · cases z
        have hcy2 : (cloFrom X.env.cells scope.names []).lookup y = some cy := by rw [hcl, hcy]; rfl
        exact wpAny_mono (hel (genEnv scope (cloFrom X.env.cells scope.names []) h3.objs.size code builtinsNs X.env) A' E' cc u s2 m2 z tz cy rfl J.ok.glob rfl nm hn hm hcy2 cy2) (fun y s3 r => ⟨⟨cc, hcc, r.1⟩, r.2⟩) fun _ _ e => e
    · intro g h5 tk5 gs hgb hag hsz5 hk5 W5 hat
      simp only [GxR.passing_true, List.length_range] at W5
      refine hQ a H1 g _ hR ⟨_, _, _, _, _, W5.in4_1, hat, ?_, fun s' hm => ?_⟩
      · intro j y sj Qj Ej hy hQj
        obtain ⟨i, hij, cc, hcc, rfl⟩ := hy
        obtain ⟨hj, ej⟩ := List.getElem?_eq_some_iff.mp hij
        rw [List.getElem_range] at ej
        subst ej
        have e9 : a.cps.toList[j]? = some cc := by rw [Array.getElem?_toList]; exact hcc
        have hQ2 : Qj (trF (pf z) a.cps.toList j) sj := hQj
        rw [trF_some e9] at hQ2
        exact wpAny_truthy_bool hQ2
      · obtain ⟨more, em⟩ := hmore
        have nwr : ∀ b u, t1.heap.get? b = some u → b ∉ h3.objs.size :: [t1.heap.objs.size] := fun b u e hb => by
          have hl : b < t1.heap.objs.size := Heap.lt_size e
          rcases List.mem_cons.mp hb with z | z
          · rw [z] at hl
            exact absurd hl (Nat.not_lt.mpr (show t1.heap.objs.size ≤ h3.objs.size by omega))
          · rcases List.mem_cons.mp z with z | z
            · rw [z] at hl
              exact Nat.lt_irrefl _ hl
            · cases z
        have J2 := inv_tab (more := more) (h' := s'.heap) (g' := s'.gens) (d' := s'.drawn) (t' := s'.toks) J hP (fun b u hb e => hm.heap b u (nwr b u e) (hk5 b u (k3 b u hb e)))
          (by rw [← em]; exact hm.heap P _ (nwr P _ hPs) (hk5 P _ hP3)) (AllBare.movedS (J.bare.push hgb) hm)
        rw [sh_eta t1 s' hm.os] at J2
        refine ⟨upd H1 P (.tbl (ps ++ more)), ⟨⟨ps ++ more, upd_same, by rw [← em]; exact htq⟩, fun b hb => upd_ne hb⟩, J2⟩
  cases hf : codeAmong gpos ps.toList with
  | none =>
    refine wpAny_genexprCodeX hcode (cd.code (up _ _ hPs) htr) (cd.tab (up _ _ hPs)) hf fun c' h' tk hx hge hlt hco' _ htab' _ => ?_
    obtain ⟨o1, vs, f1, tf, fl, tg, inF, tx, tt, op, _, _, _, _, _, _, _, _, _, hz, _⟩ := hco'
    exact go _ h' tk _ hx (Nat.le_trans hge (Nat.le_of_lt hlt)) htab'.2 ⟨_, rfl⟩ hz
  | some cv =>
    refine wpAny_genexprCode_hit hcode (cd.code (up _ _ hPs) htr) hf ?_
    exact go cv (t1.heap.push o) t1.toks ps (Heap.ExtBut.refl _ _) (Nat.le_refl _) (up _ _ hPs) ⟨#[], by simp⟩ htr
/-- all(test for x in e), the test one of the sign and of the text at the slot iy -/
def tAllC (P : Addr) (iy : Nat) (pf : Str → Nat → Bool) (te : TE) : TE := fun σ H Q => ∃ z, σ[iy]? = some (some (.str z)) ∧ te σ H fun v H1 => ∃ a : Str, v = .str a ∧ TabG H1 P ∧ ∀ H2, Tabbed P H1 H2 → Q (.bl (a.cps.toList.all (pf z))) H2
theorem pe_allC {y : Str} {iy : Nat} {c P : Addr} {elt iter : Expr} {x : Str} {px p pos gpos : Pos} {scope : Scope} {pf : Str → Nat → Bool} {te : TE} {k : Nat}
    (hr : Room k X.A) (B : Blt X.mg) (TB : TabB X.base X.mg c P) (hcode : X.env.code = .ref c) (S : GenS0 scope x) (hfr : freeOk scope X.env.scope = true) (hi : PE X iter te) (hel : EltC X.prog X.w X.mg scope x y elt pf)
    (hN : X.N[iy]? = some y) (hky : X.env.kindOf y = some .cell) (hcl : ∀ cs : List (Str × Addr), (cloFrom cs scope.names []).lookup y = some ((cs.lookup y).getD 0))
    (hs : ∀ v, genFold iter X.env v = pure v) (hg : Gl X "all" := by rfl)
    (he : starEach [.GeneratorExp elt [⟨.Name x px, iter, [], 0⟩] scope gpos] X.env = (false, eval (.GeneratorExp elt [⟨.Name x px, iter, [], 0⟩] scope gpos) X.env) :: starEach [] X.env := by rfl) :
    PE X (.Call (.Name "all" p) [.GeneratorExp elt [⟨.Name x px, iter, [], 0⟩] scope gpos] [] pos) (tAllC P iy pf te) := by
  refine ⟨fun pins s σ H Q I h => ?_⟩
  obtain ⟨z, hσ, h⟩ := h
  refine wpAny_Call_Name_kw (ld_blt I hg B.all (show bootBuiltins "all" = some (.builtin "all") by decide +kernel) ?_)
  refine PyProof.Rows.callWith_builtin1 ?_ he (by rfl)
  rw [he]
  show wpAny _ _ (spliced ((false, eval (.GeneratorExp elt [⟨.Name x px, iter, [], 0⟩] scope gpos) X.env) :: backTo pos (starEach [] X.env))) _ _ s
  refine Calls.spliced_cons (gen_mkC (R := fun a H1 => ∀ H2, Tabbed P H1 H2 → Q (.bl (a.cps.toList.all (pf z))) H2) hr TB hcode (S.all I.ok hfr) hi hel hN hky hcl hσ hs I h fun a H1 g t5 hR hG => ?_)
  obtain ⟨fp, wr, G, F, St, W, hst, htr, hI⟩ := hG
  refine Calls.spliced_nil (call_all_walkS (W.self 0 _ _ _ hst ⟨g, fp, wr, G, _, F, St, _, rfl, W, hst, htr, fun s' hmv => ?_⟩))
  obtain ⟨H2, hT, J⟩ := hI s' hmv
  refine ⟨.bl _, H2, J, rfl, ?_⟩
  rw [all_signs a (pf z)]
  exact hR H2 hT
end
/-- mark in marks -/
theorem elt_in {prog : Program} {w : World} {mg : Str → Option Value} {scope : Scope} {x y : Str} {q1 q2 q3 : Pos}
    (hk : scope.kind = .function) (hl : scope.names.lookup x = some .local) (hy : scope.names.lookup y = some .free) (hd : (x == ("__debug__" : Str)) = false := by decide) (hd2 : (y == ("__debug__" : Str)) = false := by decide) (hcd : (y == ("__classdict__" : Str)) = false := by decide) :
    EltC prog w mg scope x y (.Compare (.Name x q1) [.In] [.Name y q2] q3) (fun z c => decide (c ∈ z.cps.toList)) := by
  intro ce A' E' c t s2 m2 z tz cy hs hg hb nm hn hm hcy hic
  refine wpAny_Compare1 ?_
  refine wpAny_Name (wpAny_loadName_local (by rw [hs]; exact hk) (show ce.scope.names.lookup x = some .local by rw [hs]; exact hl) hn hm ?_) hd
  refine wpAny_Name (wpAny_loadName_free (by rw [hs]; exact hk) (show ce.scope.names.lookup y = some .free by rw [hs]; exact hy) hcy hic ?_ hcd) hd2
  exact PyProof.Rows.in_str ⟨by rw [PySem.StrLaws.found_one z c], keeps_tok _ _⟩
end SC
/-! what a part of a pattern matches (code 42: the star), and the search that takes the first place for each piece -/
namespace SC
open PySem L2
/-- some way to begin later -/
def mtS (f : List Nat → Bool) : List Nat → Bool
  | [] => f []
  | c :: s => f (c :: s) || mtS f s
def mt : List Nat → List Nat → Bool
  | [], s => s.isEmpty
  | c :: p, s => if c = 42 then mtS (mt p) s else match s with
    | [] => false
    | d :: s' => (c == d) && mt p s'
/-- b is a beginning of s -/
def pfx (b s : List Nat) : Bool := s.take b.length == b
/-- the first place of b -/
def fnd (b : List Nat) : List Nat → Option Nat
  | [] => if pfx b [] then some 0 else none
  | c :: t => if pfx b (c :: t) then some 0 else (fnd b t).map (· + 1)
/-- the pieces one behind the other, each at its first place -/
def gr : List (List Nat) → List Nat → Bool
  | [], _ => true
  | b :: bs, t => match fnd b t with
    | none => false
    | some i => gr bs (t.drop (i + b.length))
end SC
/-! the texts' own search, cut and ends, said over lists of codes; a, *b, c = a list -/
namespace SC
open PySem L2 PySem.StrLaws
/-- cut at one sign -/
theorem spl_one (s : Nat) : ∀ (l acc : List Nat), s ∉ acc → ∃ p ps, TL.spl [s] 0 acc l = p :: ps ∧ TL.joinL [s] (p :: ps) = acc ++ l ∧ (∀ q ∈ p :: ps, s ∉ q) ∧ ps.length = l.count s
  | [], acc, h => ⟨acc, [], TL.spl_nil _ _ _, by simp [TL.joinL], fun q hq => by rw [List.mem_singleton.mp hq]; exact h, by simp⟩
  | c :: r, acc, h => by
    by_cases hc : c = s
    · subst hc
      have hp : TL.pre [c] (c :: r) = true := by show ((c :: r).take 1 == [c]) = true; simp
      obtain ⟨p, ps, e1, e2, e3, e4⟩ := spl_one c r [] (by simp)
      refine ⟨acc, p :: ps, by rw [TL.spl_hit hp]; show acc :: TL.spl [c] 0 [] r = _; rw [e1], ?_, fun q hq => ?_, ?_⟩
      · show acc ++ ([c] ++ TL.joinL [c] (p :: ps)) = _
        rw [e2]; simp
      · rcases List.mem_cons.mp hq with rfl | hq
        · exact h
        · exact e3 q hq
      · rw [List.length_cons, e4, List.count_cons_self]
    · have hp : TL.pre [s] (c :: r) = false := by
        show ((c :: r).take 1 == [s]) = false
        rw [beq_eq_false_iff_ne]
        intro e
        have e : [c] = [s] := e
        exact hc (List.cons.inj e).1
      obtain ⟨p, ps, e1, e2, e3, e4⟩ := spl_one s r (acc ++ [c]) (fun hm => by
        rcases List.mem_append.mp hm with hm | hm
        · exact h hm
        · exact hc (List.mem_singleton.mp hm).symm)
      refine ⟨p, ps, by rw [TL.spl_miss hp]; exact e1, by rw [e2, List.append_assoc]; rfl, e3, ?_⟩
      rw [e4, List.count_cons_of_ne (fun z => hc z)]
/-- cut at the sign c: the parts, joined, are the text again; no part has the sign -/
theorem split_one (x : Str) (c : Nat) (hc : c < 256) : ∃ p ps, (Txt.split x ⟨#[c]⟩).map TL.tl = p :: ps ∧ TL.joinL [c] (p :: ps) = TL.tl x ∧ (∀ q ∈ p :: ps, c ∉ q) ∧ ps.length = (TL.tl x).count c := by
  have e := TL.split_spl x ⟨#[c]⟩ (by show [c] ≠ []; simp) (TL.kind_ok (by simp [hc]))
  obtain ⟨p, ps, e1, e2, e3, e4⟩ := spl_one c (TL.tl x) [] (by simp)
  exact ⟨p, ps, by rw [e]; exact e1, by rw [e2, List.nil_append], e3, e4⟩
end SC
/-! a generator expression whose element is any expression of the layer (it may call the text's defs), walked by a built-in -/
namespace SC
open PySem PySem.Spec PyProof.Rows L2 GenW
open GxR (TabB TabG Tabbed inv_tab sh_eta)
theorem over_gen {A : Around} {elt : Expr} {gs : List Comprehension} {scope : Scope} {pos : Pos} {it acc : Value} {env : Env} : A.over (.compLoop (.GeneratorExp elt gs scope pos) 0 it acc env) [] = A.deeper env := by
  obtain ⟨hd, d, fr, gd, u⟩ := A
  simp [Around.over, Around.deeper, marksOver, frameCount, unitsOf, envsOf, guardsOf, pushEnvs, pushGuards, Code.envs, Code.env?, Code.isFrame, Code.guards, Code.isGuard, Code.weight, Code.frames, Code.isCreation, Code.isCaller, Code.cUnits]
/-- the frame of the generator, run from a built-in that X's body calls -/
def gxC (X : Cx) (N : List Str) (scope : Scope) (C : Addr) (code : Value) (fp : List Addr) (s4 : Shared) (H4 : Hp) : Cx where
  prog := X.prog
  w := X.w
  K := X.K
  mg := X.mg
  base := X.base
  A := X.A.in1.in1.deeper (genEnv scope (cloFrom X.env.cells scope.names []) C code builtinsNs X.env)
  N := N
  s_0 := s4
  H_0 := H4
  env := genEnv scope (cloFrom X.env.cells scope.names []) C code builtinsNs X.env
  outer := X.stack
  stack := genEnv scope (cloFrom X.env.cells scope.names []) C code builtinsNs X.env :: X.stack
  ex := fp
  fn := fun _ => false
  calm := true
  pn := []
  xe := fun _ _ => False
/-- what can be read off the scope -/
structure GnS (scope : Scope) : Prop where
  kind : scope.kind = .function
  co : scope.isCoroutine = false
  cell : ∀ y ∈ scope.names, y.2 ≠ .cell
  dot : scope.names.lookup (".0" : Str) = some NameKind.local
theorem gnOf {scope : Scope} (h : (match scope.kind with | .function => true | _ => false) && !scope.isCoroutine && (scope.names.all fun y => match y.2 with | .cell => false | _ => true) && (match scope.names.lookup (".0" : Str) with | some .local => true | _ => false) = true) : GnS scope := by
  simp only [Bool.and_eq_true, List.all_eq_true] at h
  obtain ⟨⟨⟨h1, h2⟩, h3⟩, h4⟩ := h
  refine ⟨?_, by simpa using h2, fun y hy e => ?_, ?_⟩
  · split at h1
    · assumption
    · cases h1
  · have := h3 y hy; rw [e] at this; cases this
  · split at h4
    · assumption
    · cases h4
/-- the slots behind the target's nt: captured names, with the slots of X that they have -/
def capOk (N : List Str) (nt : Nat) (fr : List Nat) (XN : List Str) (scope sc : Scope) : Bool :=
  decide (N.length = nt + fr.length) && (List.range fr.length).all fun j => match N[nt + j]?, fr[j]? with
    | some y, some i => XN[i]? == some y && (match scope.names.lookup y with | some .free => true | _ => false) && (match sc.names.lookup y with | some .cell => true | some .free => true | _ => false)
    | _, _ => false
def capSt (nt : Nat) (fr : List Nat) (σ : L2.St) : L2.St := List.replicate nt none ++ fr.map fun i => (σ[i]?).getD none
theorem clo_look {cells : List (Str × Addr)} {names : List (Str × NameKind)} {y : Str} (h : (y, NameKind.free) ∈ names) : (cloFrom cells names []).lookup y = some ((cells.lookup y).getD 0) := by
  obtain ⟨c, hc⟩ := mem_lookup (cloFrom_has (cells := cells) (acc := []) h)
  rcases cloFrom_mem (PySem.mem_of_lookup hc) with z | ⟨_, z⟩
  · cases z
  · rw [hc, z]
theorem clo_from {cells : List (Str × Addr)} {names : List (Str × NameKind)} {y : Str} {c : Addr} (h : (cloFrom cells names []).lookup y = some c) : (y, NameKind.free) ∈ names ∧ c = (cells.lookup y).getD 0 := by
  rcases cloFrom_mem (PySem.mem_of_lookup h) with z | z
  · cases z
  · exact z
section
variable {X : Cx} {pins : List (Addr × Obj)} {σ : L2.St} {H : Hp} {s : Shared}
/-- the generator's frame has been laid behind the state s4 -/
theorem gen_start {N : List Str} {nt : Nat} {fr : List Nat} {scope : Scope} {code it : Value} {fp : List Addr} {a : Addr} {go : Obj} {h' : Heap} {s5 : Shared} (hcalm : X.calm = true) (S : GnS scope) (hfr : freeOk scope X.env.scope = true) (hcap : capOk N nt fr X.N scope X.env.scope = true)
    (I : Inv X pins σ H s) (hf : ∀ b ∈ fp, FpOk X pins H b) (hlt : ∀ b ∈ fp, b < s.heap.objs.size) (hn : h'.Ns s.heap.objs.size (fun y => if y = ".0" then some it else none)) (hk : ∀ b o, s.heap.get? b = some o → s5.heap.get? b = some o)
    (hC : ∀ o, h'.get? s.heap.objs.size = some o → s5.heap.get? s.heap.objs.size = some o) (ho : s5.os = s.os) (hg : AllBare s5.gens) (hpa : s5.heap.get? a = some go) (ha : s.heap.objs.size < a) (hgo : ∀ v, go.data ≠ .cell v) :
    Inv (gxC X N scope s.heap.objs.size code fp s H) [(a, go)] (capSt nt fr σ) H s5 := by
  have ok := I.ok
  unfold capOk at hcap
  rw [Bool.and_eq_true, decide_eq_true_eq, List.all_eq_true] at hcap
  obtain ⟨hNl, hcap⟩ := hcap
  have cel : ∀ x c, (cloFrom X.env.cells scope.names []).lookup x = some c → X.env.cells.lookup x = some c := fun x c h => by
    obtain ⟨h1, h2⟩ := clo_from h
    unfold freeOk at hfr
    rw [List.all_eq_true] at hfr
    have q := hfr _ h1
    simp only at q
    have : X.env.kindOf x = some .cell ∨ X.env.kindOf x = some .free := by
      split at q
      · rename_i e; exact .inl e
      · rename_i e; exact .inr e
      · cases q
    obtain ⟨c0, h0⟩ := ok.has x this
    rw [h2, h0]; rfl
  have young : ∀ b o, X.base.get? b = some o → b ∉ fp := fun b o e hb => by
    rcases (hf b hb).2.2.2.1 with z | z
    · exact ok.noex b o e z
    · have := Heap.lt_size (ok.bs b o e).1
      exact absurd (Nat.lt_of_lt_of_le this z) (Nat.lt_irrefl _)
  have lt0 : ∀ b o, s.heap.get? b = some o → b < s.heap.objs.size := fun b o e => Heap.lt_size e
  refine ⟨⟨ok.mod, S.kind, ok.glob, rfl, Nat.le_refl _, fun x y c h1 h2 => ok.inj x y c (cel x c h1) (cel y c h2), fun x hx => ?_, fun x c h => (nomatch h), fun _ => ok.hd hcalm, Around.frames_deeper ok.frames, .inr ⟨rfl, rfl⟩, fun b hb => ?_, fun b o e => I.bs b o e, Nat.le_trans ok.bsz I.sz, young, fun b hb z => ?_, I.stack, I.stkFree⟩,
    ho, hg, Un.kept hk, ⟨_, hn.at' hC, fun i y v e1 e2 e3 => ?_⟩, fun x c h => ?_, I.hok.fresh (Nat.le_refl _), fun x c h => I.freeC x c (cel x c h), fun p hp => ?_, I.hok.kept hk, ?_⟩
  · have hx : scope.names.lookup x = some .cell ∨ scope.names.lookup x = some .free := hx
    rcases hx with hx | hx
    · exact absurd rfl (S.cell _ (PySem.mem_of_lookup hx))
    · exact ⟨_, clo_look (PySem.mem_of_lookup hx)⟩
  · refine ⟨Nat.ne_of_lt (hlt b hb), fun x c h => (hf b hb).2.2.2.2.1 x c (cel x c h)⟩
  · rcases List.mem_cons.mp (I.stkSub b z) with y | y
    · exact (hf b hb).2.1 y
    · exact (hf b hb).2.2.1 y
  · have hi : i < N.length := (List.getElem?_eq_some_iff.mp e1).1
    unfold capSt at e2
    by_cases hi2 : i < nt
    · rw [List.getElem?_append_left (by simpa using hi2), List.getElem?_replicate] at e2
      split at e2 <;> cases e2
    · obtain ⟨j, rfl⟩ : ∃ j, i = nt + j := ⟨i - nt, by omega⟩
      have hj : j < fr.length := by omega
      rw [List.getElem?_append_right (by simp), List.length_replicate, show nt + j - nt = j by omega, List.getElem?_map] at e2
      have q := hcap j (List.mem_range.mpr hj)
      rw [show N[nt + j]? = some y from e1, List.getElem?_eq_getElem hj] at q
      rw [List.getElem?_eq_getElem hj] at e2
      simp only [Bool.and_eq_true, beq_iff_eq] at q
      obtain ⟨⟨q1, q2⟩, q3⟩ := q
      have e2 : (σ[fr[j]]?).getD none = some v := Option.some.inj e2
      have e4 : σ[fr[j]]? = some (some v) := by
        cases z : σ[fr[j]]? with
        | none => rw [z] at e2; cases e2
        | some w => rw [z] at e2; exact congrArg some e2
      obtain ⟨m, _, hl⟩ := I.loc
      have kd : X.env.kindOf y = some .cell ∨ X.env.kindOf y = some .free := by
        split at q3
        · rename_i z; exact .inl z
        · rename_i z; exact .inr z
        · cases q3
      have kf : scope.names.lookup y = some .free := by
        split at q2
        · assumption
        · cases q2
      obtain ⟨u, ru, lk⟩ := hl _ y v q1 e4 (by rcases kd with z | z; exact .inr (.inl z); exact .inr (.inr z))
      refine ⟨u, ru, .inr ⟨.inr kf, ?_⟩⟩
      obtain ⟨c, hc, hcc⟩ : ∃ c, X.env.cells.lookup y = some c ∧ s.heap.IsCell c (some u) := by
        rcases lk with ⟨z, _⟩ | ⟨_, c, h1, h2⟩
        · rcases kd with w | w <;> rw [z] at w <;> cases w
        · exact ⟨c, h1, h2⟩
      refine ⟨c, ?_, ?_⟩
      · show (cloFrom X.env.cells scope.names []).lookup y = some c
        rw [clo_look (PySem.mem_of_lookup kf), hc]; rfl
      · obtain ⟨oc, hoc, hd⟩ := hcc
        exact ⟨oc, hk _ _ hoc, hd⟩
  · obtain ⟨v, oc, hoc, hd⟩ := I.cell x c (cel x c h)
    exact ⟨v, oc, hk _ _ hoc, hd⟩
  · have e : p = (a, go) := List.mem_singleton.mp hp
    subst e
    refine ⟨hpa, I.hok.fresh (Nat.le_of_lt ha), Nat.ne_of_gt ha, fun z => ?_, hgo⟩
    rcases List.mem_cons.mp (I.stkSub a z) with y | y
    · have := I.lt
      rw [← y] at this
      exact absurd (Nat.lt_trans this ha) (Nat.lt_irrefl _)
    · exact I.nofs (Nat.le_of_lt ha) y
  · unfold capSt
    rw [List.length_append, List.length_replicate, List.length_map]
    exact hNl.symm
end
/-- between two turns: what the consumer keeps for itself at the addresses of Sx may have turned, all else stands -/
structure Sl (Sx : List Addr) (s s' : Shared) : Prop where
  os : s'.os = s.os
  bare : AllBare s'.gens
  keep : ∀ b o, b ∉ Sx → s.heap.get? b = some o → s'.heap.get? b = some o
/-- the consumer's own objects, as they stand -/
def Cp (Sx : List Addr) (cp : List (Addr × Obj)) : Prop := cp.map (·.1) = Sx
theorem Inv.slept {X : Cx} {p0 cp cp' : List (Addr × Obj)} {σ : L2.St} {H : Hp} {s s' : Shared} {Sx : List Addr} (I : Inv X (p0 ++ cp) σ H s) (hc : Cp Sx cp) (hy : ∀ b ∈ Sx, X.s_0.heap.objs.size ≤ b ∧ (∀ x c, X.env.cells.lookup x = some c → c ≠ b)) (h0 : ∀ p ∈ X.pn ++ p0, p.1 ∉ Sx) (z : Sl Sx s s')
    (hc' : Cp Sx cp') (hv : ∀ p ∈ cp', s'.heap.get? p.1 = some p.2 ∧ ∀ v, p.2.data ≠ .cell v) : Inv X (p0 ++ cp') σ H s' := by
  have at_ : ∀ b ∈ Sx, ∃ p ∈ cp, p.1 = b := fun b hb => by
    rw [← hc] at hb
    obtain ⟨p, hp, e⟩ := List.mem_map.mp hb
    exact ⟨p, hp, e⟩
  have pf : ∀ b ∈ Sx, s.heap.get? b ≠ none ∧ H b = none ∧ b ≠ X.env.locals ∧ b ∉ X.fs := fun b hb => by
    obtain ⟨p, hp, rfl⟩ := at_ b hb
    obtain ⟨q1, q2, q3, q4, _⟩ := I.pin p (List.mem_append_right _ (List.mem_append_right _ hp))
    exact ⟨by rw [q1]; simp, q2, q3, q4⟩
  have I0 : Inv X p0 σ H s := I.pins_of fun p hp => I.pin p (List.mem_append_right _ (List.mem_append_left _ hp))
  obtain ⟨h', g', d', t', o'⟩ := s'
  obtain ⟨z1, z2, z3⟩ := z
  have z1 : o' = s.os := z1
  subst z1
  have nt : ∀ b u, H b = some u → b ∉ Sx := fun b u e hb => by rw [(pf b hb).2.1] at e; cases e
  have ex : ∀ b ∈ Sx, ∃ o, h'.get? b = some o := fun b hb => by
    rw [← hc'] at hb
    obtain ⟨p, hp, e⟩ := List.mem_map.mp hb
    exact ⟨p.2, by rw [← e]; exact (hv p hp).1⟩
  have J : Inv X p0 σ H { s with heap := h', gens := g', drawn := d', toks := t' } := by
    refine I0.step (g' := g') (t' := t') (d' := d') (ch := Sx) (fun b hb => ⟨.inr (hy b hb).1, (pf b hb).2.2.1, (hy b hb).2, fun p hp e => h0 p hp (by rw [e]; exact hb)⟩)
      (fun b ob _ _ hc q _ => z3 b ob hc q) (fun b ob _ _ hc q _ => ⟨ob.slots, z3 b ob hc q⟩) (fun _ _ _ _ n => n) (fun b ob hc q => ⟨ob, z3 b ob hc q⟩)
      (fun _ _ q => q) (fun _ _ _ q => q) (fun b ps q => ⟨#[], by rw [q]; simp⟩) (fun m hm => ?_) (fun b u q => ?_) z2
    · obtain ⟨ob, es, ep, ho, r⟩ := hm
      exact ⟨ob, es, ep, z3 _ ob (fun hb => (pf _ hb).2.2.1 rfl) ho, r⟩
    · refine (I0.hok b u q).stay (fun c v hc y => z3 c v ?_ y) (fun _ y => y) fun _ _ y => y
      rcases hc with y | y
      · rw [y]; exact nt b u q
      · exact nt c _ y
  refine J.pins_of fun p hp => ?_
  rcases List.mem_append.mp hp with hp | hp
  · exact J.pin p (List.mem_append_right _ hp)
  · have hb : p.1 ∈ Sx := by rw [← hc']; exact List.mem_map.mpr ⟨p, hp, rfl⟩
    obtain ⟨_, q2, q3, q4⟩ := pf _ hb
    exact ⟨(hv p hp).1, q2, q3, q4, (hv p hp).2⟩
/-- the turns: W before a turn (its number, a measure, the consumer's objects), B what the consumer gets, Dn the end -/
def GTurns (J : It) (g : TG) (tt : TT) (te : TE) (W : Nat → Nat → List (Addr × Obj) → L2.St → Hp → Prop) (B : Nat → Nat → List (Addr × Obj) → V → L2.St → Hp → Prop) (Dn : List (Addr × Obj) → L2.St → Hp → Prop) : Prop :=
  ∀ i m cp σ H, W i m cp σ H → (J.stop i H ∧ Dn cp σ H) ∨ (J.go i H ∧ ∃ (Bt : V → L2.St → Hp → Prop) (Nt : L2.St → Hp → Prop), (∀ y σ' H', Bt y σ' H' → B i m cp y σ' H') ∧ (∀ σ' H', Nt σ' H' → ∃ m', m' < m ∧ W (i + 1) m' cp σ' H') ∧
    ∀ x H', J.yld i H x H' → g x σ H' fun σ2 H2 => tt σ2 H2 fun b H3 => if b = true then te σ2 H3 (fun y H4 => Bt y σ2 H4) else Nt σ2 H3)
/-- an item is handed out -/
def YG (X : Cx) (go : Addr × Obj) (Sx : List Addr) (W : Nat → Nat → List (Addr × Obj) → L2.St → Hp → Prop) (B : Nat → Nat → List (Addr × Obj) → V → L2.St → Hp → Prop) : Protocol := fun n s₀ v s kap =>
  ∃ i m cp y σ H, Cp Sx cp ∧ (∀ p ∈ cp, s₀.heap.get? p.1 = some p.2) ∧ RelV y v ∧ Inv X (go :: cp) σ H s ∧ B i m cp y σ H ∧ m ≤ n ∧ ∀ s' m' cp', Sl Sx s s' → Cp Sx cp' → (∀ p ∈ cp', s'.heap.get? p.1 = some p.2 ∧ ∀ v, p.2.data ≠ .cell v) → m' < m → W (i + 1) m' cp' σ H → kap (.send .none) s'
def RG (X : Cx) (go : Addr × Obj) (Sx : List Addr) (Dn : List (Addr × Obj) → L2.St → Hp → Prop) : Nat → Shared → Shared → Prop := fun _ s₀ s => ∃ cp σ H, Cp Sx cp ∧ (∀ p ∈ cp, s₀.heap.get? p.1 = some p.2) ∧ Inv X (go :: cp) σ H s ∧ Dn cp σ H
section
variable {Y : Cx} {A : Around} {go : Addr × Obj} {Sx fp : List Addr} {it : Addr} {tn : Nat → Heap → Prop} {J : It} {tg elt iter : Expr} {ifs : List Expr} {scope : Scope} {gpos : Pos} {g : TG} {tt : TT} {te : TE} {W : Nat → Nat → List (Addr × Obj) → L2.St → Hp → Prop} {B : Nat → Nat → List (Addr × Obj) → V → L2.St → Hp → Prop} {Dn : List (Addr × Obj) → L2.St → Hp → Prop}
theorem seg_turns (hA : Y.A = A.deeper Y.env) (hxe : ∀ e s, Y.xe e s → False) (hcalm : Y.calm = true) (T : Turn Y.prog Y.w Y.K tg J fp it tn) (hg : PG Y tg g) (ht : PTs Y ifs tt) (he : PE Y elt te) (hco : Y.env.scope.isCoroutine = false) (turn : GTurns J g tt te W B Dn)
    (stat : ∀ (cp : List (Addr × Obj)) (H : Hp), Cp Sx cp → (∀ b ∈ fp, H b = none) → ∀ b ∈ fp, FpOk Y (go :: cp) H b) (hy : ∀ b ∈ Sx, Y.s_0.heap.objs.size ≤ b ∧ (∀ x c, Y.env.cells.lookup x = some c → c ≠ b)) (h0 : ∀ p ∈ Y.pn ++ [go], p.1 ∉ Sx) (hfs : ∀ b ∈ fp, b ∉ Sx) :
    ∀ (m n i : Nat) (s₀ s : Shared) (σ : L2.St) (H : Hp) (cp : List (Addr × Obj)), m < n → Cp Sx cp → (∀ p ∈ cp, s₀.heap.get? p.1 = some p.2) → Inv Y (go :: cp) σ H s → tn i s.heap → (∀ b ∈ fp, H b = none) → W i m cp σ H →
      Seg (model Y.prog Y.w) A (fun n s₀ r s₁ => r = .ok .next ∧ RG Y go Sx Dn n s₀ s₁) (YG Y go Sx W B) n s₀
        (.compLoop (.GeneratorExp elt [⟨tg, iter, ifs, 0⟩] scope gpos) 0 (.ref it) .none Y.env) ((model Y.prog Y.w).den (.compLoop (.GeneratorExp elt [⟨tg, iter, ifs, 0⟩] scope gpos) 0 (.ref it) .none Y.env)) [] s := by
  intro m
  induction m using Nat.strongRecOn with
  | ind m ih =>
    intro n i s₀ s σ H cp hmn hcp hs0 I st fr w
    show Seg _ A _ _ n s₀ _ ((compTurn (.GeneratorExp elt [⟨tg, iter, ifs, 0⟩] scope gpos) 0 (.ref it) .none Y.env).onRaise _) [] s
    rw [compTurn_gen, Sem.onRaise_eq_wrap]
    refine seg_bind_wrap (wpAny_standAt ?_)
    rcases turn i m cp σ H w with ⟨stop, dn⟩ | ⟨goes, Bt, Nt, hBt, hNt, step⟩
    · refine seg_bind_wrap ?_
      rw [over_gen, ← hA]
      refine thn (T.done Y rfl rfl rfl hcalm i (go :: cp) s σ H _ I (stat cp H hcp fr) st stop) fun r s4 ⟨hr, I4⟩ => ?_
      subst hr
      exact seg_end (.ok .next) ⟨rfl, cp, σ, H, hcp, hs0, I4, dn⟩
    · refine seg_bind_wrap ?_
      rw [over_gen, ← hA]
      refine thn (T.item Y rfl rfl rfl hcalm i (go :: cp) s σ H _ I (stat cp H hcp fr) st goes) fun r s4 ⟨u, hr, h4⟩ => ?_
      subst hr
      refine seg_bind_wrap ?_
      rw [over_gen, ← hA]
      refine thn h4 fun _ s5 ⟨x, H5, I5, r5, y5, st5, fr5⟩ => ?_
      have I5' := I5.pinned (stat cp H5 hcp fr5) (T.obj _ _ st5)
      refine seg_bind_wrap ?_
      rw [over_gen, ← hA]
      refine wpAny_mono (hg.run _ s5 σ H5 x u _ I5' r5 (step x H5 y5)) (fun _ s6 ⟨σ6, H6, I6, q6⟩ => ?_) fun _ _ z => (hxe _ _ z).elim
      refine seg_bind_wrap ?_
      rw [over_gen, ← hA]
      refine wpAny_mono (ht.run _ s6 σ6 H6 _ I6 q6) (fun ok s7 ⟨H7, I7, q7⟩ => ?_) fun _ _ z => (hxe _ _ z).elim
      have turned : ∀ {σ8 : L2.St} {H8 : Hp} {s8 : Shared}, Inv Y ((go :: cp) ++ pinsAt fp s5.heap) σ8 H8 s8 → tn (i + 1) s8.heap ∧ (∀ b ∈ fp, H8 b = none) ∧ Inv Y (go :: cp) σ8 H8 s8 := fun {σ8 H8 s8} I8 =>
        ⟨T.keep _ _ _ st5 fun b hb o e => (I8.pin (b, o) (List.mem_append_right _ (List.mem_append_right _ (mem_pinsAt hb e)))).1, fun b hb => by
          obtain ⟨o, e, d⟩ := T.obj _ _ st5 b hb
          exact (I8.pin (b, o) (List.mem_append_right _ (List.mem_append_right _ (mem_pinsAt hb e)))).2.1, I8.unpinned⟩
      cases ok with
      | false =>
        rw [if_neg Bool.false_ne_true] at q7
        obtain ⟨m', hm', w'⟩ := hNt _ _ q7
        simp only [Bool.false_eq_true, if_false]
        obtain ⟨t1, t2, t3⟩ := turned I7
        exact seg_again rfl (ih m' hm' n (i + 1) s₀ _ _ _ cp (by omega) hcp hs0 t3 t1 t2 w')
      | true =>
        rw [if_pos rfl] at q7
        simp only [if_true]
        have hyo : ∀ v, yieldOut Y.env v = yieldValue v := fun v => by simp only [yieldOut, hco, Bool.false_eq_true, if_false]
        simp only [hyo]
        rw [Sem.bind_eq_wrap', Sem.bind_eq_wrap', Sem.wrap_wrap, Sem.wrap_wrap]
        refine seg_wrap ?_
        rw [over_gen, ← hA]
        refine wpAny_mono (he.run _ s7 σ6 H7 _ I7 q7) (fun v s8 ⟨y, H8, I8, r8, q8⟩ => ?_) fun _ _ z => (hxe _ _ z).elim
        obtain ⟨n, rfl⟩ : ∃ k, n = k + 1 := ⟨n - 1, by omega⟩
        obtain ⟨t1, t2, t3⟩ := turned I8
        refine seg_at (seg_yield rfl rfl rfl ⟨i, m, cp, y, σ6, H8, hcp, hs0, r8, t3, hBt _ _ _ q8, by omega, fun s' m' cp' z hcp' hv hm' w' => ?_⟩)
        have I9 := Inv.slept (p0 := [go]) t3 hcp hy h0 z hcp' hv
        refine seg_again rfl (ih m' hm' n (i + 1) s' s' _ _ cp' (by omega) hcp' (fun p hp => (hv p hp).1) I9 (T.keep _ _ _ t1 fun b hb o e => z.keep b o (hfs b hb) e) t2 w')
theorem seg_turns0 (hA : Y.A = A.deeper Y.env) (hxe : ∀ e s, Y.xe e s → False) (hcalm : Y.calm = true) (T : Turn Y.prog Y.w Y.K tg J fp it tn) (hg : PG Y tg g) (ht : PTs Y ifs tt) (he : PE Y elt te) (hco : Y.env.scope.isCoroutine = false) (turn : GTurns J g tt te W B Dn)
    (stat : ∀ (cp : List (Addr × Obj)) (H : Hp), Cp Sx cp → (∀ b ∈ fp, H b = none) → ∀ b ∈ fp, FpOk Y (go :: cp) H b) (hy : ∀ b ∈ Sx, Y.s_0.heap.objs.size ≤ b ∧ (∀ x c, Y.env.cells.lookup x = some c → c ≠ b)) (h0 : ∀ p ∈ Y.pn ++ [go], p.1 ∉ Sx) (hfs : ∀ b ∈ fp, b ∉ Sx)
    {m n : Nat} {s₀ s : Shared} {σ : L2.St} {H : Hp} {cp : List (Addr × Obj)} (hmn : m < n) (hcp : Cp Sx cp) (hs0 : ∀ p ∈ cp, s₀.heap.get? p.1 = some p.2) (I : Inv Y (go :: cp) σ H s) (st : tn 0 s.heap) (fr : ∀ b ∈ fp, H b = none) (w : W 0 m cp σ H) :
      Seg (model Y.prog Y.w) A (fun n s₀ r s₁ => r = .ok .next ∧ RG Y go Sx Dn n s₀ s₁) (YG Y go Sx W B) n s₀
        (.compStart (.GeneratorExp elt [⟨tg, iter, ifs, 0⟩] scope gpos) 0 (.ref it) .none Y.env) ((model Y.prog Y.w).den (.compStart (.GeneratorExp elt [⟨tg, iter, ifs, 0⟩] scope gpos) 0 (.ref it) .none Y.env)) [] s := by
  have loop := seg_turns (iter := iter) (scope := scope) (gpos := gpos) hA hxe hcalm T hg ht he hco turn stat hy h0 hfs m n 0 s₀ s σ H cp hmn hcp hs0 I st fr w
  show Seg _ A _ _ _ s₀ _ ((compStart (.GeneratorExp elt [⟨tg, iter, ifs, 0⟩] scope gpos) 0 (.ref it) .none Y.env).onRaise _) [] s
  unfold compStart
  rw [Sem.onRaise_eq_wrap]
  show Seg _ A _ _ _ s₀ _ ((ask >>= _).wrap _ _ _ _) [] s
  refine seg_bind_wrap (wpAny_askSetting ?_)
  split
  · exact seg_again rfl loop
  · first
      | exact seg_bind_wrap (wpAny_rule (seg_bind_wrap (wpAny_standAt (seg_bind_wrap (T.self _ 0 s _ _ st (seg_again rfl loop))))))
      | (refine seg_bind_wrap (wpAny_rule ?_); show Seg _ A _ _ _ s₀ _ ((standAt iter.pos >>= _).wrap _ _ _ _) [] s; exact seg_bind_wrap (wpAny_standAt (seg_bind_wrap (T.self _ 0 s _ _ st (seg_again rfl loop)))))
theorem inv_kept {X : Cx} {pins : List (Addr × Obj)} {σ : L2.St} {H : Hp} {s s' : Shared} (I : Inv X pins σ H s) (ho : s'.os = s.os) (hg : AllBare s'.gens) (k : ∀ b o, s.heap.get? b = some o → s'.heap.get? b = some o) : Inv X pins σ H s' :=
  I.call' (ch := []) ho (Un.kept k) (I.hok.kept k) hg fun b z => absurd z (by simp)
/-- the generator at go, its number gi, sleeps -/
structure Asl (Y : Cx) (A : Around) (go : Addr × Obj) (gi : Nat) (Sx : List Addr) (W : Nat → Nat → List (Addr × Obj) → L2.St → Hp → Prop) (B : Nat → Nat → List (Addr × Obj) → V → L2.St → Hp → Prop) (Dn : List (Addr × Obj) → L2.St → Hp → Prop) (n : Nat) (s : Shared) : Prop where
  gen : s.heap.IsGen go.1 gi
  nl : s.heap.NoLimit
  gs : ∃ gs, s.gens[gi]? = some gs ∧ gs.Goes (model Y.prog Y.w) A (fun n s₀ r s₁ => r = .ok .next ∧ RG Y go Sx Dn n s₀ s₁) (YG Y go Sx W B) n (.send .none) (s.setGen gi .running)
/-- one step of it -/
theorem next_gen {gi n : Nat} {C : Around} {E : Value → Shared → Prop} {Q : Option Value → Shared → Prop} {s : Shared} (hh : C.handled = none) (hroom : C.depth < recursionLimit) (hgo : ∀ h : Heap, h.get? go.1 = some go.2 → h.IsGen go.1 gi) (a : Asl Y C.in1 go gi Sx W B Dn n s)
    (hY : ∀ (i m : Nat) cp y v σ H s', Cp Sx cp → (∀ p ∈ cp, s.heap.get? p.1 = some p.2) → RelV y v → Inv Y (go :: cp) σ H s' → B i m cp y σ H → (∀ s'' cp', Sl Sx s' s'' → s''.gens = s'.gens → Cp Sx cp' → (∀ p ∈ cp', s''.heap.get? p.1 = some p.2 ∧ ∀ v, p.2.data ≠ .cell v) → s''.heap.get? go.1 = some go.2 → s''.heap.NoLimit → ∀ m', m' < m → W (i + 1) m' cp' σ H → ∃ k, k < n ∧ Asl Y C.in1 go gi Sx W B Dn k s'') → Q (some v) s')
    (hD : ∀ cp σ H s', Cp Sx cp → (∀ p ∈ cp, s.heap.get? p.1 = some p.2) → Inv Y (go :: cp) σ H s' → Dn cp σ H → Q none s') : wpAny (model Y.prog Y.w) C (pyNext (.ref go.1)) Q E s := by
  obtain ⟨ag, al, gs, hgs, hgoes⟩ := a
  have hgl : gi < s.gens.size := (Array.getElem?_eq_some_iff.mp hgs).1
  refine wpAny_gsz (n := gi + 1) hgl (wpAny_pyNext_genexpQ (P := RG Y go Sx Dn) hh al hroom ag hgs hgoes (fun v s₁ gs' hbare hv => ?_) fun s₁ hp h' hk => ?_)
  · intro hsz
    obtain ⟨i, m, cp, y, σ, H, hcp, hs0, rv, I, hB, hmn, kap⟩ := hv
    have hsz1 : gi < s₁.gens.size := by
      have q : (s₁.setGen gi gs').gens.size = s₁.gens.size := setGen_size _ _ _
      have hsz' : gi + 1 ≤ (s₁.setGen gi gs').gens.size := hsz
      omega
    have I2 : Inv Y (go :: cp) σ H (s₁.setGen gi gs') := inv_kept I rfl (allBare_setGen I.bare hbare) fun _ _ e => e
    refine hY i m cp y v σ H _ hcp hs0 rv I2 hB fun s'' cp' z hgens hcp' hv hgo' hnl m' hm' w' => ?_
    have kk := kap (s''.setGen gi .running) m' cp' ⟨z.os, allBare_setGen z.bare rfl, fun b o hb e => z.keep b o hb e⟩ hcp' hv hm' w'
    cases n with
    | zero => exact False.elim kk
    | succ n => exact ⟨n, Nat.lt_succ_self n, hgo _ hgo', hnl, gs', by rw [hgens]; exact setGen_at hsz1, kk⟩
  · intro hsz
    obtain ⟨cp, σ, H, hcp, hs0, I, dn⟩ := hp
    exact hD cp σ H _ hcp hs0 (inv_kept I rfl (allBare_setGen I.bare rfl) hk) dn
/-- all(..) walks it -/
theorem all_loop_gen {gi : Nat} {A : Around} {R : Result → Shared → Prop} {Fl : L2.St → Hp → Prop} (hh : A.handled = none) (hroom : A.depth < recursionLimit) (hgo : ∀ h : Heap, h.get? go.1 = some go.2 → h.IsGen go.1 gi)
    (hB : ∀ i m cp y σ H, B i m cp y σ H → ∃ b, y = .bl b ∧ if b = true then ∃ m', m' < m ∧ W (i + 1) m' [] σ H else Fl σ H)
    (hF : ∀ pins σ H s, Inv Y pins σ H s → Fl σ H → R (.ok (.ret (.bool false))) s) (hT : ∀ pins σ H s cp, Inv Y pins σ H s → Dn cp σ H → R (.ok (.ret (.bool true))) s) :
    ∀ (n : Nat) (s : Shared), Asl Y A.in1.in1 go gi [] W B Dn n s → codeAny (model Y.prog Y.w) A (.builtin "all.loop" ⟨[.ref go.1], []⟩) R s := by
  intro n
  induction n using Nat.strongRecOn with
  | ind n ih =>
    intro s a
    refine codeAny_builtin F.entry_all_loop ?_
    rw [Around.under_plainId F.plain_all_loop _]
    show wpAny _ A.in1 (pyNext (.ref go.1) >>= _) _ _ s
    refine wpAny_bind (next_gen (C := A.in1) hh hroom hgo a (fun i m cp y v σ H s' hcp _ rv I hb again => ?_) fun cp σ H s' hcp _ I dn => ?_)
    · obtain ⟨b, rfl, hb'⟩ := hB i m cp y σ H hb
      obtain rfl : v = .bool b := rv
      refine wpAny_bind (wpAny_holding (wpAny_truthy_bool ?_))
      refine wpAny_bind (wpAny_letGo ?_)
      cases b with
      | true =>
        rw [if_pos rfl] at hb'
        obtain ⟨m', hm', w'⟩ := hb'
        simp only [if_true]
        have e0 : cp = [] := by
          have := congrArg List.length hcp
          rw [List.length_map] at this
          exact List.eq_nil_of_length_eq_zero this
        obtain ⟨k, hk, ak⟩ := again s' [] ⟨rfl, I.bare, fun _ _ _ e => e⟩ rfl rfl (fun p hp => nomatch hp) (I.pin go (List.mem_append_right _ List.mem_cons_self)).1 I.nolimit m' hm' w'
        exact wpAny_pure ⟨plainId_quiet F.plain_all_loop _, ih k hk s' ak⟩
      | false =>
        rw [if_neg Bool.false_ne_true] at hb'
        simp only [Bool.false_eq_true, if_false]
        exact wpAny_bind (wpAny_rule (wpAny_pure (hF _ σ H s' I hb')))
    · exact wpAny_bind (wpAny_rule (wpAny_pure (hT _ σ H s' cp I dn)))
end
section
variable {X : Cx} {pins : List (Addr × Obj)} {σ : L2.St} {H : Hp} {s : Shared} {N : List Str} {nt : Nat} {fr : List Nat} {scope : Scope}
/-- a generator that has not begun: the frame's context, where it was made -/
structure Fresh (X : Cx) (pins : List (Addr × Obj)) (σ : L2.St) (N : List Str) (nt : Nat) (fr : List Nat) (scope : Scope) (tg elt iter : Expr) (ifs : List Expr) (gpos : Pos) (J : It) (H2 : Hp) (a : Addr) (s5 : Shared) : Prop where
  ex : ∃ (s4 : Shared) (code : Value) (fp : List Addr) (it : Addr) (tn : Nat → Heap → Prop) (go : Obj) (gi : Nat),
    Inv X pins σ H2 s4 ∧ (∀ b ∈ fp, FpOk X pins H2 b) ∧ (∀ b ∈ fp, b < s4.heap.objs.size) ∧ s4.heap.objs.size < a ∧ a < s5.heap.objs.size ∧ Turn X.prog X.w X.K tg J fp it tn ∧ tn 0 s5.heap ∧ (∀ h : Heap, h.get? a = some go → h.IsGen a gi) ∧ s5.heap.get? a = some go ∧
    s5.gens[gi]? = some (.fresh (.compStart (.GeneratorExp elt [⟨tg, iter, ifs, 0⟩] scope gpos) 0 (.ref it) .none (genEnv scope (cloFrom X.env.cells scope.names []) s4.heap.objs.size code builtinsNs X.env))) ∧
    Inv (gxC X N scope s4.heap.objs.size code fp s4 H2) [(a, go)] (capSt nt fr σ) H2 s5
theorem gen_mkI {c P : Addr} {elt iter tg : Expr} {ifs : List Expr} {gpos : Pos} {wi : TI} {k : Nat} {Q' : Value → Shared → Prop} {R : It → Hp → Prop} (hcalm : X.calm = true)
    (hr : Room k X.A) (TB : TabB X.base X.mg c P) (hcode : X.env.code = .ref c) (S : GnS scope) (hfr : freeOk scope X.env.scope = true) (hcap : capOk N nt fr X.N scope X.env.scope = true) (hi : PI X tg iter wi)
    (hs : ∀ v, genFold iter X.env v = pure v) (I : Inv X pins σ H s) (h : wi σ H fun J H1 => TabG H1 P ∧ ∀ H2, Tabbed P H1 H2 → R J H2)
    (hQ : ∀ J H2 a s5, R J H2 → Fresh X pins σ N nt fr scope tg elt iter ifs gpos J H2 a s5 → Q' (.ref a) s5) :
    wpAny (model X.prog X.w) X.A (eval (.GeneratorExp elt [⟨tg, iter, ifs, 0⟩] scope gpos) X.env) Q' X.xe s := by
  have hcl : closureFor scope X.env = pure (cloFrom X.env.cells scope.names []) := closure_ok fun y hy hf => by
    refine I.ok.has y.1 ?_
    unfold freeOk at hfr
    rw [List.all_eq_true] at hfr
    have := hfr _ hy
    rw [hf] at this
    simp only at this
    split at this
    · rename_i e; exact .inl e
    · rename_i e; exact .inr e
    · cases this
  refine wpAny_GeneratorExp_make S.co hcl S.cell S.dot S.kind (by have := hr.dp; omega) ?_ hs
  refine thn (hi.run pins s σ H _ I h) fun xv s1 h1 => thn h1 fun itv s2 h2 => ?_
  obtain ⟨it, fp, tn, J, H1, e, I2, T, st2, f2, ⟨ps, hP, htr⟩, hR⟩ := h2
  subst e
  have hPs : s2.heap.get? P = some { cls := .none, data := .fields ps } := I2.hok P _ hP
  have hPlt := Heap.lt_size hPs
  have cd : PySem.W.CodeHd s2.heap c P := TB.code.keeps fun b u e => I2.bk b u e
  have fpP : ∀ b ∈ fp, b ≠ P := fun b hb e => by
    have := (f2 b hb).1
    rw [e, hP] at this
    cases this
  refine ⟨I2.nolimit, ?_⟩
  have fin : ∀ (code : Value) (h3 : Heap) (tk : Nat) (qs : Array Value), Heap.ExtBut P s2.heap h3 → s2.heap.objs.size ≤ h3.objs.size → h3.get? P = some { cls := .none, data := .fields qs } → (∃ more, qs = ps ++ more) → TriplesOk qs.toList →
      wpAny (model X.prog X.w) X.A (builtinsFor X.env.globals X.env.builtins) (fun bi s₄ =>
        ∀ h', h'.Ns s₄.heap.objs.size (fun y => if y = ".0" then some (.ref it) else none) → Heap.SameBut s₄.heap.objs.size (s₄.heap.push { cls := .type "frame", data := .dict #[] }) h' →
          Q' (.ref h'.objs.size) { s₄ with
            gens := s₄.gens.push (.fresh (.compStart (.GeneratorExp elt [⟨tg, iter, ifs, 0⟩] scope gpos) 0 (.ref it) .none (genEnv scope (cloFrom X.env.cells scope.names []) s₄.heap.objs.size code bi X.env))),
            toks := s₄.toks + 1 + 1 + 1,
            heap := h'.push { cls := .type "generator", data := .fields #[.int s₄.gens.size 0, .str "<genexpr>" (s₄.toks + 1), .str (X.env.qual ++ "<genexpr>") (s₄.toks + 1 + 1)] } }) X.xe { s2 with heap := h3, toks := tk } := by
    intro code h3 tk qs hx hsz hP3 hmore htq
    obtain ⟨bm, ob, e1, e2, e3, e4, e5, e6, e7, e8⟩ := TB.bm
    have nbP : (builtinsNs : Addr) ≠ P := fun e => by
      obtain ⟨mb, hns, _⟩ := I2.mod.blt
      obtain ⟨o', es, ep, ho, hd, _⟩ := hns
      have ho := I2.bk _ _ ho
      rw [e, hPs] at ho
      cases ho; cases hd
    refine wpAny_builtinsFor (m := X.mg) (by rw [I2.ok.glob]; exact (I2.mod.glob.keeps I2.bk).extBut hx TB.gP) e1 e2 (hx _ _ e4 (I2.bk _ _ e5)) e6 e7 e8 ?_
    obtain ⟨more, em⟩ := hmore
    intro h' hn' hs'
    have I4 := inv_tab (more := more) (h' := h3) (g' := s2.gens) (d' := s2.drawn) (t' := tk) I2 hP (fun b u hb e => hx b u hb e) (by rw [← em]; exact hP3) I2.bare
    have hsz' : h'.objs.size = h3.objs.size + 1 := by rw [hs'.1, Heap.size_push]
    have keep' : ∀ b o, h3.get? b = some o → h'.get? b = some o := fun b o e => hs'.extBut b o (Nat.ne_of_lt (Heap.lt_size e)) (Heap.get?_push_of_some _ e)
    have lt2 : ∀ b ∈ fp, b < s2.heap.objs.size := fun b hb => by
      obtain ⟨o, e, _⟩ := T.obj 0 _ st2 b hb
      exact Heap.lt_size e
    have f4 : ∀ b ∈ fp, FpOk X pins (upd H1 P (.tbl (ps ++ more))) b := fun b hb => ⟨by rw [upd_ne (fpP b hb)]; exact (f2 b hb).1, (f2 b hb).2⟩
    have lt4 : ∀ b ∈ fp, b < h3.objs.size := fun b hb => Nat.lt_of_lt_of_le (lt2 b hb) hsz
    refine hQ J (upd H1 P (.tbl (ps ++ more))) _ _ (hR _ ⟨⟨ps ++ more, upd_same, by rw [← em]; exact htq⟩, fun b hb => upd_ne hb⟩) ⟨_, code, fp, it, tn, _, s2.gens.size, I4, f4, lt4, ?_, ?_, T, ?_, fun h e => ⟨_, _, _, e, rfl, rfl, rfl⟩, Heap.get?_push_size _ rfl, Array.getElem?_push_size .., gen_start hcalm S hfr hcap I4 f4 lt4 hn' (fun b o e => Heap.get?_push_of_some _ (keep' b o e)) (fun o e => Heap.get?_push_of_some _ e) rfl (I2.bare.push rfl) (Heap.get?_push_size _ rfl) ?_ ?_⟩
    · show h3.objs.size < h'.objs.size
      omega
    · show h'.objs.size < (h'.push _).objs.size
      rw [Heap.size_push]; exact Nat.lt_succ_self _
    · exact T.keep 0 _ _ st2 fun b hb o e => Heap.get?_push_of_some _ (keep' b o (hx b o (fpP b hb) e))
    · show h3.objs.size < h'.objs.size
      omega
    · intro v z; cases z
  cases hf : codeAmong gpos ps.toList with
  | none =>
    refine wpAny_genexprCodeX hcode (cd.code hPs htr) (cd.tab hPs) hf fun c' h' tk hx hge hlt hco' _ htab' _ => ?_
    obtain ⟨o1, vs, f1, tf, fl, tg, inF, tx, tt, op, _, _, _, _, _, _, _, _, _, hz, _⟩ := hco'
    exact fin _ h' tk _ hx (Nat.le_trans hge (Nat.le_of_lt hlt)) htab'.2 ⟨_, rfl⟩ hz
  | some cv =>
    refine wpAny_genexprCode_hit hcode (cd.code hPs htr) hf ?_
    exact fin cv s2.heap s2.toks ps (Heap.ExtBut.refl _ _) (Nat.le_refl _) hPs ⟨#[], by simp⟩ htr
/-- the turns of a for, as a reading -/
def tForB (J : It) (g : TG) (tb : TS) : TS := fun D σ H => ∃ W : Nat → Nat → L2.St → Hp → Prop, (∃ m, W 0 m σ H) ∧ ∀ i m σ H, W i m σ H →
  (J.stop i H ∧ D.nx σ H) ∨ (J.go i H ∧ ∃ N : L2.St → Hp → Prop, (∀ σ' H', N σ' H' → ∃ m', m' < m ∧ W (i + 1) m' σ' H') ∧ ∀ x H', J.yld i H x H' → g x σ H' fun σ2 H2 => tb { D with nx := N, ct := N, bk := D.nx } σ2 H2)
def tbAll (tt : TT) (te : TE) : TS := fun D σ H => tt σ H fun b H3 => if b = true then te σ H3 (fun y H4 => ∃ b, y = .bl b ∧ if b = true then D.nx σ H4 else D.rt (.bl false) H4) else D.nx σ H3
/-- all(elt for tg in iter if ..); st: the captured names -/
def tAllG (P : Addr) (wi : TI) (g : TG) (tt : TT) (te : TE) (st : L2.St → L2.St) : TE := fun σ H Q => wi σ H fun J H1 => TabG H1 P ∧ ∀ H2, Tabbed P H1 H2 → tForB J g (tbAll tt te) { nx := fun _ H => Q (.bl true) H, rt := Q } (st σ) H2
theorem back_to {a : Addr} {s4 s' : Shared} {code : Value} {fp : List Addr} {H2 H' : Hp} {pp : List (Addr × Obj)} {σ' : L2.St} (I4 : Inv X pins σ H2 s4) (hf : ∀ b ∈ fp, FpOk X pins H2 b) (J : Inv (gxC X N scope a code fp s4 H2) pp σ' H' s') : Inv X pins σ H' s' :=
  I4.call' (ch := fp) J.os J.base J.hok J.bare fun b hb => ⟨(hf b hb).2.2.2.1, (hf b hb).2.1, (hf b hb).2.2.2.2.1, (hf b hb).2.2.2.2.2⟩
theorem stat_of {a : Addr} {s4 : Shared} {code : Value} {fp : List Addr} {H2 : Hp} {pp : List (Addr × Obj)} (S : GnS scope) (I4 : Inv X pins σ H2 s4) (hf : ∀ b ∈ fp, FpOk X pins H2 b) (hlt : ∀ b ∈ fp, b < s4.heap.objs.size) (hfr : freeOk scope X.env.scope = true) (ha : s4.heap.objs.size ≤ a) (hpp : ∀ p ∈ pp, s4.heap.objs.size ≤ p.1) {H' : Hp} (h0 : ∀ b ∈ fp, H' b = none) :
    ∀ b ∈ fp, FpOk (gxC X N scope a code fp s4 H2) pp H' b := fun b hb => by
  have lt := hlt b hb
  refine ⟨h0 b hb, Nat.ne_of_lt (Nat.lt_of_lt_of_le lt ha), fun z => ?_, .inl hb, fun x c h => ?_, fun p hp e => ?_⟩
  · rcases List.mem_cons.mp (I4.stkSub b z) with y | y
    · exact (hf b hb).2.1 y
    · exact (hf b hb).2.2.1 y
  · obtain ⟨h1, h2⟩ := clo_from h
    unfold freeOk at hfr
    rw [List.all_eq_true] at hfr
    have q := hfr _ h1
    simp only at q
    have : X.env.kindOf x = some .cell ∨ X.env.kindOf x = some .free := by
      split at q
      · rename_i e; exact .inl e
      · rename_i e; exact .inr e
      · cases q
    obtain ⟨c0, e0⟩ := I4.ok.has x this
    rw [h2, e0]
    exact (hf b hb).2.2.2.2.1 x c0 e0
  · have hp : p ∈ pp := by simpa [gxC] using hp
    have := hpp p hp
    rw [e] at this
    exact absurd (Nat.lt_of_lt_of_le lt this) (Nat.lt_irrefl _)
theorem pe_allG {c P : Addr} {elt iter tg : Expr} {ifs : List Expr} {p pos gpos : Pos} {wi : TI} {g : TG} {tt : TT} {te : TE} {k : Nat} (hcalm : X.calm = true) (hr : Room (k + 2) X.A) (B : Blt X.mg) (TB : TabB X.base X.mg c P) (hcode : X.env.code = .ref c)
    (S : GnS scope) (hfr : freeOk scope X.env.scope = true) (hcap : capOk N nt fr X.N scope X.env.scope = true) (hi : PI X tg iter wi)
    (hg : ∀ C code fp s4 H4, Room k (gxC X N scope C code fp s4 H4).A → PG (gxC X N scope C code fp s4 H4) tg g) (ht : ∀ C code fp s4 H4, Room k (gxC X N scope C code fp s4 H4).A → PTs (gxC X N scope C code fp s4 H4) ifs tt)
    (he : ∀ C code fp s4 H4, Room k (gxC X N scope C code fp s4 H4).A → PE (gxC X N scope C code fp s4 H4) elt te)
    (hs : ∀ v, genFold iter X.env v = pure v) (hgl : Gl X "all" := by rfl)
    (hse : starEach [.GeneratorExp elt [⟨tg, iter, ifs, 0⟩] scope gpos] X.env = (false, eval (.GeneratorExp elt [⟨tg, iter, ifs, 0⟩] scope gpos) X.env) :: starEach [] X.env := by rfl) :
    PE X (.Call (.Name "all" p) [.GeneratorExp elt [⟨tg, iter, ifs, 0⟩] scope gpos] [] pos) (tAllG P wi g tt te (capSt nt fr)) := by
  refine ⟨fun pins s σ H Q I h => ?_⟩
  have hh : X.A.handled = none := I.ok.hd hcalm
  refine wpAny_Call_Name_kw (ld_blt I hgl B.all (show bootBuiltins "all" = some (.builtin "all") by decide +kernel) ?_)
  refine PyProof.Rows.callWith_builtin1 ?_ hse (by rfl)
  rw [hse]
  show wpAny _ _ (spliced ((false, eval (.GeneratorExp elt [⟨tg, iter, ifs, 0⟩] scope gpos) X.env) :: backTo pos (starEach [] X.env))) _ _ s
  refine Calls.spliced_cons (gen_mkI (N := N) (nt := nt) (fr := fr) (R := fun J H2 => tForB J g (tbAll tt te) { nx := fun _ H => Q (.bl true) H, rt := Q } (capSt nt fr σ) H2) hcalm hr TB hcode S hfr hcap hi hs I h fun J H2 a s5 hR hF => ?_)
  refine Calls.spliced_nil ?_
  obtain ⟨s4, code, fp, it, tn, go, gi, I4, hf, hlt, ha, ha2, T, st5, hgo, hga, hgs, I5⟩ := hF
  obtain ⟨W, ⟨m0, w0⟩, turn⟩ := hR
  have hrA : Room k (gxC X N scope s4.heap.objs.size code fp s4 H2).A := by
    have r1 := hr.dp
    have r2 := hr.un
    have q1 : (gxC X N scope s4.heap.objs.size code fp s4 H2).A.depth = X.A.depth + 1 := rfl
    have q2 : (gxC X N scope s4.heap.objs.size code fp s4 H2).A.units = X.A.units + 1 + 1 + 3 := rfl
    exact ⟨hh, by omega, by omega⟩
  refine call_function_tree F.kind_all F.plain_all F.entry_all (F.args_all1 _) ?_
  unfold Builtin.«all»
  refine wpAny_bind (m := oneArg "all" _) (wpAny_pure ?_)
  refine wpAny_bind (wpAny_pyIter_gen (hgo _ hga) ?_)
  refine wpAny_pure ⟨plainId_quiet F.plain_all_loop _, ?_⟩
  have depth : X.A.depth < recursionLimit := by have := hr.dp; omega
  refine all_loop_gen (Y := gxC X N scope s4.heap.objs.size code fp s4 H2) (go := (a, go)) (gi := gi) (W := fun i m cp σ H => W i m σ H) (B := fun i m cp y σ H => ∃ b, y = .bl b ∧ if b = true then ∃ m', m' < m ∧ W (i + 1) m' σ H else Q (.bl false) H) (Dn := fun _ _ H => Q (.bl true) H) (Fl := fun _ H => Q (.bl false) H)
    hh depth hgo (fun i m cp y σ H hb => hb) (fun pp σ' H' s' J' q => ⟨.bl false, H', back_to I4 hf J', rfl, q⟩) (fun pp σ' H' s' cp J' q => ⟨.bl true, H', back_to I4 hf J', rfl, q⟩) (m0 + 1) s5 ⟨hgo _ hga, I5.nolimit, _, hgs, rfl, ?_⟩
  refine seg_turns0 (Y := gxC X N scope s4.heap.objs.size code fp s4 H2) (fp := fp) (tn := tn) (J := J) (tg := tg) (g := g) (tt := tt) (te := te) rfl (fun _ _ z => z) rfl T (hg _ _ _ _ _ hrA) (ht _ _ _ _ _ hrA) (he _ _ _ _ _ hrA) S.co (fun i m cp σ H w => ?_)
    (fun cp H' hcp h0 => stat_of S I4 hf hlt hfr (Nat.le_refl _) (fun p hp => ?_) h0) (fun b hb => absurd hb List.not_mem_nil) (fun p hp hb => absurd hb List.not_mem_nil) (fun b hb hb2 => absurd hb2 List.not_mem_nil) (Nat.lt_succ_self m0) (cp := []) rfl (fun p hp => nomatch hp) (inv_kept I5 rfl (allBare_setGen I5.bare rfl) fun _ _ e => e) st5 (fun b hb => (hf b hb).1) w0
  · rcases turn i m σ H w with ⟨q1, q2⟩ | ⟨q1, Nt, hN, q2⟩
    · exact .inl ⟨q1, q2⟩
    · refine .inr ⟨q1, fun y σ' H' => ∃ b, y = .bl b ∧ if b = true then Nt σ' H' else Q (.bl false) H', Nt, fun y σ' H' ⟨b, e, z⟩ => ⟨b, e, ?_⟩, hN, q2⟩
      cases b with
      | true => rw [if_pos rfl] at z ⊢; exact hN _ _ z
      | false => rw [if_neg Bool.false_ne_true] at z ⊢; exact z
  · have e0 : cp = [] := by
      have := congrArg List.length hcp
      rw [List.length_map] at this
      exact List.eq_nil_of_length_eq_zero this
    subst e0
    rw [List.mem_singleton.mp hp]
    exact Nat.le_of_lt ha
end
end SC
/-! several tables of code at once; the state of a law that has them -/
namespace SC
open PySem L2
def Tabs (Ts : List Addr) (H : Hp) : Prop := ∀ P ∈ Ts, GxR.TabG H P
section
variable {Ts S : List Addr} {P st p : Addr} {H0 H H' : Hp} {K : PySem.W.Frag}
theorem Tabs.kp1 (h : Tabs Ts H) (k : Kp [P] H H') (g : GxR.TabG H' P) : Tabs Ts H' := fun Q m => if e : Q = P then e ▸ g else tabG_kp (h Q m) k (by simpa using e)
theorem Tabs.kp (h : Tabs Ts H) (k : Kp S H H') (n : ∀ P ∈ Ts, P ∉ S) : Tabs Ts H' := fun Q m => tabG_kp (h Q m) k (n Q m)
theorem Tabs.kp0 (h : Tabs Ts H) (k : Kp [] H H') : Tabs Ts H' := h.kp k fun _ _ => List.not_mem_nil
theorem Tabs.ne (h : Tabs Ts H) {b : Addr} {o : HO} (e : H b = some o) (no : ∀ ps, o ≠ .tbl ps := by intro ps z; cases z) : b ∉ Ts := fun m => by
  obtain ⟨ps, q, _⟩ := h b m
  rw [e] at q
  exact no ps (Option.some.inj q)
theorem Tabs.ne0 (h : Tabs Ts H) {b : Addr} (e : H b = none) : b ∉ Ts := fun m => by
  obtain ⟨ps, q, _⟩ := h b m
  rw [e] at q
  cases q
theorem Tabs.new (h : Tabs Ts H) (e : H p = none) (o : HO) : Tabs Ts (upd H p o) := h.kp0 (Kp.new e o)
theorem Tabs.tab (h : Tabs Ts H) (t : GxR.Tabbed P H H') (m : P ∈ Ts) : Tabs Ts H' := h.kp1 (Kp.tab (h P m) t (List.mem_singleton.mpr rfl)) t.1
theorem Kp.in1 (k : Kp [P] H H') (m : P ∈ Ts) : Kp Ts H H' := k.mono fun b hb => by rw [List.mem_singleton.mp hb]; exact m
theorem Kp.in0 (k : Kp [] H H') : Kp S H H' := k.mono fun b hb => absurd hb List.not_mem_nil
theorem Kp.get {b : Addr} {o : HO} (k : Kp Ts H H') (g : Tabs Ts H) (h : H b = some o) (no : ∀ ps, o ≠ .tbl ps := by intro ps z; cases z) : H' b = some o := k.keep b o (g.ne h no) h
theorem Kp.tys {v : V} {t : String} (k : Kp Ts H H') (g : Tabs Ts H) (h : tyN H v = some t) : tyN H' v = some t := by
  cases v with
  | ref p =>
    unfold tyN at h
    simp only at h
    split at h
    · rename_i xs q; cases h; exact tyN_lst (k.get g q)
    · rename_i xs q; cases h; exact tyN_tup (k.get g q)
    · rename_i xs q; cases h; exact tyN_dK (k.get g q)
    · cases h
  | _ => exact h
theorem Kp.seqs {a : Addr} {xs : List V} (k : Kp Ts H H') (g : Tabs Ts H) (h : SqL K H a xs) : SqL K H' a xs := by
  rcases h with (h | ⟨o, h⟩) | h
  · exact .inl (.inl (k.get g h))
  · exact .inl (.inr ⟨o, k.get g h⟩)
  · exact .inr h
/-- a law's state: tables may have grown, the stream stands, all else that was there is as it was -/
structure LT (Ts : List Addr) (st : Addr) (H0 H : Hp) : Prop where
  k : Kp Ts H0 H
  g : Tabs Ts H
  s : Strm H st
  g0 : Tabs Ts H0
  fr : H0 st = none
theorem LT.ne (L : LT Ts st H0 H) : st ∉ Ts := let ⟨_, _, e⟩ := L.s; L.g.ne e
theorem LT.first (g0 : Tabs Ts H0) (h : H0 st = none) {a b : Int} : LT Ts st H0 (upd H0 st (.lst [.int a, .int b])) := ⟨Kp.new h _, g0.new h _, Strm.mk, g0, h⟩
/-- what is written: a table, or what was not there at the beginning -/
theorem LT.go (L : LT Ts st H0 H) (k : Kp S H H') (hS : ∀ b ∈ S, b ∈ Ts ∨ H0 b = none) (g : Tabs Ts H') (s : Strm H' st) : LT Ts st H0 H' := by
  refine ⟨⟨fun b o n q => ?_, fun b xs q => k.tup b xs (L.k.tup b xs q)⟩, g, s, L.g0, L.fr⟩
  refine k.keep b o (fun m => ?_) (L.k.keep b o n q)
  rcases hS b m with z | z
  · exact n z
  · rw [q] at z; cases z
theorem LT.take (L : LT Ts st H0 H) (k : Kp [st] H H') (s : Strm H' st) : LT Ts st H0 H' :=
  L.go k (fun b hb => .inr (by rw [List.mem_singleton.mp hb]; exact L.fr)) (L.g.kp k fun P m z => L.ne (by rw [← List.mem_singleton.mp z]; exact m)) s
theorem LT.tabs (L : LT Ts st H0 H) (k : Kp Ts H H') (g : Tabs Ts H') : LT Ts st H0 H' := L.go k (fun b hb => .inl hb) g (L.s.kp k L.ne)
theorem LT.kp0 (L : LT Ts st H0 H) (k : Kp [] H H') : LT Ts st H0 H' := L.go k (fun b hb => absurd hb List.not_mem_nil) (L.g.kp0 k) (L.s.kp k List.not_mem_nil)
theorem LT.new (L : LT Ts st H0 H) (h : H p = none) (o : HO) : LT Ts st H0 (upd H p o) := L.kp0 (Kp.new h o)
theorem LT.free (L : LT Ts st H0 H) (h : H p = none) : H0 p = none := by
  cases e : H0 p with
  | none => rfl
  | some o =>
    exfalso
    by_cases m : p ∈ Ts
    · exact L.g.ne0 h m
    · have := L.k.keep p o m e
      rw [h] at this; cases this
theorem LT.seq {a : Addr} {xs : List V} (L : LT Ts st H0 H) (h : SqL K H0 a xs) : SqL K H a xs := L.k.seqs L.g0 h
theorem LT.lst (L : LT Ts st H0 H) {xs ys : List V} (h0 : H0 p = none) (h : H p = some (.lst xs)) (n : p ≠ st) : LT Ts st H0 (upd H p (.lst ys)) := by
  have k : Kp [p] H (upd H p (.lst ys)) := Kp.lst h (List.mem_singleton.mpr rfl)
  exact L.go k (fun b hb => .inr (by rw [List.mem_singleton.mp hb]; exact h0)) (L.g.kp k fun P m z => by rw [List.mem_singleton.mp z] at m; exact L.g.ne h (by intro ps z; cases z) m) (L.s.kp k (by simpa using n.symm))
end
/-- a method of the class at C that keeps its promise -/
structure CalM (P : Program) (w : World) (K : PySem.W.Frag) (mg : Str → Option Value) (base : Heap) (CX : CXT) (k : Nat) (C : Addr) (x : Str) (sp : Sp) : Prop where
  ex : ∃ f fd ps, FnOk P w K mg base CX k f fd ps sp ∧ Meth K C x f ∧ Binds K fd ps []
  cl : Cls K C
/-- a class that is made without arguments -/
structure CalK (P : Program) (w : World) (K : PySem.W.Frag) (mg : Str → Option Value) (base : Heap) (CX : CXT) (k : Nat) (C : Addr) (x : Str) (sp : Sp) : Prop where
  ex : ∃ f fd ps, FnOk P w K mg base CX k f fd ps sp ∧ Mk K C f ∧ Binds K fd ps []
  mg : mg x = some (.ref C)
section
variable {P : Program} {w : World} {K : PySem.W.Frag} {mg : Str → Option Value} {base : Heap} {CX : CXT} {C : Addr} {x : Str} {sp : Sp}
theorem CalM.mono {j k : Nat} (c : CalM P w K mg base CX j C x sp) (h : j ≤ k) : CalM P w K mg base CX k C x sp :=
  let ⟨f, fd, ps, F, m, b⟩ := c.ex
  ⟨⟨f, fd, ps, F.mono h, m, b⟩, c.cl⟩
theorem CalM.imp {k : Nat} {sp' : Sp} (c : CalM P w K mg base CX k C x sp) (h : ∀ vs H Q E, sp' vs H Q E → sp vs H Q E) : CalM P w K mg base CX k C x sp' :=
  let ⟨f, fd, ps, F, m, b⟩ := c.ex
  ⟨⟨f, fd, ps, F.imp h, m, b⟩, c.cl⟩
end
section
variable {X : Cx} {x : Str} {p pos apos : Pos} {o e : Expr} {es : List Expr} {ta : TE} {t : TA} {sp : Sp} {j k : Nat} {CX : CXT} {E : XK} {C : Addr} {pl : Sem Bool}
theorem CalM.pex (c : CalM X.prog X.w X.K X.mg X.base CX j C x sp) (hr : Room k X.A) (hx : Passes CX X E) (ho : PE X o ta) (ha : PA X (e :: es) t) (hjk : j ≤ k := by first | decide | omega)
    (hst : starEach (e :: es) X.env = (false, eval e X.env) :: starEach es X.env := by rfl) (hpl : (backTo pos (starEach es X.env)).any (·.1) = false := by rfl)
    (ht : eval (.Call (.Attribute o x apos) (e :: es) [] pos) X.env = (do
      let ov ← eval o X.env
      standAt apos.atName
      let (f, first) ← holding [ov] (getMethod ov x pl)
      callWith pos f first (backTo pos (starEach (e :: es) X.env)) (backToKw pos (keywordEach [] X.env))) := by rfl) :
    PE X (.Call (.Attribute o x apos) (e :: es) [] pos) (tMeth C x sp [] E ta t) :=
  let ⟨_, _, _, F, m, b⟩ := c.ex
  pe_meth ho c.cl m F (hr.mono hjk) b .nil hx ha hst hpl ht
theorem CalM.pe (c : CalM X.prog X.w X.K X.mg X.base CX0 j C x sp) (hr : Room k X.A) (ho : PE X o ta) (ha : PA X (e :: es) t) (hjk : j ≤ k := by first | decide | omega)
    (hst : starEach (e :: es) X.env = (false, eval e X.env) :: starEach es X.env := by rfl) (hpl : (backTo pos (starEach es X.env)).any (·.1) = false := by rfl)
    (ht : eval (.Call (.Attribute o x apos) (e :: es) [] pos) X.env = (do
      let ov ← eval o X.env
      standAt apos.atName
      let (f, first) ← holding [ov] (getMethod ov x pl)
      callWith pos f first (backTo pos (starEach (e :: es) X.env)) (backToKw pos (keywordEach [] X.env))) := by rfl) :
    PE X (.Call (.Attribute o x apos) (e :: es) [] pos) (tMeth C x sp [] E0 ta t) := c.pex hr pass0 ho ha hjk hst hpl ht
/-- of a method that may raise, where it does not -/
theorem CalM.peL (c : CalM X.prog X.w X.K X.mg X.base (L2.CX X.prog X.w) j C x sp) (hr : Room k X.A) (ho : PE X o ta) (ha : PA X (e :: es) t) (hjk : j ≤ k := by first | decide | omega)
    (hst : starEach (e :: es) X.env = (false, eval e X.env) :: starEach es X.env := by rfl) (hpl : (backTo pos (starEach es X.env)).any (·.1) = false := by rfl)
    (ht : eval (.Call (.Attribute o x apos) (e :: es) [] pos) X.env = (do
      let ov ← eval o X.env
      standAt apos.atName
      let (f, first) ← holding [ov] (getMethod ov x pl)
      callWith pos f first (backTo pos (starEach (e :: es) X.env)) (backToKw pos (keywordEach [] X.env))) := by rfl) :
    PE X (.Call (.Attribute o x apos) (e :: es) [] pos) (tMeth C x sp [] E0 ta t) := c.pex hr passL ho ha hjk hst hpl ht
theorem CalM.pe0 (c : CalM X.prog X.w X.K X.mg X.base CX0 j C x sp) (hr : Room k X.A) (ho : PE X o ta) (hjk : j ≤ k := by first | decide | omega)
    (ht : eval (.Call (.Attribute o x apos) [] [] pos) X.env = (do
      let ov ← eval o X.env
      standAt apos.atName
      let (f, first) ← holding [ov] (getMethod ov x pl)
      callWith pos f first (backTo pos (starEach [] X.env)) (backToKw pos (keywordEach [] X.env))) := by rfl) :
    PE X (.Call (.Attribute o x apos) [] [] pos) (tMeth C x sp [] E0 ta tNil) :=
  let ⟨_, _, _, F, m, b⟩ := c.ex
  pe_meth0 ho c.cl m F (hr.mono hjk) b .nil pass0 ht
theorem CalK.pe0 (c : CalK X.prog X.w X.K X.mg X.base CX0 j C x sp) (hr : Room k X.A) (hjk : j + 1 ≤ k := by first | decide | omega) (hg : Gl X x := by rfl) (hdb : (x == ("__debug__" : Str)) = false := by decide) :
    PE X (.Call (.Name x p) [] [] pos) (tMake C sp [] E0 tNil) :=
  let ⟨_, _, _, F, m, b⟩ := c.ex
  pe_make0 m F (hr.mono hjk) hg c.mg b .nil pass0 hdb
end
section
variable {X : Cx}
theorem Blt.len_d {p pos : Pos} {e : Expr} {es : List Expr} {t : TA} (B : Blt X.mg) (ha : PA X (e :: es) t) (hg : Gl X "len" := by rfl) (he : starEach (e :: es) X.env = (false, eval e X.env) :: starEach es X.env := by rfl) (hpl : (backTo pos (starEach es X.env)).any (·.1) = false := by rfl) :
    PE X (.Call (.Name "len" p) (e :: es) [] pos) (tCB rLenT t) := pe_callB call_len_dT hg B.len PySem.boot_len ha (he := he) (hpl := hpl)
end
end SC
/-! try with several clauses that name the caught error, all by one name -/
namespace SC
open PySem PySem.Spec PyProof.Rows L2
/-- how the name at the slot i goes behind a suite -/
def dropE (i : Nat) (D : Ends) : Ends := { nx := fun τ G => D.nx (τ.set i none) G, rt := D.rt, bk := fun τ G => D.bk (τ.set i none) G, ct := fun τ G => D.ct (τ.set i none) G }
/-- o.m(..) of a method that may raise, the wish by the slots -/
def tMethV (C : Addr) (m : Str) (sp : Sp) (E : L2.St → XK) (ta : TE) (t : TA) : TE := fun σ H Q => ta σ H fun x H1 => ∃ a dx fs, x = .ref a ∧ H1 a = some (.ins C dx fs) ∧ fs.lookup m = none ∧ t σ H1 fun vs H2 => sp (x :: vs) H2 Q (E σ)
end SC
set_option maxHeartbeats 3200000
/-! sorted(set(xs)) and sorted(xs) of texts, of any number -/
namespace SC
open PySem PySem.Spec PyProof.Rows L2
open PySem.Froz (SD sObj TxOk addTx tailTx add_ok is_str)
section
variable {P : Program} {w : World} {A : Around} {E : Value → Shared → Prop} {s : Shared}
/-- the set at a holds the texts l, each once; its table rises and can be walked -/
structure TxR (P : Program) (w : World) (h : Heap) (a : Addr) (l : List Str) : Prop where
  ex : ∃ D, h.get? a = some (sObj "set" D) ∧ TxOk P w D l ∧ Ris D.2.2.place.toList ∧ (w.params.followText "set-order" = true ∨ D.2.2.led = true)
  nd : l.Nodup
theorem TxR.at {h h' : Heap} {a : Addr} {l : List Str} (R : TxR P w h a l) (k : ∀ o, h.get? a = some o → h'.get? a = some o) : TxR P w h' a l :=
  let ⟨D, e, r⟩ := R.ex
  ⟨⟨D, k _ e, r⟩, R.nd⟩
/-- the set that set() makes, before the first item -/
abbrev newSetObj (w : World) : Obj := { cls := .type "set", dict := none, data := .set #[] 0 (.fresh 0 0 (!w.params.followText "set-order")) }
theorem TxR.fresh {h : Heap} {a : Addr} (e : h.get? a = some (newSetObj w)) : TxR P w h a [] := by
  refine ⟨⟨(#[], 0, .fresh 0 0 (!w.params.followText "set-order")), e, TxOk.nil rfl, List.Pairwise.nil, ?_⟩, List.nodup_nil⟩
  show _ ∨ (!w.params.followText "set-order") = true
  cases w.params.followText "set-order" <;> simp
theorem addTx_walk {hs : Int} {v : Value} {D : SD} (r : Ris D.2.2.place.toList) (g : w.params.followText "set-order" = true ∨ D.2.2.led = true) :
    Ris (addTx hs v D).2.2.place.toList ∧ (w.params.followText "set-order" = true ∨ (addTx hs v D).2.2.led = true) := by
  obtain ⟨es, ep, t⟩ := D
  have r1 := layNew_ris t es hs v r
  have l1 := layNew_led t es hs v
  unfold addTx tailTx
  dsimp only
  generalize layNew t es hs v = L at r1 l1 ⊢
  obtain ⟨e1, t1, wd, gv⟩ := L
  dsimp only at r1 l1 ⊢
  have r2 : Ris (if t1.plain = true then { t1 with plain := false } else t1).place.toList := by split <;> exact r1
  have l2 : (if t1.plain = true then { t1 with plain := false } else t1).led = t.led := by split <;> exact l1
  generalize (if t1.plain = true then { t1 with plain := false } else t1) = t2 at r2 l2 ⊢
  split
  · refine ⟨relayAll_ris t2 e1 _, g.imp id fun q => ?_⟩
    rw [relayAll_led, l2]; exact q
  · exact ⟨r2, g.imp id fun q => by rw [l2]; exact q⟩
/-- one text is put in -/
theorem TxR.add {a : Addr} {l : List Str} {k : Str} {u : Tok} {Q : Bool → Shared → Prop} (R : TxR P w s.heap a l) (few : l.length + 1 < scanBound)
    (q : ∀ h' b, Heap.SameBut a s.heap h' → TxR P w h' a (if k ∈ l then l else k :: l) → Q b { s with heap := h' }) : wpAny (model P w) A (setAddHashed a (.str k u) (hashStr w k)) Q E s := by
  obtain ⟨D, at_, ok, ris, walk⟩ := R.ex
  by_cases m : k ∈ l
  · obtain ⟨es, ep, t⟩ := D
    have few0 : es.size < scanBound := by have : es.size = l.length := ok.sz; omega
    unfold setAddHashed setAddHashedIn
    refine wpAny_holding (wpAny_bind (wpAny_setState_of at_ (show (sObj "set" (es, ep, t)).data = .set es ep t from rfl) ok.fit ?_))
    dsimp only
    rw [byScan_of (x := Value.str k u) rfl few0 ok.el, if_pos rfl]
    unfold setAddByScan
    refine wpAny_bind (wpAny_bind (wpAny_rule (wpAny_bind (wpAny_setScan_of (knd := strKind P w) (k := k) (is_str k u) at_ (show (sObj "set" (es, ep, t)).data = .set es ep t from rfl) ok.fit ok.el ?_))))
    obtain ⟨e, he, hp⟩ := (ok.mem k).mp m
    cases fnd : List.findIdx? (fun e => (strKind P w).is k e.2) es.toList with
    | none =>
      have := List.findIdx?_eq_none_iff.mp fnd e he
      rw [hp] at this; cases this
    | some j =>
      have z := q s.heap false (Heap.SameBut.refl a s.heap) (by rw [if_pos m]; exact R)
      exact wpAny_pure (wpAny_pure z)
  · refine PySem.Froz.add_x at_ ok m few (q _ _ ?_ ?_)
    · exact ⟨by rw [Heap.size_update], fun b hb => Heap.get?_update_other _ _ (Ne.symm hb)⟩
    · rw [if_neg m]
      exact ⟨⟨addTx (hashStr w k) (.str k u) D, PySem.Froz.get_upd _ at_ rfl, add_ok u ok, addTx_walk ris walk⟩, List.nodup_cons.mpr ⟨m, R.nd⟩⟩
/-- what the first i of xs make of the set at S -/
def Upto (P : Program) (w : World) (S : Addr) (xs : List Str) (i : Nat) (h : Heap) : Prop := ∃ l, TxR P w h S l ∧ (∀ z, z ∈ l ↔ z ∈ xs.take i) ∧ l.length ≤ i
theorem Upto.at {h h' : Heap} {S : Addr} {xs : List Str} {i : Nat} (u : Upto P w S xs i h) (k : ∀ o, h.get? S = some o → h'.get? S = some o) : Upto P w S xs i h' := let ⟨l, r, m⟩ := u; ⟨l, r.at k, m⟩
theorem Upto.more {h' : Heap} {S : Addr} {xs l : List Str} {i : Nat} {z : Str} (at_ : xs[i]? = some z) (mem : ∀ y, y ∈ l ↔ y ∈ xs.take i) (len : l.length ≤ i) (R : TxR P w h' S (if z ∈ l then l else z :: l)) : Upto P w S xs (i + 1) h' := by
  refine ⟨_, R, fun y => ?_, ?_⟩
  · rw [List.take_add_one, at_, List.mem_append, Option.toList_some, List.mem_singleton, ← mem y]
    split
    · rename_i m
      exact ⟨.inl, fun q => q.elim id fun e => by rw [e]; exact m⟩
    · rw [List.mem_cons]
      exact or_comm
  · split
    · omega
    · exact Nat.succ_le_succ len
theorem loop_txts {it S : Addr} {fp wr : List Addr} {G : Array GenState → Array GenState → Prop} {n : Nat} {Pv : Nat → Value → Prop} {St : Nat → Shared → Prop} {R : Result → Shared → Prop} {xs : List Str}
    (W : WalksS P w A.in1 it fp wr G n Pv St) (off : S ∉ fp) (len : n = xs.length) (few : xs.length + 1 < scanBound) (vals : ∀ i v, Pv i v → ∃ z u, xs[i]? = some z ∧ v = Value.str z u) :
    ∀ (k i : Nat) (s : Shared), n - i = k → i ≤ n → St i s → Upto P w S xs i s.heap → (∀ s', Moved (S :: wr) G s s' → Upto P w S xs n s'.heap → R (.ok (.ret .none)) s') →
      codeAny (model P w) A (.builtin "set.update.loop" ⟨[.ref S, .ref it], []⟩) R s := by
  have offW : S ∉ wr := fun m => off (W.sub _ m)
  intro k
  induction k with
  | zero =>
    intro i s left le st up out
    obtain rfl : i = n := by omega
    refine codeAny_builtin F.entry_set_update_loop (by
      rw [Around.under_plainId F.plain_set_update_loop _]
      exact wpAny_bind (m := pyNext (.ref it)) (W.done s _ _ st fun s' moved => wpAny_pure (out s' (moved.mono fun b hb => List.mem_cons_of_mem _ hb) (up.at fun o e => moved.heap S o offW e))))
  | succ k ih =>
    intro i s left le st up out
    have lt : i < n := by omega
    refine codeAny_builtin F.entry_set_update_loop (by
      rw [Around.under_plainId F.plain_set_update_loop _]
      refine wpAny_bind (m := pyNext (.ref it)) (W.item i s _ _ lt st fun v s' is_ st' moved => ?_)
      obtain ⟨z, u, at_, rfl⟩ := vals i v is_
      obtain ⟨l, tr, mem, ll⟩ := up.at (h' := s'.heap) fun o e => moved.heap S o offW e
      refine wpAny_bind (m := holding [Value.str z u] (setAdd S (.str z u))) (wpAny_holding ?_)
      unfold setAdd
      refine wpAny_holding (wpAny_bind ((strKind P w).pyHash (k := z) (is_str z u) ?_))
      refine TxR.add (s := { s' with toks := s'.toks + 1 }) tr (by omega) fun h' b same R2 => ?_
      have frame : ∀ c ∈ fp, ∀ o, s'.heap.get? c = some o → h'.get? c = some o := fun c hc o e => by rw [same.2 c (fun z : c = S => off (by rw [← z]; exact hc))]; exact e
      refine wpAny_pure ⟨plainId_quiet F.plain_set_update_loop _, ih (i + 1) _ (by omega) lt (W.frame _ s' _ _ st' (Nat.le_succ _) frame) (Upto.more at_ mem ll R2) fun s2 moved2 up2 => out s2 (Moved.trans W.gtrans (((moved.mono fun b hb => List.mem_cons_of_mem _ hb)).then_heap (Nat.le_succ _) fun b o off2 e => ?_) moved2) up2⟩
      rw [same.2 b fun z : b = S => off2 (by rw [z]; exact List.mem_cons_self)]
      exact e)
local macro_rules | `(tactic| walk_at "go") => `(tactic| repeat (any_goals (first | assumption | wp_step)))
/-- set(xs), xs a list of texts -/
theorem set_of_txts {l : Addr} {items : Array Value} {xs : List Str} {Q : Value → Shared → Prop} (hh : A.handled = none) (isL : s.heap.IsList l items) (txt : StrsAre items.toList xs) (few : xs.length + 1 < scanBound)
    (q : ∀ (h' : Heap) (tk : Nat), Upto P w s.heap.objs.size xs xs.length h' → (∀ b o, s.heap.get? b = some o → h'.get? b = some o) → Q (.ref s.heap.objs.size) { s with heap := h', toks := tk }) :
    wpAny (model P w) A (call (.type "set") [.ref l]) Q E s := by
  have size : items.size = xs.length := by have z := StrsAre.length txt; rwa [Array.length_toList] at z
  let S := s.heap.objs.size
  let h1 := s.heap.push (newSetObj w)
  have at1 : h1.get? S = some (newSetObj w) := Heap.get?_push_size _ rfl
  have size1 : h1.objs.size = S + 1 := Heap.size_push ..
  obtain ⟨c, tl, mro⟩ := F.called_set.mro
  have made := F.called_set.made
  have sub := F.called_set.sub
  refine wpAny_call (codeAny_of_tree (wpAny_pure ⟨Code.quiet_builtin _ (by decide +kernel), codeAny_builtin F.entry_type_call ?_⟩))
  rw [Around.under_plain (weight_type_call_type "set" [.ref l] []) rfl]
  have nt := F.called_set.notType
  have cc := F.called_set.canCreate
  have tc := F.typeCall_set_1 (.ref l)
  walk_at "go"
  refine codeAny_mono (code_set_led1 (.ref l) (E := E) (Q₁ := fun obj t => obj = .ref S ∧ t = { s with heap := h1 }) ⟨rfl, rfl⟩) fun r t hr => ?_
  cases r with
  | error e => exact hr
  | ok fl =>
    cases fl with
    | next => exact hr.elim
    | brk => exact hr.elim
    | cont => exact hr.elim
    | ret obj =>
      obtain ⟨rfl, rfl⟩ := hr
      have ty : Shared.TypeIs { s with heap := h1 } (.ref S) "set" := ⟨_, at1, rfl⟩
      have li := F.called_set.init.lookup
      have bi := F.called_set.init.bind (.ref S)
      walk_at "go"
      refine codeAny_mono (codeAny_call_builtin (R := wants (fun r t2 => r = .none ∧ ∃ h' tk, t2 = { s with heap := h', toks := tk } ∧ Upto P w S xs xs.length h' ∧ ∀ b o, s.heap.get? b = some o → h'.get? b = some o) E) F.called_set.init.plain F.entry_set_init (check_set_init_1 ty ?_)) fun r2 t2 hr2 => ?_
      · obtain ⟨⟨cls, dct, dat, sls⟩, got, isCls, nn, isDat⟩ := isL
        simp only at isCls isDat
        subst isCls isDat
        have got1 : h1.get? l = some { cls := .type "list", dict := dct, data := .seq items nn, slots := sls } := Heap.get?_push_of_some _ got
        have q1 := F.sub_list_set
        have q2 := F.sub_list_frozenset
        have q3 : (Value.type "list" == Value.type "dict") = false := by decide
        have isL1 : h1.IsList l items := ⟨_, got1, rfl, nn, rfl⟩
        have ltS : l < S := Heap.lt_size got
        unfold Builtin.«set.__init__» noKeywords Builtin.Frozenset.updateFrom
        generalize keepIter : pyIter = PI
        wp_walk
        subst keepIter
        refine wpAny_pyIter_list isL1 (wpAny_bind (wpAny_runValue ?_))
        have calm : A.in1.in1.in1.handled = none := by simp [hh]
        have neIt : l ≠ h1.objs.size := by rw [size1]; exact Nat.ne_of_lt (Nat.lt_succ_of_lt ltS)
        have off : S ∉ [h1.objs.size, l] := by
          rw [size1]
          intro m
          rcases List.mem_cons.mp m with z | z
          · exact Nat.ne_of_lt (Nat.lt_succ_self _) z
          · exact Nat.ne_of_gt ltS (List.mem_singleton.mp z)
        have vals : ∀ (i : Nat) (v : Value), items[i]? = some v → ∃ z u, xs[i]? = some z ∧ v = Value.str z u := fun i v hv => by
          have hi : i < xs.length := by rw [← size]; exact (Array.getElem?_eq_some_iff.mp hv).1
          obtain ⟨u, e⟩ := SS.strs_at txt i v (by rw [Array.getElem?_toList]; exact hv)
          refine ⟨xs[i], u, List.getElem?_eq_getElem hi, e.trans ?_⟩
          rw [List.getD_eq_getElem?_getD, List.getElem?_eq_getElem hi]
          all_goals rfl
        refine loop_txts (xs := xs) (P := P) (w := w) ((Walks.list calm _ l neIt items).toS) off size few vals (items.size - 0) 0 _ (by omega) (Nat.zero_le _) ⟨⟨_, Heap.get?_push_size _ rfl, rfl, rfl⟩, isL1.push _⟩ ?first ?last
        case first => exact ⟨[], TxR.fresh (Heap.get?_push_of_some _ at1), fun z => by simp, Nat.le_refl _⟩
        case last =>
          rintro ⟨h', g', d', tk', os'⟩ moved up
          obtain rfl : g' = s.gens := moved.gens
          obtain rfl : d' = s.drawn := moved.drawn
          obtain rfl : os' = s.os := moved.os
          rw [size] at up
          refine wpAny_pure (wpAny_pure ⟨rfl, h', tk', rfl, up, fun b o e => ?_⟩)
          have ltb : b < S := Heap.lt_size e
          refine moved.heap b o (fun m => ?_) (Heap.get?_push_of_some _ (Heap.get?_push_of_some _ e))
          rcases List.mem_cons.mp m with z | z
          · exact Nat.ne_of_lt ltb z
          · have z := List.mem_singleton.mp z
            rw [size1] at z
            exact absurd z (Nat.ne_of_lt (Nat.lt_succ_of_lt ltb))
      · cases r2 with
        | error e => exact hr2
        | ok fl2 =>
          cases fl2 with
          | next => exact hr2.elim
          | brk => exact hr2.elim
          | cont => exact hr2.elim
          | ret r =>
            obtain ⟨rfl, h', tk, rfl, up, kept⟩ := hr2
            walk_at "go"
            exact q _ _ up kept
end
end SC
namespace SC
open PySem PySem.Spec PyProof.Rows L2
open PySem.Froz (SD sObj TxOk)
/-! the order of texts -/
def lt (x y : Str) : Bool := ltCps (TL.tl x) (TL.tl y)
theorem ltc_irr : ∀ a : List Nat, ltCps a a = false
  | [] => rfl
  | x :: r => by
    show (decide (x < x) || (x == x && ltCps r r)) = false
    rw [ltc_irr r, decide_eq_false (Nat.lt_irrefl x), Bool.and_false]; rfl
theorem ltc_trans : ∀ a b c : List Nat, ltCps a b = true → ltCps b c = true → ltCps a c = true
  | [], [], _, h, _ => by cases h
  | [], _ :: _, [], _, h => by cases h
  | [], _ :: _, _ :: _, _, _ => rfl
  | _ :: _, [], _, h, _ => by cases h
  | _ :: _, _ :: _, [], _, h => by cases h
  | x :: a, y :: b, z :: c, h1, h2 => by
    have k1 : (decide (x < y) || (x == y && ltCps a b)) = true := h1
    have k2 : (decide (y < z) || (y == z && ltCps b c)) = true := h2
    show (decide (x < z) || (x == z && ltCps a c)) = true
    clear h1 h2
    simp only [Bool.or_eq_true, Bool.and_eq_true, decide_eq_true_eq, beq_iff_eq] at k1 k2 ⊢
    rcases k1 with k1 | ⟨e1, k1⟩
    · rcases k2 with k2 | ⟨e2, _⟩
      · exact .inl (Nat.lt_trans k1 k2)
      · exact .inl (by omega)
    · rcases k2 with k2 | ⟨e2, k2⟩
      · exact .inl (by omega)
      · exact .inr ⟨e1.trans e2, ltc_trans a b c k1 k2⟩
theorem ltc_tri : ∀ a b : List Nat, a = b ∨ ltCps a b = true ∨ ltCps b a = true
  | [], [] => .inl rfl
  | [], _ :: _ => .inr (.inl rfl)
  | _ :: _, [] => .inr (.inr rfl)
  | x :: a, y :: b => by
    show _ ∨ (decide (x < y) || (x == y && ltCps a b)) = true ∨ (decide (y < x) || (y == x && ltCps b a)) = true
    simp only [Bool.or_eq_true, Bool.and_eq_true, decide_eq_true_eq, beq_iff_eq]
    rcases Nat.lt_trichotomy x y with h | rfl | h
    · exact .inr (.inl (.inl h))
    · rcases ltc_tri a b with rfl | h | h
      · exact .inl rfl
      · exact .inr (.inl (.inr ⟨rfl, h⟩))
      · exact .inr (.inr (.inr ⟨rfl, h⟩))
    · exact .inr (.inr (.inl h))
theorem lt_irr (x : Str) : lt x x = false := ltc_irr _
theorem lt_trans {x y z : Str} (h1 : lt x y = true) (h2 : lt y z = true) : lt x z = true := ltc_trans _ _ _ h1 h2
theorem lt_tri (x y : Str) : x = y ∨ lt x y = true ∨ lt y x = true := (ltc_tri (TL.tl x) (TL.tl y)).imp TL.ext_tl id
theorem lt_asym {x y : Str} (h : lt x y = true) : lt y x = false := by
  cases e : lt y x with
  | false => rfl
  | true =>
    have := lt_trans h e
    rw [lt_irr] at this; cases this
/-- strictly ascending -/
def asc : List Str → Bool
  | [] => true
  | x :: r => (match r with | [] => true | y :: _ => lt x y) && asc r
theorem asc_cons {x : Str} {r : List Str} : asc (x :: r) = true ↔ (∀ y ∈ r, lt x y = true) ∧ asc r = true := by
  induction r generalizing x with
  | nil => exact ⟨fun _ => ⟨fun y h => absurd h List.not_mem_nil, rfl⟩, fun _ => rfl⟩
  | cons y r ih =>
    show (lt x y && asc (y :: r)) = true ↔ _
    rw [Bool.and_eq_true]
    constructor
    · rintro ⟨h1, h2⟩
      refine ⟨fun z hz => ?_, h2⟩
      rcases List.mem_cons.mp hz with rfl | hz
      · exact h1
      · exact lt_trans h1 ((ih.mp h2).1 z hz)
    · rintro ⟨h1, h2⟩
      exact ⟨h1 y List.mem_cons_self, h2⟩
theorem asc_nodup : ∀ {l : List Str}, asc l = true → l.Nodup
  | [], _ => List.nodup_nil
  | x :: r, h => by
    obtain ⟨h1, h2⟩ := asc_cons.mp h
    refine List.nodup_cons.mpr ⟨fun m => ?_, asc_nodup h2⟩
    have := h1 x m
    rw [lt_irr] at this; cases this
/-- an ascending list is known by its members -/
theorem asc_eq : ∀ {l m : List Str}, asc l = true → asc m = true → (∀ z, z ∈ l ↔ z ∈ m) → l = m
  | [], [], _, _, _ => rfl
  | [], y :: _, _, _, h => absurd ((h y).mpr List.mem_cons_self) List.not_mem_nil
  | x :: _, [], _, _, h => absurd ((h x).mp List.mem_cons_self) List.not_mem_nil
  | x :: l, y :: m, h1, h2, h => by
    obtain ⟨a1, a2⟩ := asc_cons.mp h1
    obtain ⟨b1, b2⟩ := asc_cons.mp h2
    have e : x = y := by
      rcases List.mem_cons.mp ((h x).mp List.mem_cons_self) with e | e
      · exact e
      rcases List.mem_cons.mp ((h y).mpr List.mem_cons_self) with e2 | e2
      · exact e2.symm
      have := lt_asym (b1 x e)
      rw [a1 y e2] at this; cases this
    subst e
    congr 1
    refine asc_eq a2 b2 fun z => ?_
    constructor
    · intro hz
      rcases List.mem_cons.mp ((h z).mp (List.mem_cons_of_mem _ hz)) with e | e
      · subst e
        have := a1 z hz
        rw [lt_irr] at this; cases this
      · exact e
    · intro hz
      rcases List.mem_cons.mp ((h z).mpr (List.mem_cons_of_mem _ hz)) with e | e
      · subst e
        have := b1 z hz
        rw [lt_irr] at this; cases this
      · exact e
theorem rise_cons : ∀ (p : Str) (l : List Str), risingS p l = true → (p :: l).Nodup → asc (p :: l) = true
  | _, [], _, _ => rfl
  | p, x :: r, h, n => by
    have h : (!ltCps x.cps.toList p.cps.toList && risingS x r) = true := h
    rw [Bool.and_eq_true] at h
    show (lt p x && asc (x :: r)) = true
    rw [rise_cons x r h.2 (List.nodup_cons.mp n).2, Bool.and_true]
    rcases lt_tri p x with e | e | e
    · exact absurd (by rw [e]; exact List.mem_cons_self) (List.nodup_cons.mp n).1
    · exact e
    · have e : ltCps x.cps.toList p.cps.toList = true := e
      rw [e] at h; cases h.1
theorem asc_of {l : List Str} (h : sortedS l = true) (n : l.Nodup) : asc l = true := by
  cases l with
  | nil => rfl
  | cons x r => exact rise_cons x r h n
theorem perm_sub {α : Type} [DecidableEq α] : ∀ (l m : List α), l.Nodup → (∀ x ∈ l, x ∈ m) → m.length ≤ l.length → l.Perm m
  | [], m, _, _, h => by
    have : m = [] := List.eq_nil_of_length_eq_zero (Nat.le_zero.mp h)
    rw [this]
  | x :: l, m, n, s, h => by
    obtain ⟨n1, n2⟩ := List.nodup_cons.mp n
    have hx := s x List.mem_cons_self
    have p := List.perm_cons_erase hx
    refine ((perm_sub l (m.erase x) n2 (fun y hy => ?_) ?_).cons x).trans p.symm
    · exact (List.mem_erase_of_ne (fun e => n1 (by rw [← e]; exact hy))).mpr (s y (List.mem_cons_of_mem _ hy))
    · have := p.length_eq
      rw [List.length_cons] at this
      rw [List.length_cons] at h
      omega
section
variable {P : Program} {w : World} {A : Around} {E : Value → Shared → Prop} {s : Shared}
def txtOf : Value → Str
  | .str z _ => z
  | _ => Str.empty
theorem strsAre_map : ∀ (vs : List Value), (∀ v ∈ vs, ∃ z u, v = Value.str z u) → StrsAre vs (vs.map txtOf)
  | [], _ => .nil
  | v :: r, h => by
    obtain ⟨z, u, rfl⟩ := h v List.mem_cons_self
    exact .cons z u (strsAre_map r fun y hy => h y (List.mem_cons_of_mem _ hy))
/-- sorted(S), S a set of texts -/
theorem sorted_txts {a : Addr} {l : List Str} {Q : Value → Shared → Prop} (R : TxR P w s.heap a l) (few : l.length < scanBound) (hh : A.handled = none)
    (q : ∀ (s' : Shared) (p : Addr) (out : Array Value) (c : Nat) (ys : List Str), (∀ b o, s.heap.get? b = some o → s'.heap.get? b = some o) → s'.gens = s.gens → s'.os = s.os → s.heap.objs.size ≤ p → s'.heap.get? p = some (seqObj "list" out c) → StrsAre out.toList ys → ys.Perm l → sortedS ys = true → Q (.ref p) s') :
    wpAny (model P w) A (call (.builtin "sorted") [.ref a]) Q E s := by
  obtain ⟨⟨es, ep, t⟩, at_, ok, ris, walk⟩ := R.ex
  have size : es.size = l.length := ok.sz
  refine Calls.call_function_entry kind_sorted plain_sorted entry_sorted (args_sorted1 _) ?_
  unfold Builtin.«sorted»
  refine wpAny_bind (m := checkCount "sorted" 1 1 _) (wpAny_pure (wpAny_bind (collect_set (A := A.in1) hh ⟨_, at_, rfl, rfl⟩ ok.fit (by rw [size]; exact few) ris walk fun s1 vs kept bigger gens os perm => ?_)))
  have lenV : vs.length = l.length := by rw [perm.length_eq, List.length_map, Array.length_toList]; exact size
  have allT : ∀ v ∈ vs, ∃ z u, v = Value.str z u ∧ z ∈ l := fun v hv => by
    obtain ⟨e, he, rfl⟩ := List.mem_map.mp (perm.mem_iff.mp hv)
    obtain ⟨⟨k, isK, _⟩, _⟩ := ok.el e he
    have m : k ∈ l := (ok.mem k).mpr ⟨e, he, isK⟩
    have isK : Value.isStrOf k e.2 = true := isK
    cases q : e.2 <;> rw [q] at isK <;> first | (cases isK; done) | skip
    rename_i z u
    have : z = k := by simpa [Value.isStrOf] using isK
    exact ⟨z, u, rfl, by rw [this]; exact m⟩
  have txt := strsAre_map vs fun v hv => let ⟨z, u, e, _⟩ := allT v hv; ⟨z, u, e⟩
  have permL : (vs.map txtOf).Perm l := by
    refine (perm_sub l (vs.map txtOf) R.nd (fun z hz => ?_) (by rw [List.length_map, lenV]; exact Nat.le_refl _)).symm
    obtain ⟨e, he, isK⟩ := (ok.mem z).mp hz
    have mv : e.2 ∈ vs := perm.mem_iff.mpr (List.mem_map.mpr ⟨e, he, rfl⟩)
    obtain ⟨y, u, ey, _⟩ := allT _ mv
    have isK : Value.isStrOf z e.2 = true := isK
    rw [ey] at isK mv
    have : y = z := by simpa [Value.isStrOf] using isK
    exact List.mem_map.mpr ⟨_, mv, this⟩
  have fits : vs.length ≤ sizeLine := by rw [lenV]; exact Nat.le_trans (Nat.le_of_lt few) (by rw [sizeLine_eq]; decide)
  refine wpAny_bind (wpAny_newList ?_ fits)
  have atL : (s1.heap.push (seqObj "list" vs.toArray 0)).get? s1.heap.objs.size = some (seqObj "list" vs.toArray 0) := Heap.get?_push_size _ rfl
  refine wpAny_bind (wpAny_holding (wpAny_call_entry slot_list_sort ⟨_, atL, rfl⟩ entry_list_sort (list_sort_treeKAny strKind_oneLt atL txt.keysOf (fun v1 v2 rest e => keyKind_strs (by rw [← e]; exact txt)) fits fun st hp hs => ?_) (args_list_sort _)))
  obtain ⟨ys, isY, permY, srt⟩ := sorted_out_str txt hp hs
  obtain ⟨c, atS⟩ := sortedHeap_at (vs := vs) (out := (arrOf st).map (·.2)) atL
  refine ⟨_, rfl, wpAny_pure ⟨_, rfl, q _ s1.heap.objs.size _ c ys (fun b u e => ?_) gens os bigger atS isY (permY.trans permL) srt⟩⟩
  have old := Heap.lt_size (kept b u e)
  show (sortedHeap (s1.heap.push (seqObj "list" vs.toArray 0)) s1.heap.objs.size vs ((arrOf st).map (·.2))).get? b = some u
  rw [sortedHeap_old (Nat.ne_of_lt old) (by rw [Heap.size_push]; exact Nat.lt_succ_of_lt old)]
  exact Heap.get?_push_of_some _ (kept b u e)
end
section
variable {X : Cx}
theorem strsOf : ∀ {ys : List Str} {us : List Value}, Vals (ys.map V.str) us → StrsAre us ys
  | [], _, .nil => .nil
  | y :: ys, _, .cons r t => by
    obtain ⟨k, rfl⟩ := r
    exact .cons y k (strsOf t)
/-- sorted(xs) of texts, of any number -/
def rSortedA (K : PySem.W.Frag) : List V → Hp → VK → Prop := fun vs H Q => ∃ (a : Addr) (xs : List Str), vs = [V.ref a] ∧ SqL K H a (xs.map V.str) ∧ ∀ (ys : List Str) (p : Addr), ys.Perm xs → sortedS ys = true → H p = none → Q (.ref p) (upd H p (.lst (ys.map V.str)))
theorem cr_sortedA : CallR X (.builtin "sorted") (rSortedA X.K) := by
  intro pins s σ H vs us Q I r h
  obtain ⟨a, xs, rfl, isL, q⟩ := h
  obtain ⟨its, rv, hl, fits⟩ := I.list isL
  rw [Vals.ref1 r]
  refine sorted_strsAny hl.isList (strsOf rv) (by rw [← rv.length]; exact fits) fun out ys isY perm srt => ?_
  obtain ⟨c, atS⟩ := sortedAll_at s.heap its out
  have len : (ys.map V.str).length ≤ sizeLine := by
    rw [List.length_map] at fits ⊢
    rw [perm.length_eq]; exact fits
  have J := I.laid (a := s.heap.objs.size + 1) (o := .lst (ys.map V.str)) (t' := s.toks) (fun _ _ => sortedAll_old) (Nat.le_succ _) ⟨len, out.toList, c, vals_of_strs isY, atS⟩
  exact ⟨.ref _, _, J, rfl, q ys _ perm srt (I.hok.fresh (Nat.le_succ _))⟩
/-- sorted(set(xs)), xs a list of texts -/
def tSortSet (K : PySem.W.Frag) (ta : TE) : TE := fun σ H Q => ta σ H fun x H1 => ∃ (l : Addr) (xs : List Str), x = .ref l ∧ SqL K H1 l (xs.map V.str) ∧ xs.length ≤ 1000 ∧
  ∀ (ys : List Str) (p : Addr), asc ys = true → (∀ z, z ∈ ys ↔ z ∈ xs) → H1 p = none → Q (.ref p) (upd H1 p (.lst (ys.map V.str)))
theorem pe_sortSet {e : Expr} {ta : TE} {p1 p2 p3 p4 : Pos} (calm : X.calm = true) (g1 : Gl X "sorted") (m1 : X.mg "sorted" = none) (g2 : Gl X "set") (m2 : X.mg "set" = none) (he : PE X e ta)
    (one : starEach [e] X.env = (false, eval e X.env) :: starEach [] X.env := by rfl) : PE X (.Call (.Name "sorted" p1) [.Call (.Name "set" p2) [e] [] p3] [] p4) (tSortSet X.K ta) := by
  refine ⟨fun held s σ H Q I pre => Call_ (ld_blt I g1 m1 (show bootBuiltins "sorted" = some (.builtin "sorted") by decide +kernel) (callWith_builtin1 (args_cons (Call_ (ld_blt I g2 m2 (show bootBuiltins "set" = some (.type "set") by decide +kernel) (callWith_type1 (args_cons (thn (he.run held s σ H _ I pre) fun u s1 gives => args_nil ?_) one) one rfl))) rfl) rfl rfl))⟩
  obtain ⟨v, H1, I1, rel, l, xs, rfl, isL, few, q⟩ := gives
  cases (show u = Value.ref l from rel)
  obtain ⟨its, rv, hl, _⟩ := I1.list isL
  have bound : xs.length + 1 < scanBound := Nat.lt_of_le_of_lt (Nat.succ_le_succ few) (by decide)
  have hh : X.A.handled = none := I1.ok.hd calm
  refine set_of_txts hh hl.isList (by simpa using strsOf rv) bound fun h' tk up kept => args_nil ?_
  obtain ⟨ms, tr, mem, le⟩ := up
  rw [List.take_of_length_le (Nat.le_refl _)] at mem
  have lms : ms.length < scanBound := Nat.lt_of_le_of_lt le (Nat.lt_of_succ_lt bound)
  refine sorted_txts (s := { s1 with heap := h', toks := tk }) tr lms hh fun s' p out c ys kept2 gens os bigger atS isY perm srt => ?_
  have old : ∀ b o, s1.heap.get? b = some o → s'.heap.get? b = some o := fun b o q => kept2 b o (kept b o q)
  obtain ⟨_, atD, _⟩ := id tr.ex
  have ge : s1.heap.objs.size ≤ p := Nat.le_trans (Nat.le_of_lt (Heap.lt_size atD)) bigger
  have free : H1 p = none := I1.hok.fresh ge
  have len : (ys.map V.str).length ≤ sizeLine := by
    rw [List.length_map, perm.length_eq]
    exact Nat.le_trans (Nat.le_of_lt lms) (by rw [sizeLine_eq]; decide)
  have J : Inv X held σ (upd H1 p (.lst (ys.map V.str))) { s1 with heap := s'.heap, gens := s'.gens, drawn := s'.drawn, toks := s'.toks } :=
    I1.call (ch := []) (Un.laid old ge free) (I1.hok.laid old ge ⟨len, out.toList, c, vals_of_strs isY, atS⟩) (by rw [gens]; exact I1.bare) (fun _ z => nomatch z)
  have same : s' = { s1 with heap := s'.heap, gens := s'.gens, drawn := s'.drawn, toks := s'.toks } := by
    obtain ⟨a1, a2, a3, a4, a5⟩ := s'
    obtain rfl : a5 = s1.os := os
    rfl
  rw [same]
  exact ⟨.ref p, _, J, rfl, q ys p (asc_of srt (perm.nodup_iff.mpr tr.nd)) (fun z => (perm.mem_iff).trans (mem z)) free⟩
end
end SC
set_option maxHeartbeats 2000000 -- from here on
/-! sum(..) over a generator expression whose element is any expression of the layer -/
/-! values as data: documents that are drawn, and what is spoilt in them; x * n of texts, t[::-1] of tuples -/
namespace SC
open PySem L2
mutual
/-- a value of the tracked heap, as data -/
inductive Rq (H : Hp) : V → PyData → Prop
  | non : Rq H .non .none
  | bl (b : Bool) : Rq H (.bl b) (.bool b)
  | int (i : Int) : Rq H (.int i) (.int i)
  | str (z : Str) : Rq H (.str z) (.str z)
  | lst {a : Addr} {xs : List V} {ds : List PyData} : H a = some (.lst xs) → RqA H xs ds → Rq H (.ref a) (.list ds)
  | tup {a : Addr} {xs : List V} {ds : List PyData} : H a = some (.tup xs) → RqA H xs ds → Rq H (.ref a) (.tuple ds)
inductive RqA (H : Hp) : List V → List PyData → Prop
  | nil : RqA H [] []
  | cons {v : V} {vs : List V} {d : PyData} {ds : List PyData} : Rq H v d → RqA H vs ds → RqA H (v :: vs) (d :: ds)
end
def tyD : PyData → String
  | .none => "NoneType" | .bool _ => "bool" | .int _ => "int" | .str _ => "str" | .list _ => "list" | .tuple _ => "tuple" | .dict _ => "dict"
theorem Rq.ty {H : Hp} {v : V} {d : PyData} (h : Rq H v d) : tyN H v = some (tyD d) := by
  cases h with
  | lst e _ => exact tyN_lst e
  | tup e _ => exact tyN_tup e
  | _ => rfl
theorem Rq.tyx {H : Hp} {v : V} {d : PyData} (h : Rq H v d) : ∃ t, tyN H v = some t := ⟨_, h.ty⟩
theorem RqA.len {H : Hp} : ∀ {xs : List V} {ds : List PyData}, RqA H xs ds → xs.length = ds.length
  | _, _, .nil => rfl
  | _, _, .cons _ h => congrArg (· + 1) h.len
theorem RqA.app {H : Hp} : ∀ {xs ys : List V} {ds es : List PyData}, RqA H xs ds → RqA H ys es → RqA H (xs ++ ys) (ds ++ es)
  | _, _, _, _, .nil, h => h
  | _, _, _, _, .cons a b, h => .cons a (b.app h)
theorem RqA.get {H : Hp} : ∀ {xs : List V} {ds : List PyData} {i : Nat} {x : V}, RqA H xs ds → xs[i]? = some x → ∃ d, ds[i]? = some d ∧ Rq H x d
  | _, _, _, _, .nil, h => by simp at h
  | _, _, 0, _, .cons a _, h => by
    have e := Option.some.inj h
    subst e
    exact ⟨_, rfl, a⟩
  | _, _, i + 1, _, .cons _ b, h => b.get (i := i) h
theorem RqA.at {H : Hp} {xs : List V} {ds : List PyData} (r : RqA H xs ds) {i : Nat} (h : i < ds.length) : ∃ x, xs[i]? = some x ∧ Rq H x (ds.getD i .none) := by
  obtain ⟨d, e, q⟩ := r.get (i := i) (x := xs[i]'(by rw [r.len]; exact h)) (List.getElem?_eq_getElem _)
  refine ⟨_, List.getElem?_eq_getElem (by rw [r.len]; exact h), ?_⟩
  rw [List.getD_eq_getElem?_getD, e]
  exact q
theorem RqA.ix {H : Hp} {xs : List V} {ds : List PyData} (r : RqA H xs ds) {i : Nat} (h : i < ds.length) : ∃ x, atI xs (i : Int) = some x ∧ Rq H x (ds.getD i .none) :=
  let ⟨x, e, q⟩ := r.at h
  ⟨x, atI_nat e, q⟩
theorem RqA.take {H : Hp} : ∀ {xs : List V} {ds : List PyData} (n : Nat), RqA H xs ds → RqA H (xs.take n) (ds.take n)
  | _, _, 0, _ => .nil
  | _, _, _ + 1, .nil => .nil
  | _, _, n + 1, .cons a b => .cons a (b.take n)
theorem RqA.drop {H : Hp} : ∀ {xs : List V} {ds : List PyData} (n : Nat), RqA H xs ds → RqA H (xs.drop n) (ds.drop n)
  | _, _, 0, h => h
  | _, _, _ + 1, .nil => .nil
  | _, _, n + 1, .cons _ b => b.drop n
theorem RqA.rev {H : Hp} : ∀ {xs : List V} {ds : List PyData}, RqA H xs ds → RqA H xs.reverse ds.reverse
  | _, _, .nil => .nil
  | _, _, .cons a b => by
    rw [List.reverse_cons, List.reverse_cons]
    exact b.rev.app (.cons a .nil)
mutual
theorem Rq.tabs {Ts : List Addr} {H H' : Hp} (k : Kp Ts H H') (g : Tabs Ts H) : ∀ {v : V} {d : PyData}, Rq H v d → Rq H' v d
  | _, _, .non => .non
  | _, _, .bl b => .bl b
  | _, _, .int i => .int i
  | _, _, .str z => .str z
  | _, _, .lst e r => .lst (k.get g e) (r.tabs k g)
  | _, _, .tup e r => .tup (k.tup _ _ e) (r.tabs k g)
theorem RqA.tabs {Ts : List Addr} {H H' : Hp} (k : Kp Ts H H') (g : Tabs Ts H) : ∀ {vs : List V} {ds : List PyData}, RqA H vs ds → RqA H' vs ds
  | _, _, .nil => .nil
  | _, _, .cons a b => .cons (a.tabs k g) (b.tabs k g)
end
theorem tabs_nil {H : Hp} : Tabs [] H := fun _ m => absurd m List.not_mem_nil
theorem Rq.kp0 {H H' : Hp} {v : V} {d : PyData} (h : Rq H v d) (k : Kp [] H H') : Rq H' v d := h.tabs k tabs_nil
theorem RqA.kp0 {H H' : Hp} {v : List V} {d : List PyData} (h : RqA H v d) (k : Kp [] H H') : RqA H' v d := h.tabs k tabs_nil
mutual
theorem Rq.dp {K : PySem.W.Frag} {H : Hp} : ∀ {v : V} {d : PyData}, Rq H v d → Dp K H v d
  | _, _, .non => .non
  | _, _, .bl b => .bl b
  | _, _, .int i => .int i
  | _, _, .str z => .str z
  | _, _, .lst e r => .lst (SqL.of e) r.dp
  | _, _, .tup e r => .tup (SqT.of e) r.dp
theorem RqA.dp {K : PySem.W.Frag} {H : Hp} : ∀ {vs : List V} {ds : List PyData}, RqA H vs ds → DpAll K H vs ds
  | _, _, .nil => .nil
  | _, _, .cons a b => .cons a.dp b.dp
end
mutual
/-- sizes of what is spoilt -/
def okD (n : Nat) : PyData → Bool
  | .none => true
  | .bool _ => true
  | .int i => decide (-99999999999999999999 ≤ i) && decide (i ≤ 99999999999999999999)
  | .str z => decide (z.length ≤ 200000) && PyData.strOk z
  | .list ds => match n with
    | 0 => false
    | m + 1 => decide (ds.length ≤ 200000) && okDs m ds
  | .tuple ds => match n with
    | 0 => false
    | m + 1 => decide (ds.length ≤ 200000) && okDs m ds
  | .dict _ => false
def okDs (n : Nat) : List PyData → Bool
  | [] => true
  | d :: ds => okD n d && okDs n ds
end
mutual
/-- what a law draws: ints, texts, tuples -/
def inD (n : Nat) : PyData → Bool
  | .int i => decide (0 ≤ i) && decide (i ≤ 1000000000000)
  | .str z => decide (z.length ≤ 100) && z.cps.toList.all fun c => decide (c < 128)
  | .tuple ds => match n with
    | 0 => false
    | m + 1 => decide (ds.length ≤ 100) && inDs m ds
  | _ => false
def inDs (n : Nat) : List PyData → Bool
  | [] => true
  | d :: ds => inD n d && inDs n ds
end
theorem okDs_all {n : Nat} : ∀ {ds : List PyData}, okDs n ds = true ↔ ∀ d ∈ ds, okD n d = true
  | [] => ⟨fun _ d m => absurd m List.not_mem_nil, fun _ => rfl⟩
  | d :: ds => by
    show (okD n d && okDs n ds) = true ↔ _
    rw [Bool.and_eq_true, okDs_all (ds := ds), List.forall_mem_cons]
theorem inDs_all {n : Nat} : ∀ {ds : List PyData}, inDs n ds = true ↔ ∀ d ∈ ds, inD n d = true
  | [] => ⟨fun _ d m => absurd m List.not_mem_nil, fun _ => rfl⟩
  | d :: ds => by
    show (inD n d && inDs n ds) = true ↔ _
    rw [Bool.and_eq_true, inDs_all (ds := ds), List.forall_mem_cons]
theorem okD_tup {n : Nat} {ds : List PyData} : okD (n + 1) (.tuple ds) = true ↔ ds.length ≤ 200000 ∧ ∀ d ∈ ds, okD n d = true := by
  show (decide (ds.length ≤ 200000) && okDs n ds) = true ↔ _
  rw [Bool.and_eq_true, decide_eq_true_eq, okDs_all]
theorem okD_lst {n : Nat} {ds : List PyData} : okD (n + 1) (.list ds) = true ↔ ds.length ≤ 200000 ∧ ∀ d ∈ ds, okD n d = true := by
  show (decide (ds.length ≤ 200000) && okDs n ds) = true ↔ _
  rw [Bool.and_eq_true, decide_eq_true_eq, okDs_all]
theorem inD_tup {n : Nat} {ds : List PyData} : inD (n + 1) (.tuple ds) = true ↔ ds.length ≤ 100 ∧ ∀ d ∈ ds, inD n d = true := by
  show (decide (ds.length ≤ 100) && inDs n ds) = true ↔ _
  rw [Bool.and_eq_true, decide_eq_true_eq, inDs_all]
theorem okD_str {n : Nat} {z : Str} : okD n (.str z) = true ↔ z.length ≤ 200000 ∧ PyData.strOk z = true := by
  rw [show okD n (.str z) = (decide (z.length ≤ 200000) && PyData.strOk z) by cases n <;> rfl, Bool.and_eq_true, decide_eq_true_eq]
theorem okD_int {n : Nat} {i : Int} : okD n (.int i) = true ↔ -99999999999999999999 ≤ i ∧ i ≤ 99999999999999999999 := by
  rw [show okD n (.int i) = (decide (-99999999999999999999 ≤ i) && decide (i ≤ 99999999999999999999)) by cases n <;> rfl, Bool.and_eq_true, decide_eq_true_eq, decide_eq_true_eq]
theorem inD_str {n : Nat} {z : Str} : inD n (.str z) = true ↔ z.length ≤ 100 ∧ ∀ c ∈ z.cps.toList, c < 128 := by
  rw [show inD n (.str z) = (decide (z.length ≤ 100) && z.cps.toList.all fun c => decide (c < 128)) by cases n <;> rfl, Bool.and_eq_true, decide_eq_true_eq, List.all_eq_true]
  simp only [decide_eq_true_eq]
theorem inD_int {n : Nat} {i : Int} : inD n (.int i) = true ↔ 0 ≤ i ∧ i ≤ 1000000000000 := by
  rw [show inD n (.int i) = (decide (0 ≤ i) && decide (i ≤ 1000000000000)) by cases n <;> rfl, Bool.and_eq_true, decide_eq_true_eq, decide_eq_true_eq]
theorem strOk_low {z : Str} (h : ∀ c ∈ z.cps.toList, c < 128) : PyData.strOk z = true := by
  unfold PyData.strOk
  rw [← Array.all_toList, List.all_eq_true]
  exact fun c hc => decide_eq_true (Nat.lt_of_lt_of_le (h c hc) (by decide))
mutual
theorem in_ok : ∀ (n : Nat) (d : PyData), inD n d = true → okD n d = true
  | n, .int i, h => okD_int.mpr (by have := inD_int.mp h; omega)
  | n, .str z, h => okD_str.mpr ⟨by have := (inD_str.mp h).1; omega, strOk_low (inD_str.mp h).2⟩
  | 0, .tuple _, h => by cases h
  | n + 1, .tuple ds, h => by
    have q : (decide (ds.length ≤ 100) && inDs n ds) = true := h
    rw [Bool.and_eq_true, decide_eq_true_eq] at q
    show (decide (ds.length ≤ 200000) && okDs n ds) = true
    rw [decide_eq_true (by omega), ins_ok n ds q.2]; rfl
  | n, .none, h => by cases n <;> cases h
  | n, .bool _, h => by cases n <;> cases h
  | n, .list _, h => by cases n <;> cases h
  | n, .dict _, h => by cases n <;> cases h
theorem ins_ok : ∀ (n : Nat) (ds : List PyData), inDs n ds = true → okDs n ds = true
  | _, [], _ => rfl
  | n, d :: ds, h => by
    have h : (inD n d && inDs n ds) = true := h
    rw [Bool.and_eq_true] at h
    show (okD n d && okDs n ds) = true
    rw [in_ok n d h.1, ins_ok n ds h.2]; rfl
end
mutual
theorem ok_mono : ∀ (n m : Nat) (d : PyData), n ≤ m → okD n d = true → okD m d = true
  | n, m, .int i, _, h => okD_int.mpr (okD_int.mp h)
  | n, m, .str z, _, h => okD_str.mpr (okD_str.mp h)
  | _, m, .none, _, _ => by cases m <;> rfl
  | _, m, .bool _, _, _ => by cases m <;> rfl
  | 0, _, .tuple _, _, h => by cases h
  | 0, _, .list _, _, h => by cases h
  | n + 1, 0, .tuple _, q, _ => by omega
  | n + 1, 0, .list _, q, _ => by omega
  | n + 1, m + 1, .tuple ds, q, h => by
    have z : (decide (ds.length ≤ 200000) && okDs n ds) = true := h
    rw [Bool.and_eq_true] at z
    show (decide (ds.length ≤ 200000) && okDs m ds) = true
    rw [z.1, oks_mono n m ds (by omega) z.2]; rfl
  | n + 1, m + 1, .list ds, q, h => by
    have z : (decide (ds.length ≤ 200000) && okDs n ds) = true := h
    rw [Bool.and_eq_true] at z
    show (decide (ds.length ≤ 200000) && okDs m ds) = true
    rw [z.1, oks_mono n m ds (by omega) z.2]; rfl
  | n, _, .dict _, _, h => by cases n <;> cases h
theorem oks_mono : ∀ (n m : Nat) (ds : List PyData), n ≤ m → okDs n ds = true → okDs m ds = true
  | _, _, [], _, _ => rfl
  | n, m, d :: ds, q, h => by
    have h : (okD n d && okDs n ds) = true := h
    rw [Bool.and_eq_true] at h
    show (okD m d && okDs m ds) = true
    rw [ok_mono n m d q h.1, oks_mono n m ds q h.2]; rfl
end
mutual
theorem ok_lay : ∀ (n : Nat) (d : PyData), okD n d = true → PyData.canLay0 d = true ∧ PyData.depth d ≤ n
  | n, .int _, _ => ⟨by simp [PyData.canLay0], by simp [PyData.depth]⟩
  | n, .str z, h => ⟨by simp [PyData.canLay0, (okD_str.mp h).2], by simp [PyData.depth]⟩
  | n, .none, _ => ⟨by simp [PyData.canLay0], by simp [PyData.depth]⟩
  | n, .bool _, _ => ⟨by simp [PyData.canLay0], by simp [PyData.depth]⟩
  | 0, .tuple _, h => by cases h
  | 0, .list _, h => by cases h
  | n + 1, .tuple ds, h => by
    have z : (decide (ds.length ≤ 200000) && okDs n ds) = true := h
    rw [Bool.and_eq_true] at z
    obtain ⟨a, b⟩ := oks_lay n ds z.2
    exact ⟨by simp [PyData.canLay0, a], by simp only [PyData.depth]; omega⟩
  | n + 1, .list ds, h => by
    have z : (decide (ds.length ≤ 200000) && okDs n ds) = true := h
    rw [Bool.and_eq_true] at z
    obtain ⟨a, b⟩ := oks_lay n ds z.2
    exact ⟨by simp [PyData.canLay0, a], by simp only [PyData.depth]; omega⟩
  | n, .dict _, h => by cases n <;> cases h
theorem oks_lay : ∀ (n : Nat) (ds : List PyData), okDs n ds = true → PyData.canLayAll0 ds = true ∧ PyData.depthAll ds ≤ n
  | n, [], _ => ⟨by simp [PyData.canLayAll0], by simp [PyData.depthAll]⟩
  | n, d :: ds, h => by
    have h : (okD n d && okDs n ds) = true := h
    rw [Bool.and_eq_true] at h
    obtain ⟨a1, a2⟩ := ok_lay n d h.1
    obtain ⟨b1, b2⟩ := oks_lay n ds h.2
    exact ⟨by simp [PyData.canLayAll0, a1, b1], by simp only [PyData.depthAll]; omega⟩
end
theorem ok_shaped {n : Nat} {d : PyData} (h : okD n d = true) (hn : n ≤ 64) : SeqAt.shaped d = true := by
  obtain ⟨a, b⟩ := ok_lay n d h
  unfold SeqAt.shaped
  rw [a, decide_eq_true (by omega)]; rfl
mutual
theorem Rq.pur {S : List Addr} {H H' : Hp} (k : Kp S H H') : ∀ (n : Nat) {v : V} {d : PyData}, Rq H v d → inD n d = true → Rq H' v d
  | _, _, _, .int i, _ => .int i
  | _, _, _, .str z, _ => .str z
  | 0, _, _, .tup _ _, h => by cases h
  | n + 1, _, _, .tup (ds := ds) e r, h => by
    have z : (decide (ds.length ≤ 100) && inDs n ds) = true := h
    rw [Bool.and_eq_true] at z
    exact .tup (k.tup _ _ e) (r.pur k n z.2)
  | n, _, _, .non, h => by cases n <;> cases h
  | n, _, _, .bl _, h => by cases n <;> cases h
  | n, _, _, .lst _ _, h => by cases n <;> cases h
theorem RqA.pur {S : List Addr} {H H' : Hp} (k : Kp S H H') : ∀ (n : Nat) {vs : List V} {ds : List PyData}, RqA H vs ds → inDs n ds = true → RqA H' vs ds
  | _, _, _, .nil, _ => .nil
  | n, _, _, .cons (d := d) (ds := ds) a b, h => by
    have h : (inD n d && inDs n ds) = true := h
    rw [Bool.and_eq_true] at h
    exact .cons (a.pur k n h.1) (b.pur k n h.2)
end
mutual
/-- no list within -/
def purD : PyData → Bool
  | .list _ => false
  | .dict _ => false
  | .tuple ds => purDs ds
  | _ => true
def purDs : List PyData → Bool
  | [] => true
  | d :: ds => purD d && purDs ds
end
theorem purDs_all : ∀ {ds : List PyData}, purDs ds = true ↔ ∀ d ∈ ds, purD d = true
  | [] => ⟨fun _ d m => absurd m List.not_mem_nil, fun _ => rfl⟩
  | d :: ds => by
    show (purD d && purDs ds) = true ↔ _
    rw [Bool.and_eq_true, purDs_all (ds := ds), List.forall_mem_cons]
theorem purD_tup {ds : List PyData} : purD (.tuple ds) = true ↔ ∀ d ∈ ds, purD d = true := by
  show purDs ds = true ↔ _
  exact purDs_all
mutual
theorem in_pur : ∀ (n : Nat) (d : PyData), inD n d = true → purD d = true
  | _, .int _, _ => rfl
  | _, .str _, _ => rfl
  | 0, .tuple _, h => by cases h
  | n + 1, .tuple ds, h => by
    have q : (decide (ds.length ≤ 100) && inDs n ds) = true := h
    rw [Bool.and_eq_true, decide_eq_true_eq] at q
    exact ins_pur n ds q.2
  | _, .none, _ => rfl
  | _, .bool _, _ => rfl
  | n, .list _, h => by cases n <;> cases h
  | n, .dict _, h => by cases n <;> cases h
theorem ins_pur : ∀ (n : Nat) (ds : List PyData), inDs n ds = true → purDs ds = true
  | _, [], _ => rfl
  | n, d :: ds, h => by
    have h : (inD n d && inDs n ds) = true := h
    rw [Bool.and_eq_true] at h
    show (purD d && purDs ds) = true
    rw [in_pur n d h.1, ins_pur n ds h.2]; rfl
end
mutual
theorem Rq.pure {S : List Addr} {H H' : Hp} (k : Kp S H H') : ∀ {v : V} {d : PyData}, Rq H v d → purD d = true → Rq H' v d
  | _, _, .int i, _ => .int i
  | _, _, .str z, _ => .str z
  | _, _, .non, _ => .non
  | _, _, .bl b, _ => .bl b
  | _, _, .tup e r, h => .tup (k.tup _ _ e) (r.pure k h)
  | _, _, .lst _ _, h => by cases h
theorem RqA.pure {S : List Addr} {H H' : Hp} (k : Kp S H H') : ∀ {vs : List V} {ds : List PyData}, RqA H vs ds → purDs ds = true → RqA H' vs ds
  | _, _, .nil, _ => .nil
  | _, _, .cons (d := d) (ds := ds) a b, h => by
    have h : (purD d && purDs ds) = true := h
    rw [Bool.and_eq_true] at h
    exact .cons (a.pure k h.1) (b.pure k h.2)
end
/-! the parts of a value -/
def tupB (a b : Nat) : PyData → Bool
  | .tuple ds => decide (a ≤ ds.length) && decide (ds.length ≤ b)
  | _ => false
def itD : PyData → List PyData
  | .tuple ds => ds
  | _ => []
def ixD (d : PyData) (i : Nat) : PyData := (itD d).getD i .none
def numB (lo hi : Int) : PyData → Bool
  | .int i => decide (lo ≤ i) && decide (i ≤ hi)
  | _ => false
def strD : PyData → Str
  | .str z => z
  | _ => Str.empty
def isS : PyData → Bool
  | .str _ => true
  | _ => false
def eqS (s : Str) : PyData → Bool
  | .str z => decide (z = s)
  | _ => false
theorem tupB_of {a b : Nat} {H : Hp} {v : V} {d : PyData} (r : Rq H v d) (h : tupB a b d = true) : ∃ (p : Addr) (xs : List V) (ds : List PyData), v = .ref p ∧ H p = some (.tup xs) ∧ d = .tuple ds ∧ RqA H xs ds ∧ a ≤ ds.length ∧ ds.length ≤ b := by
  cases r with
  | tup e r =>
    rename_i p xs ds
    have h : (decide (a ≤ ds.length) && decide (ds.length ≤ b)) = true := h
    rw [Bool.and_eq_true, decide_eq_true_eq, decide_eq_true_eq] at h
    exact ⟨_, _, _, rfl, e, rfl, r, h.1, h.2⟩
  | _ => cases h
theorem isS_of {H : Hp} {v : V} {d : PyData} (r : Rq H v d) (h : isS d = true) : ∃ z, v = .str z ∧ d = .str z := by
  cases r with
  | str z => exact ⟨z, rfl, rfl⟩
  | _ => cases h
theorem numB_of {lo hi : Int} {H : Hp} {v : V} {d : PyData} (r : Rq H v d) (h : numB lo hi d = true) : ∃ i, v = .int i ∧ d = .int i ∧ lo ≤ i ∧ i ≤ hi := by
  cases r with
  | int i =>
    have h : (decide (lo ≤ i) && decide (i ≤ hi)) = true := h
    rw [Bool.and_eq_true, decide_eq_true_eq, decide_eq_true_eq] at h
    exact ⟨i, rfl, rfl, h.1, h.2⟩
  | _ => cases h
theorem rqa_strs {H : Hp} : ∀ {xs : List V} {ds : List PyData}, RqA H xs ds → (∀ d ∈ ds, isS d = true) → xs = (ds.map strD).map V.str
  | _, _, .nil, _ => rfl
  | _, _, .cons a b, h => by
    obtain ⟨z, rfl, rfl⟩ := isS_of a (h _ List.mem_cons_self)
    rw [rqa_strs b fun d m => h d (List.mem_cons_of_mem _ m)]
    rfl
theorem getD_mem {ds : List PyData} {i : Nat} (h : i < ds.length) : ds.getD i .none ∈ ds := by
  rw [List.getD_eq_getElem?_getD, List.getElem?_eq_getElem h]
  exact List.getElem_mem h
/-- all(p(x) for x in a tuple), p a promise -/
theorem all_rq {K : PySem.W.Frag} {Ts : List Addr} {b : Addr} {xs : List V} {ds : List PyData} {f : PyData → Bool} {te : TE} {D : Ends} {H2 : Hp} {o : Option V} {cap : L2.St} (eb : H2 b = some (.tup xs)) (r : RqA H2 xs ds) (g : Tabs Ts H2)
    (step : ∀ (x : V) (d : PyData) (H' : Hp) (R : VK), Rq H' x d → d ∈ ds → Kp Ts H2 H' → Tabs Ts H' → (∀ H'', Kp Ts H' H'' → Tabs Ts H'' → R (.bl (f d)) H'') → te (some x :: cap) H' R)
    (qf : ∀ H', Kp Ts H2 H' → Tabs Ts H' → ds.all f = false → D.rt (.bl false) H') (qt : ∀ σ H', Kp Ts H2 H' → Tabs Ts H' → ds.all f = true → D.nx σ H') :
    tForB (Itt K b) (gName 0) (tbAll tYes te) D (o :: cap) H2 := by
  refine for_tup (K := K) (a := b) (xs := xs) (fun i σ H' => (∃ o : Option V, σ = o :: cap) ∧ Kp Ts H2 H' ∧ Tabs Ts H' ∧ (ds.take i).all f = true)
    ⟨⟨_, rfl⟩, Kp.refl _ _, g, rfl⟩ (fun i σ H' _ ⟨_, k, _, _⟩ => SqT.of (k.get g eb)) (fun i x σ H' hx ⟨⟨o, hσ⟩, k3, g3, ha⟩ => ?_) (fun σ H' ⟨⟨o, hσ⟩, k3, g3, ha⟩ => ?_)
  · subst hσ
    obtain ⟨d, hd, Rd⟩ := r.get hx
    have tk : ds.take (i + 1) = ds.take i ++ [d] := by rw [List.take_add_one, hd]; rfl
    have md := List.mem_of_getElem? hd
    unfold tbAll
    simp only [tYes, if_true, gName, List.set_cons_zero]
    refine step x d H' _ (Rd.tabs k3 g) md k3 g3 fun H4 k4 g4 => ⟨_, rfl, ?_⟩
    cases hb : f d with
    | true =>
      rw [if_pos rfl]
      exact ⟨⟨_, rfl⟩, k3.trans k4, g4, by rw [tk, List.all_append, ha]; simp [hb]⟩
    | false =>
      rw [if_neg (by decide)]
      have e : ds.all f = false := by
        rw [List.all_eq_false]
        exact ⟨d, md, by rw [hb]; decide⟩
      exact qf H4 (k3.trans k4) g4 e
  · rw [r.len, List.take_length] at ha
    exact qt _ H' k3 g3 ha
section
variable {X : Cx}
/-- x * n of a text -/
theorem op_mulN8 : OpR X (binaryOp .Mult) (fun x y H Q => ∃ (z : Str) (n : Int), x = .str z ∧ y = .int n ∧ z.length ≤ 1000 ∧ 2 ≤ n ∧ n ≤ 1000 ∧ ∀ u : Str, u.length ≤ z.length * n.toNat → (∀ c ∈ u.cps.toList, c ∈ z.cps.toList) → Q (.str u) H) := by
  intro pins s σ H x y v u Q I rx ry h
  obtain ⟨z, n, rfl, rfl, hz, n0, n1, q⟩ := h
  obtain ⟨t, rfl⟩ := rx
  obtain ⟨t', rfl⟩ := ry
  have fold : ∀ (k : Nat) (a : Array Nat), ((List.replicate k z.cps).foldl (· ++ ·) a).toList = a.toList ++ (List.replicate k z.cps.toList).flatten := by
    intro k
    induction k with
    | zero => intro a; simp
    | succ k ih => intro a; rw [List.replicate_succ, List.foldl_cons, ih, Array.toList_append, List.replicate_succ, List.flatten_cons, List.append_assoc]
  refine PySem.SB.mul (PyProof.Rows.mulOk_of 1000 1000 hz (by omega) (by omega) (by decide) (by decide)) fun t' k => ⟨.str _, H, I.tok _, ⟨_, rfl⟩, q _ ?_ ?_⟩
  · have e := PyProof.Rows.len_mul z n
    rw [decide_eq_false (by omega)] at e
    have e : ((Txt.mul z n).length : Int) = (z.length : Int) * n := e
    have : n = (n.toNat : Int) := by omega
    rw [this] at e
    have e : (Txt.mul z (n.toNat : Int)).length = z.length * n.toNat := by exact_mod_cast e
    rw [← this] at e
    omega
  · intro c hc
    unfold Txt.mul at hc
    rw [if_neg (by omega)] at hc
    split at hc
    · exact hc
    · rw [fold] at hc
      simp only [List.nil_append, List.mem_flatten, List.mem_replicate] at hc
      obtain ⟨l, ⟨_, e⟩, m⟩ := hc
      rw [e] at m; exact m
end
end SC
namespace SC
open PySem L2
theorem rq2 {H : Hp} {xs : List V} {ds : List PyData} (r : RqA H xs ds) (l : ds.length = 2) : ∃ x0 x1 d0 d1, xs = [x0, x1] ∧ ds = [d0, d1] ∧ Rq H x0 d0 ∧ Rq H x1 d1 := by
  cases r with
  | nil => cases l
  | cons a r =>
  cases r with
  | nil => cases l
  | cons b r =>
  cases r with
  | nil => exact ⟨_, _, _, _, rfl, rfl, a, b⟩
  | cons c r => simp at l
theorem rq3 {H : Hp} {xs : List V} {ds : List PyData} (r : RqA H xs ds) (l : ds.length = 3) : ∃ x0 x1 x2 d0 d1 d2, xs = [x0, x1, x2] ∧ ds = [d0, d1, d2] ∧ Rq H x0 d0 ∧ Rq H x1 d1 ∧ Rq H x2 d2 := by
  cases r with
  | nil => cases l
  | cons a r =>
    obtain ⟨x0, x1, d0, d1, rfl, rfl, b, c⟩ := rq2 r (by simpa using l)
    exact ⟨_, _, _, _, _, _, rfl, rfl, a, b, c⟩
theorem rq4 {H : Hp} {xs : List V} {ds : List PyData} (r : RqA H xs ds) (l : ds.length = 4) : ∃ x0 x1 x2 x3 d0 d1 d2 d3, xs = [x0, x1, x2, x3] ∧ ds = [d0, d1, d2, d3] ∧ Rq H x0 d0 ∧ Rq H x1 d1 ∧ Rq H x2 d2 ∧ Rq H x3 d3 := by
  cases r with
  | nil => cases l
  | cons a r =>
    obtain ⟨x0, x1, x2, d0, d1, d2, rfl, rfl, b, c, d⟩ := rq3 r (by simpa using l)
    exact ⟨_, _, _, _, _, _, _, _, rfl, rfl, a, b, c, d⟩
theorem rq6 {H : Hp} {xs : List V} {ds : List PyData} (r : RqA H xs ds) (l : ds.length = 6) : ∃ x0 x1 x2 x3 x4 x5 d0 d1 d2 d3 d4 d5, xs = [x0, x1, x2, x3, x4, x5] ∧ ds = [d0, d1, d2, d3, d4, d5] ∧ Rq H x0 d0 ∧ Rq H x1 d1 ∧ Rq H x2 d2 ∧ Rq H x3 d3 ∧ Rq H x4 d4 ∧ Rq H x5 d5 := by
  cases r with
  | nil => cases l
  | cons a r =>
  cases r with
  | nil => cases l
  | cons b r =>
    obtain ⟨x0, x1, x2, x3, d0, d1, d2, d3, rfl, rfl, c, d, e, f⟩ := rq4 r (by simpa using l)
    exact ⟨_, _, _, _, _, _, _, _, _, _, _, _, rfl, rfl, a, b, c, d, e, f⟩
theorem atI_memQ {xs : List V} {i : Int} (h0 : 0 ≤ i) (h1 : i < (xs.length : Nat)) : ∃ x, atI xs i = some x ∧ x ∈ xs := by
  obtain ⟨x, hx⟩ : ∃ x, xs[i.toNat]? = some x := ⟨_, List.getElem?_eq_getElem (by omega)⟩
  refine ⟨x, ?_, List.mem_of_getElem? hx⟩
  rw [show i = ((i.toNat : Nat) : Int) by omega]
  exact atI_nat hx
/-- t + u -/
theorem cat_q {K : PySem.W.Frag} {H : Hp} {a b : Addr} {xs ys : List V} {Q : VK} (e : H a = some (.tup xs)) (e2 : H b = some (.tup ys)) (hl : xs.length + ys.length ≤ sizeLine)
    (q : ∀ (z : Addr) (H' : Hp), Kp [] H H' → H' z = some (.tup (xs ++ ys)) → Q (.ref z) H') : rCatA K (.ref a) (.ref b) H Q :=
  ⟨a, b, xs, ys, rfl, rfl, SqT.of e, SqT.of e2, hl, fun h => q b H (Kp.refl _ _) (by rw [h]; exact e2), fun _ h => q a H (Kp.refl _ _) (by rw [h, List.append_nil]; exact e), fun _ _ d hd => q d _ (Kp.new hd _) upd_same⟩
/-- t[lo:hi] -/
theorem sl_q {K : PySem.W.Frag} {H : Hp} {a : Addr} {xs : List V} {lo hi : Option Int} {Q : VK} (e : H a = some (.tup xs)) (q : ∀ (z : Addr) (H' : Hp), Kp [] H H' → H' z = some (.tup (cutV xs lo hi)) → Q (.ref z) H') : rSlA K (.ref a) lo hi H Q := by
  refine ⟨a, xs, rfl, SqT.of e, fun h => q a H (Kp.refl _ _) ?_, fun _ d hd => q d _ (Kp.new hd _) upd_same⟩
  rw [e]
  unfold cutV
  rw [h.1, h.2, List.drop_zero, Nat.sub_zero, List.take_length]
def cutD (ds : List PyData) (lo hi : Option Int) : List PyData := (ds.drop (HT.sIx ds.length 0 lo)).take (HT.sIx ds.length ds.length hi - HT.sIx ds.length 0 lo)
theorem RqA.cut {H : Hp} {xs : List V} {ds : List PyData} (r : RqA H xs ds) (lo hi : Option Int) : RqA H (cutV xs lo hi) (cutD ds lo hi) := by
  unfold cutV cutD
  rw [r.len]
  exact (r.drop _).take _
theorem cutD_mem {ds : List PyData} {lo hi : Option Int} {d : PyData} (h : d ∈ cutD ds lo hi) : d ∈ ds := List.mem_of_mem_drop (List.mem_of_mem_take h)
theorem cutD_len (ds : List PyData) (lo hi : Option Int) : (cutD ds lo hi).length ≤ ds.length := by
  unfold cutD
  rw [List.length_take, List.length_drop]; omega
end SC
/-! t[::-1] of a tuple -/
namespace SC
open PySem PySem.Spec PyProof.Rows HT L2
section
variable {prog : Program} {w : World} {A : Around} {E : Value → Shared → Prop} {s : Shared}
theorem adjust_rev (n : Nat) : Builtin.Slice.sliceAdjust none none (-1) (n : Int) = ((n : Int) - 1, -1) := by
  unfold Builtin.Slice.sliceAdjust
  rfl
theorem places_rev (n : Nat) : Builtin.Slice.slicePlaces ((n : Int) - 1) (-1) (-1) = n := by
  unfold Builtin.Slice.slicePlaces
  have h1 : ¬ ((-1 : Int) > 0) := by decide
  simp only [h1, if_false]
  by_cases h : (n : Int) - 1 > -1
  · rw [if_pos h, show (- -1 : Int) = 1 by decide, Int.ediv_one]; omega
  · rw [if_neg h]; omega
theorem sliceApplied_rev {sl : Addr} {vl vu vs : Value} {n : Nat} {Q : Int × Int × Nat → Shared → Prop} (hs : s.heap.IsSliceOf sl vl vu vs) (pl : IsPart vl none) (pu : IsPart vu none) (ps : IsPart vs (some (-1)))
    (h : Q ((n : Int) - 1, -1, n) s) : wpAny (model prog w) A (Builtin.Slice.sliceApplied (.ref sl) (pure (n : Int))) Q E s := by
  obtain ⟨os, hos, hcs, hds⟩ := id hs
  unfold Builtin.Slice.sliceApplied Builtin.Slice.sliceFields
  refine wpAny_bind (wpAny_bind (wpAny_field hos hds (x := vl) rfl (wpAny_bind (wpAny_field hos hds (x := vu) rfl (wpAny_bind (wpAny_field hos hds (x := vs) rfl (wpAny_pure ?_)))))))
  refine wpAny_bind (slicePart_ ps ?_)
  show wpAny _ _ (if ((-1 : Int) == 0) = true then _ else _) _ _ s
  rw [if_neg (by decide)]
  refine wpAny_bind (slicePart_ pl (wpAny_bind (slicePart_ pu (wpAny_bind (wpAny_pure ?_)))))
  show wpAny _ _ (match Builtin.Slice.sliceAdjust none none (-1) (n : Int) with | (lo, hi) => pure (lo, (-1 : Int), Builtin.Slice.slicePlaces lo hi (-1))) _ _ s
  rw [adjust_rev n]
  show wpAny _ _ (pure ((n : Int) - 1, (-1 : Int), Builtin.Slice.slicePlaces ((n : Int) - 1) (-1) (-1))) _ _ s
  rw [places_rev]
  exact wpAny_pure h
theorem fm_congr {α β : Type} {f g : α → Option β} : ∀ {l : List α}, (∀ a ∈ l, f a = g a) → l.filterMap f = l.filterMap g
  | [], _ => rfl
  | a :: l, h => by
    rw [List.filterMap_cons, List.filterMap_cons, h a List.mem_cons_self, fm_congr fun b m => h b (List.mem_cons_of_mem _ m)]
theorem pick_rev (xs : Array Value) : ((List.range xs.size).filterMap fun (m : Nat) => xs[(((xs.size : Int) - 1) + (m : Int) * -1).toNat]?).toArray = xs.toList.reverse.toArray := by
  have e : (List.range xs.size).filterMap (fun (m : Nat) => xs[(((xs.size : Int) - 1) + (m : Int) * -1).toNat]?) = ((List.range xs.size).map fun k => xs.size - 1 - k).filterMap (xs[·]?) := by
    rw [List.filterMap_map]
    refine fm_congr fun k hk => ?_
    have := List.mem_range.mp hk
    have e2 : (((xs.size : Int) - 1) + (k : Int) * -1).toNat = xs.size - 1 - k := by omega
    show xs[(((xs.size : Int) - 1) + (k : Int) * -1).toNat]? = xs[xs.size - 1 - k]?
    rw [e2]
  rw [e, PySem.W.krv_range, List.filterMap_reverse, PySem.W.krv_all]
theorem getItem_tuple_rev {t sl : Addr} {items : Array Value} {vl vu vs : Value} {Q : Value → Shared → Prop} (ht : IsTup s.heap t items) (hs : s.heap.IsSliceOf sl vl vu vs) (pl : IsPart vl none) (pu : IsPart vu none) (ps : IsPart vs (some (-1)))
    (h : Q (.ref s.heap.objs.size) { s with heap := s.heap.push { cls := .type "tuple", data := .seq items.toList.reverse.toArray } })
    (hsz : items.size ≤ sizeLine) : wpAny (model prog w) A (getItem (.ref t) (.ref sl)) Q E s := by
  have htake : sizeOk (.seq items.toList.reverse.toArray) := by
    show items.toList.reverse.toArray.size ≤ sizeLine
    rw [List.size_toArray, List.length_reverse, Array.length_toList]
    exact hsz
  obtain ⟨os, hos, hcs, hds⟩ := id hs
  have hTs : s.TypeIs (.ref sl) "slice" := ⟨os, hos, hcs⟩
  unfold getItem
  try with_reducible refine wpAny_holding ?_
  first | refine wpAny_bind (wpAny_pure ?_) | skip
  refine wpAny_bind (wpAny_sequenceKey ht.typeIs (by decide) ?_)
  refine wpAny_bind (wpAny_callSpecial?_slot (name := Str.ofString "__getitem__") ht.typeIs PyProof.Rows.slot_tuple_getitem
    (wpAny_call_entry PyProof.Rows.slot_tuple_getitem ht.typeIs entry_tuple_getitem ?_ (args_tuple_getitem _ _)))
  show wpAny _ _ (Builtin.Tuple.tupleItemsOf (.ref t) >>= _) _ _ s
  refine wpAny_bind (tupleItemsOf_ ht ?_)
  refine wpAny_bind (wpAny_typeOf hTs ?_)
  rw [if_pos (by decide)]
  refine wpAny_bind (sliceApplied_rev hs pl pu ps ?_)
  show wpAny _ _ (if (((items.size : Int) - 1) == 0 && (-1 : Int) == 1 && items.size == items.size) = true then _ else _) _ _ s
  rw [if_neg (by
    rw [show ((-1 : Int) == 1) = false by decide, Bool.and_false, Bool.false_and]
    decide), pick_rev]
  first
    | exact wpAny_bind (m := Builtin.Tuple.tupleExact _) (wpAny_newObj_type (wpAny_pure ⟨_, rfl, wpAny_pure h⟩) htake)
    | exact wpAny_bind (m := Builtin.Tuple.tupleExact _) (wpAny_newObj_type (wpAny_bind (wpAny_pure (wpAny_pure ⟨_, rfl, wpAny_pure h⟩))) htake)
    | exact wpAny_bind (wpAny_bind (m := Builtin.Tuple.tupleExact _) (wpAny_newObj_type (wpAny_pure (wpAny_pure ⟨_, rfl, wpAny_pure h⟩)) htake))
    | exact wpAny_bind (wpAny_bind (m := Builtin.Tuple.tupleExact _) (wpAny_newObj_type (wpAny_pure ⟨_, rfl, wpAny_pure h⟩) htake))
end
section
variable {X : Cx}
def tRevT (K : PySem.W.Frag) (te : TE) : TE := fun σ H Q => te σ H fun x H1 => ∃ a xs, x = .ref a ∧ SqT K H1 a xs ∧ ∀ p, H1 p = none → Q (.ref p) (upd H1 p (.tup xs.reverse))
theorem pe_revT {e : Expr} {te : TE} {k : Nat} {p1 p2 p3 pos : Pos} (he : PE X e te) : PE X (.Subscript e (.Slice none none (some (.UnaryOp .USub (.Constant (.int 1) k p1) p2)) p3) pos) (tRevT X.K te) := by
  refine ⟨fun pins s σ H Q I h => ?_⟩
  refine Subscript_ (thn (he.run pins s σ H _ I h) fun v s1 ⟨x, H1, I1, r1, q1⟩ => ?_)
  obtain ⟨a, xs, ex, hx, q⟩ := q1
  subst ex
  cases r1
  have hst : PO X (some (.UnaryOp .USub (.Constant (.int 1) k p1) p2)) (tPart (tUn (rU fun i => .int (-i)) (tC (.int 1)))) := po_some (pe_un un_neg pe_int)
  refine wpAny_Slice (thn (po_none.run pins s1 σ H1 (fun o H2 => o = none ∧ H2 = H1) I1 ⟨rfl, rfl⟩) fun vl s2 ⟨l, H2, I2, pl, el, e2⟩ => ?_)
  subst el e2
  refine thn (po_none.run pins s2 σ H2 (fun o H3 => o = none ∧ H3 = H2) I2 ⟨rfl, rfl⟩) fun vu s3 ⟨u, H3, I3, pu, eu, e3⟩ => ?_
  subst eu e3
  refine thn (hst.run pins s3 σ H3 (fun o H4 => o = some (-1) ∧ H4 = H3) I3 ⟨1, rfl, -1, rfl, rfl, rfl⟩) fun vs s4 ⟨o, H4, I4, ps, eo, e4⟩ => ?_
  subst eo e4
  have I5 : Inv X pins σ H4 { s4 with heap := s4.heap.push { cls := .type "slice", data := .fields #[vl, vu, vs] } } := I4.kept (t' := s4.toks) fun b ob q => Heap.get?_push_of_some _ q
  obtain ⟨its, r, ht, hz⟩ := I5.tuple hx
  have hlen := r.length
  show wpAny (model X.prog X.w) X.A (subscriptTail e (.Slice none none (some (.UnaryOp .USub (.Constant (.int 1) k p1) p2)) p3) (.ref a) (.ref s4.heap.objs.size)) (EP X pins σ Q) X.xe { s4 with heap := s4.heap.push { cls := .type "slice", data := .fields #[vl, vu, vs] } }
  refine tail_any (ops := [.ref a, .ref s4.heap.objs.size]) ht.typeIs (PyProof.Rows.slot_tuple_getitem.lookup) ?_ (by with_unfolding_all rfl)
  refine getItem_tuple_rev ht (Heap.IsSliceOf.new _ vl vu vs) pl pu ps ?_ (by rw [List.size_toArray]; omega)
  refine ⟨.ref _, _, I5.laid (t' := s4.toks) (o := .tup xs.reverse) (fun b ob q => Heap.get?_push_of_some _ q) (Nat.le_refl _) ?_, rfl, q _ (I5.hok.fresh (Nat.le_refl _))⟩
  exact ⟨by rw [List.length_reverse]; exact hz, _, r.reverse, IsTup.new _ _⟩
end
theorem upper_mem {z : Str} {c : Nat} (h : c ∈ (Txt.upper z).cps.toList) : ∃ d ∈ z.cps.toList, c ∈ Unicode.upperOf d := by
  unfold Txt.upper placed at h
  simp only [Array.toList_flatten, List.mem_flatten, List.mem_map, Array.toList_mapIdx] at h
  obtain ⟨l, ⟨a, ha, e⟩, m⟩ := h
  obtain ⟨i, hi, e2⟩ := List.mem_mapIdx.mp ha
  subst e2
  subst e
  exact ⟨_, List.getElem_mem hi, by simpa using m⟩
theorem upper_low : ∀ d < 128, ∀ c ∈ Unicode.upperOf d, c < 1114112 := by decide +kernel
theorem strOk_up {z : Str} (h : ∀ c ∈ z.cps.toList, c < 128) : PyData.strOk (Txt.upper z) = true := by
  unfold PyData.strOk
  rw [← Array.all_toList, List.all_eq_true]
  intro c hc
  obtain ⟨d, md, m⟩ := upper_mem hc
  exact decide_eq_true (upper_low d (h d md) c m)
end SC
/-! any(..) over a generator expression whose element is any expression of the layer -/
/-! a def that raises out of an except suite what it caught otherwise: its body's callees let out exceptions without a context -/
namespace SC
open PySem PySem.Spec PyProof.Rows L2
section
variable {X : Cx} {W : WX} {x m : Str} {C : Addr} {j : Nat} {p p2 pos pos2 : Pos}
theorem Err.pmkN (T : Err X.K X.mg x C) (hg : Gl X x := by rfl) (hdb : (x == ("__debug__" : Str)) = false := by decide) : L2N.PMk X (.Call (.Name x p) [.Constant (.str m) j p2] [] pos) (fun _ H Q => Q (.ref C) none H) :=
  L2N.pmk_own PySem.F.excBase_ValueError T.e T.g T.k (raises_own T.b T.t) hg hdb
end
end SC
/-! sorted(..) of pairs of texts -/
namespace SC
open PySem PySem.Spec PyProof.Rows L2
section
variable {prog : Program} {w : World} {A : Around} {E : Value → Shared → Prop} {s : Shared}
def IsPairS (h : Heap) (v : Value) (p : Str × Str) : Prop := ∃ a o t u n, v = .ref a ∧ h.get? a = some o ∧ o.cls = .type "tuple" ∧ o.data = .seq #[.str p.1 t, .str p.2 u] n
theorem IsPairS.keeps {h h' : Heap} {v : Value} {q : Str × Str} (p : IsPairS h v q) (k : ∀ b o, h.get? b = some o → o.cls = .type "tuple" → h'.get? b = some o) : IsPairS h' v q :=
  let ⟨a, o, t, u, n, e, ho, hc, hd⟩ := p
  ⟨a, o, t, u, n, e, k _ _ ho hc, hc, hd⟩
end
end SC
/-! a caught error that is handed to a def of the program; isinstance of it there, with or without fields -/
namespace SC
open PySem PySem.Spec PyProof.Rows L2
/-! ### a def that is handed the error that its caller handles: what is known of it is said once -/
structure FnP (P : Program) (w : World) (K : PySem.W.Frag) (mg : Str → Option Value) (base : Heap) (k : Nat) (f : Addr) (fd : FuncData) (ps : List Str) (p : Addr × Obj) (sp : Sp) : Prop where
  len : ∀ vs H Q E, sp vs H Q E → vs.length = ps.length
  run : ∀ (A : Around) (outer : List Env) (s : Shared) (H : Hp) (args : Args) (us : List Value) (vs : List V) (Q : VK) (E : XK), L2H.RoomH k A → L2H.Hot1 A p → L2H.PinOk outer H s p → Env0 P w K mg base A outer s H → BindsTo s fd args (ps.zip us) → Vals vs us → sp vs H Q E →
    codeAny (model P w) A (.call (.ref f) args) (CR CX0 outer P w H s Q E) s
structure CalP (P : Program) (w : World) (K : PySem.W.Frag) (mg : Str → Option Value) (base : Heap) (k : Nat) (x : Str) (who : Addr × Obj → Prop) (sp : Addr × Obj → Sp) : Prop where
  ex : ∃ f fd ps, (∀ p, who p → FnP P w K mg base k f fd ps p (sp p)) ∧ mg x = some (.ref f) ∧ PySem.W.keepIn K (.ref f) = true ∧ Binds K fd ps []
section
variable {X : Cx} {x : Str} {q pos : Pos} {e : Expr} {es : List Expr} {t : TA} {j k : Nat} {who : Addr × Obj → Prop} {sp : Addr × Obj → Sp} {p : Addr × Obj}
/-- x(e, ..) in the suite that handles p -/
theorem CalP.pe (c : CalP X.prog X.w X.K X.mg X.base j x who sp) (hr : L2H.RoomH k X.A) (hot : L2H.Hot1 X.A p) (hp : p ∈ X.pn) (hw : who p) (ha : PA X (e :: es) t) (hjk : j ≤ k := by first | decide | omega) (hg : Gl X x := by rfl) (hdb : (x == ("__debug__" : Str)) = false := by decide)
    (he : starEach (e :: es) X.env = (false, eval e X.env) :: starEach es X.env := by rfl) (hpl : (backTo pos (starEach es X.env)).any (·.1) = false := by rfl) :
    PE X (.Call (.Name x q) (e :: es) [] pos) (tCallS (sp p) (fun _ => E0) t) := by
  obtain ⟨f, fd, ps, F, hm, hk, hb⟩ := c.ex
  have F := F p hw
  refine ⟨fun pins s σ H Q I h => wpAny_Call_Name_kw (ld_glob I hg hm (PySem.W.callWith_K (h₀ := X.base) I.ok.mod.kin hk (thn (ha.run pos pins s σ H _ I h) fun us s1 told => ?_) he hpl) hdb)⟩
  obtain ⟨vs, H1, I1, r, wish⟩ := told
  have lens : us.length = ps.length := by rw [← r.length]; exact F.len _ _ _ _ wish
  have b := hb s1 us I1.kIn (by rw [List.append_nil]; exact lens)
  rw [List.append_nil] at b
  have pinned := I1.pin p (List.mem_append_left _ hp)
  have there : L2H.PinOk X.stack H1 s1 p := ⟨pinned.1, pinned.2.1, fun m => (List.mem_cons.mp (I1.stkSub p.1 m)).elim pinned.2.2.1 pinned.2.2.2.1, pinned.2.2.2.2⟩
  refine ⟨I1.kIn, wpAny_call (codeAny_mono (F.run X.A X.stack s1 H1 ⟨us, []⟩ us vs Q E0 (hr.mono hjk) hot there I1.env0 b r wish) fun res s2 ended => ?_)⟩
  match res, ended with
  | .error _, z => exact False.elim z
  | .ok (.ret u), z => exact I1.after z
  | .ok .next, z => exact False.elim z
  | .ok .brk, z => exact False.elim z
  | .ok .cont, z => exact False.elim z
end
/-- C(e, ..) of an error with an __init__ of its own, its context None -/
theorem pmkN_own {X : Cx} {CX : CXT} {x : Str} {e : Expr} {es : List Expr} {ta : TA} {p pos : Pos} {C fI : Addr} {k : Nat} {fd : FuncData} {ps : List Str} {sp : Sp} (T : OexC X.K C) (iC : PySem.W.findIn X.K (.ref C) "__init__" = some (some (.ref fI))) (tI : PySem.W.typeIn X.K (.ref fI) = some (.type "function"))
    (made : FnOk X.prog X.w X.K X.mg X.base CX k fI fd ps sp) (hr : Room (k + 1) X.A) (hb : Binds X.K fd ps []) (hx : Passes CX X (fun _ _ _ => False)) (hg : Gl X x) (hm : X.mg x = some (.ref C)) (ha : PA X (e :: es) ta)
    (hdb : (x == ("__debug__" : Str)) = false := by decide) (he : starEach (e :: es) X.env = (false, eval e X.env) :: starEach es X.env := by rfl) (hpl : (backTo pos (starEach es X.env)).any (·.1) = false := by rfl) :
    L2N.PMk X (.Call (.Name x p) (e :: es) [] pos) (tMkO C sp [] ta) := by
  intro pins s σ H Q I h
  obtain ⟨nm, q, N, bs, bm, sn, sub, ab, col, dd, k0, k1, k2, k3, k5, clsAt, inRefs⟩ := T.cls
  refine wpAny_Call_Name_kw (ld_glob I hg hm (PySem.W.callWith_K (h₀ := X.base) I.ok.mod.kin T.kC (thn (ha.run pos pins s σ H _ I h) fun us s1 told => ?_) he hpl) hdb)
  obtain ⟨vs, H1, I1, rels, few, wish⟩ := told
  refine ⟨I1.kIn, ?_⟩
  show wpAny _ _ (call (.ref C) us) _ _ _
  obtain ⟨hp, g, dr, tk, os⟩ := s1
  generalize eA : hp.objs.size + 1 = a
  have above : hp.objs.size ≤ a := by omega
  have init := wish a (I1.hok.fresh above)
  rw [List.append_nil] at init
  have old : ∀ b o, hp.get? b = some o → ((hp.push (PySem.W.kdv_tup us)).push (PySem.HandSPX.excO C hp.objs.size)).get? b = some o := fun b o e => Heap.get?_push_of_some _ (Heap.get?_push_of_some _ e)
  have new : ((hp.push (PySem.W.kdv_tup us)).push (PySem.HandSPX.excO C hp.objs.size)).get? a = some (PySem.HandSPX.excO C hp.objs.size) := by
    subst eA
    heap_get
  have I2 : Inv X pins σ (upd H1 a (exo a C none)) ⟨(hp.push (PySem.W.kdv_tup us)).push (PySem.HandSPX.excO C hp.objs.size), g, dr, tk, os⟩ := I1.laid (t' := tk) (a := a) (o := exo a C none) old above (exo_ok new)
  have rels2 : Vals (V.ref a :: vs) (Value.ref a :: us) := .cons rfl rels
  have count : (Value.ref a :: us).length = ps.length := by
    rw [← rels2.length]
    exact made.len _ _ _ _ init
  have fewer : us.length ≤ sizeLine := by
    rw [← Paired.length rels, sizeLine_eq]
    omega
  have binds := hb _ (Value.ref a :: us) I2.kIn (by rw [List.append_nil]; exact count)
  rw [List.append_nil] at binds
  subst eA
  refine wpAny_call (PySem.HandSPX.call_own F.excBase_ValueError (fun Y => PySem.HandSPX.refsVE_contains Y bm inRefs) (I1.kIn _ _ clsAt) (PySem.W.looks_findIn I1.kIn iC) (fun self => PySem.W.bind_fn I1.kIn self tI) fewer
    (codeAny_mono (made.run _ X.stack _ _ ⟨_ :: us, []⟩ (_ :: us) _ _ (fun _ _ _ => False) (hr.make C us []) (I2.env0.make C us []) binds rels2 init) fun res s2 ended => ?_))
  match res, ended with
  | .error _, z => exact hx pins σ _ _ _ s2 I2 z
  | .ok .next, z => exact False.elim z
  | .ok .brk, z => exact False.elim z
  | .ok .cont, z => exact False.elim z
  | .ok (.ret u), ⟨v, H2, os2, bare2, un2, hok2, rv, ev, d, fs, ea, ed, fresh, wish2⟩ =>
    subst ev
    obtain ⟨h2, g2, d2, t2, os'⟩ := s2
    obtain ⟨t0, G, J, kept, gone, there, unseen⟩ := mk_end0 (d2 := d2) (t2 := t2) I1 above old un2 hok2 os2 bare2 ea ed fresh
    exact ⟨rv, _, _, _, ⟨G, g2, d2, t2, os'⟩, _, .ref C, some d, rfl, J, kept, gone, there, ⟨rfl, rfl, fun vs hv => by cases hv; rfl⟩, rfl, rfl, unseen, rfl, bare2, raises_own T.exC T.tyC, wish2⟩
end SC
/-! methods without arguments that may raise; tables of texts -/
namespace SC
open PySem PySem.Spec PyProof.Rows L2
section
variable {X : Cx} {x : Str} {p pos apos : Pos} {o e : Expr} {es : List Expr} {ta : TE} {t : TA} {sp : Sp} {j k : Nat} {CX : CXT} {E : XK} {C : Addr} {pl : Sem Bool}
theorem CalM.pex0 (c : CalM X.prog X.w X.K X.mg X.base CX j C x sp) (hr : Room k X.A) (hx : Passes CX X E) (ho : PE X o ta) (hjk : j ≤ k := by first | decide | omega)
    (ht : eval (.Call (.Attribute o x apos) [] [] pos) X.env = (do
      let ov ← eval o X.env
      standAt apos.atName
      let (f, first) ← holding [ov] (getMethod ov x pl)
      callWith pos f first (backTo pos (starEach [] X.env)) (backToKw pos (keywordEach [] X.env))) := by rfl) :
    PE X (.Call (.Attribute o x apos) [] [] pos) (tMeth C x sp [] E ta tNil) :=
  let ⟨_, _, _, F, m, b⟩ := c.ex
  pe_meth0 ho c.cl m F (hr.mono hjk) b .nil hx ht
theorem CalM.peL0 (c : CalM X.prog X.w X.K X.mg X.base (L2.CX X.prog X.w) j C x sp) (hr : Room k X.A) (ho : PE X o ta) (hjk : j ≤ k := by first | decide | omega)
    (ht : eval (.Call (.Attribute o x apos) [] [] pos) X.env = (do
      let ov ← eval o X.env
      standAt apos.atName
      let (f, first) ← holding [ov] (getMethod ov x pl)
      callWith pos f first (backTo pos (starEach [] X.env)) (backToKw pos (keywordEach [] X.env))) := by rfl) :
    PE X (.Call (.Attribute o x apos) [] [] pos) (tMeth C x sp [] E0 ta tNil) := c.pex0 hr passL ho hjk ht
end
/-- the reading is found first, then what was wished for -/
theorem by_given {X : Cx} {b : List Stmt} {t u : TS} (h : PSs X b t) (e : t = u) : PSs X b u := e ▸ h
/-! try with several clauses, some of which name the caught error -/
/-! tables of texts -/
def txK (tx : List (Str × Str)) : List (Key × V) := tx.map fun p => (Sum.inr p.1, V.str p.2)
def getT (tx : List (Str × Str)) (n : Str) : Option Str := (tx.find? fun p => decide (p.1 = n)).map (·.2)
def putT (tx : List (Str × Str)) (n t : Str) : List (Str × Str) :=
  if (tx.any fun p => decide (p.1 = n)) = true then tx.map (fun p => if p.1 = n then (p.1, t) else p) else tx ++ [(n, t)]
theorem txK_val (n : Str) : ∀ tx : List (Str × Str), valV (txK tx) (Sum.inr n) = (getT tx n).map V.str
  | [] => rfl
  | p :: r => by
    have ih := txK_val n r
    by_cases e : p.1 = n
    · rw [show txK (p :: r) = (Sum.inr p.1, V.str p.2) :: txK r from rfl, valV_pos (by rw [e])]
      simp [getT, List.find?_cons, e]
    · rw [show txK (p :: r) = (Sum.inr p.1, V.str p.2) :: txK r from rfl, valV_neg (fun z => e (Sum.inr.inj z)), ih]
      simp [getT, List.find?_cons, e]
theorem txK_put (n t : Str) (tx : List (Str × Str)) : putK (txK tx) (Sum.inr n) (.str t) = txK (putT tx n t) := by
  unfold putK putT
  have a : ((txK tx).any fun kv => decide (kv.1 = (Sum.inr n : Key))) = tx.any fun p => decide (p.1 = n) := by
    unfold txK
    rw [List.any_map]
    congr 1
    funext p
    exact decide_eq_decide.mpr ⟨fun z => Sum.inr.inj z, fun z => congrArg _ z⟩
  rw [a]
  by_cases h : (tx.any fun p => decide (p.1 = n)) = true
  · rw [if_pos h, if_pos h]
    unfold txK
    rw [List.map_map, List.map_map]
    refine List.map_congr_left fun p _ => ?_
    show (if (Sum.inr p.1 : Key) = Sum.inr n then ((Sum.inr p.1 : Key), V.str t) else (Sum.inr p.1, V.str p.2)) = ((Sum.inr (if p.1 = n then (p.1, t) else p).1 : Key), V.str (if p.1 = n then (p.1, t) else p).2)
    by_cases e : p.1 = n
    · rw [if_pos (by rw [e]), if_pos e]
    · rw [if_neg (fun z => e (Sum.inr.inj z)), if_neg e]
  · rw [if_neg h, if_neg h]
    unfold txK
    rw [List.map_append]
    rfl
theorem txK_len (tx : List (Str × Str)) : (txK tx).length = tx.length := List.length_map ..
theorem txK_keys (tx : List (Str × Str)) : (txK tx).map (·.1) = (tx.map (·.1)).map Sum.inr := by unfold txK; rw [List.map_map, List.map_map]; rfl
mutual
/-- what does not reach the lists that change stays -/
theorem Rq.off {S : List Addr} {H H' : Hp} (k : Kp S H H') (n : ∀ b ∈ S, ∀ xs, H b ≠ some (.lst xs)) : ∀ {v : V} {d : PyData}, Rq H v d → Rq H' v d
  | _, _, .non => .non
  | _, _, .bl b => .bl b
  | _, _, .int i => .int i
  | _, _, .str z => .str z
  | _, _, .lst e r => .lst (k.keep _ _ (fun m => n _ m _ e) e) (r.off k n)
  | _, _, .tup e r => .tup (k.tup _ _ e) (r.off k n)
theorem RqA.off {S : List Addr} {H H' : Hp} (k : Kp S H H') (n : ∀ b ∈ S, ∀ xs, H b ≠ some (.lst xs)) : ∀ {vs : List V} {ds : List PyData}, RqA H vs ds → RqA H' vs ds
  | _, _, .nil => .nil
  | _, _, .cons a b => .cons (a.off k n) (b.off k n)
end
end SC
/-! errors with errors behind them: a raise out of an except suite, whatever the chain of contexts is -/
namespace SC
open PySem PySem.Spec PyProof.Rows L2
/-- errors, each one the context of the one before -/
def Lnk : List (Addr × Obj) → Prop
  | [] => True
  | p :: r => (∃ fs : Array Value, p.2.data = .fields fs ∧ fs[2]? = some (match r with | [] => Value.none | q :: _ => Value.ref q.1)) ∧ Lnk r
theorem Lnk.fields : ∀ {l : List (Addr × Obj)}, Lnk l → ∀ p ∈ l, ∃ fs : Array Value, p.2.data = .fields fs
  | [], _, p, m => absurd m List.not_mem_nil
  | q :: r, h, p, m => by
    rcases List.mem_cons.mp m with rfl | m
    · exact ⟨_, h.1.choose_spec.1⟩
    · exact Lnk.fields h.2 p m
/-! ### an error in the air, with the errors behind it -/
/-- what is kept of the error's object: class, dict, and the errors behind it -/
def Zg (ps : List (Addr × Obj)) (cls : Value) (d : Option Addr) : Obj → Prop := fun o => (o.cls = cls ∧ o.dict = d) ∧ ∀ fs, o.data = .fields fs → fs[2]? = some (match ps with | [] => Value.none | q :: _ => Value.ref q.1)
theorem Zg.steady {ps : List (Addr × Obj)} {cls : Value} {d : Option Addr} : PySem.PXN.Steady1 (Zg ps cls d) := fun o v h => by
  refine ⟨⟨PySem.PXN.steady_cls o v h.1.1, PySem.PXN.steady_dict o v h.1.2⟩, ?_⟩
  have h2 := h.2
  clear h
  obtain ⟨c, dd, dt, sl⟩ := o
  cases dt with
  | fields gs =>
    intro fs e
    have e2 : gs.setIfInBounds 1 v = fs := Data.fields.inj e
    have e3 : (gs.setIfInBounds 1 v)[2]? = gs[2]? := by
      first
      | exact Array.getElem?_setIfInBounds_ne (by decide)
      | simp [Array.getElem?_setIfInBounds]
    rw [← e2, e3]
    exact h2 gs rfl
  | _ =>
    intro fs e
    first
    | exact Data.noConfusion e
    | cases e
theorem Zg.ofN {cls : Value} {d : Option Addr} {o : Obj} (h : L2N.Zn cls d o) : Zg [] cls d o := ⟨⟨h.1, h.2.1⟩, h.2.2⟩
/-- the errors behind it stand on the ground, untracked -/
def Row (B : Heap) (H : Hp) (ps : List (Addr × Obj)) : Prop := Lnk ps ∧ ∀ p ∈ ps, B.get? p.1 = some p.2 ∧ H p.1 = none
theorem Row.nil {B : Heap} {H : Hp} : Row B H [] := ⟨trivial, fun p m => absurd m List.not_mem_nil⟩
def AirG (X : Cx) (W : WX) (u : Value) (s' : Shared) : Prop :=
  ∃ (a : Addr) (B : Heap) (sI : Shared) (held : List (Addr × Obj)) (τ : L2.St) (G : Hp) (cls : Value) (d : Option Addr) (ps : List (Addr × Obj)),
    u = .ref a ∧ Inv X held τ G sI ∧ (∀ b o, sI.heap.get? b = some o → b ∉ frs X.stack → B.get? b = some o) ∧ sI.heap.UpToSlots s'.heap ∧
      Sky B X.stack a (Zg ps cls d) X.env.locals s'.heap ∧ Row B G ps ∧ G a = none ∧ s'.os = sI.os ∧ AllBare s'.gens ∧ W cls d τ G
def TakesG (X : Cx) (W : WX) : Prop := ∀ u s', AirG X W u s' → X.xe u s'
theorem sky_imp {B : Heap} {l : List Env} {a L : Addr} {Z Z' : Obj → Prop} {h : Heap} (z : ∀ o, Z o → Z' o) (x : Sky B l a Z L h) : Sky B l a Z' L h := by
  rcases x with ⟨h1, h2, h3, oe, fs, h4, h5, h6⟩ | x | x
  · exact .inl ⟨h1, h2, h3, oe, fs, h4, z _ h5, h6⟩
  · exact .inr (.inl (L2H.flyingZ_imp z x))
  · exact .inr (.inr ⟨x.1, x.2.1, x.2.2.1, L2H.tracedZ_imp z x.2.2.2⟩)
/-- what takes errors with errors behind them takes those without -/
theorem TakesG.toN {X : Cx} {W : WX} (t : TakesG X W) : L2N.Takes X W := fun u s' ⟨a, B, sI, held, τ, G, cls, d, e, I, nb, up, sky, na, os, ag, wish⟩ =>
  t u s' ⟨a, B, sI, held, τ, G, cls, d, [], e, I, nb, up, sky_imp (fun _ => Zg.ofN) sky, Row.nil, na, os, ag, wish⟩
/-- behind a call that let an error out -/
def CXG (P : Program) (w : World) (outer : List Env) (H : Hp) (s : Shared) (E : XK) (u : Value) (s' : Shared) : Prop :=
  ∃ (a : Addr) (B : Heap) (G : Hp) (cls : Value) (d : Option Addr) (ps : List (Addr × Obj)), u = .ref a ∧ HandSPX.FlyingZ B outer a (Zg ps cls d) s'.heap ∧ HOk P w G B ∧ UB (frs outer) H G s.heap B s'.heap ∧ Row B G ps ∧ G a = none ∧ s'.os = s.os ∧ AllBare s'.gens ∧ E cls d G
section
variable {X : Cx} {held : List (Addr × Obj)} {τ : L2.St} {H G : Hp} {sI s s' : Shared} {B : Heap} {W : WX} {E : XK}
theorem AirG.called (I : Inv X held τ H s) (wish : ∀ cls d G, E cls d G → W cls d τ G) {u : Value} (c : CXG X.prog X.w X.stack H s E u s') : AirG X W u s' := by
  obtain ⟨a, B, G, cls, d, ps, rfl, fly, good, ub, row, na, os, ag, told⟩ := c
  obtain ⟨D, d1, d2⟩ := restrict s'.heap fun b => (B.get? b).isSome || decide (b ∈ frs X.stack)
  have stays : B.StaysIn s'.heap := fly.1
  have ofB : ∀ b o, B.get? b = some o → D.get? b = some o := fun b o e => (d1 b (by simp [e])).trans (stays b o e)
  have ofF : ∀ b, b ∈ frs X.stack → D.get? b = s'.heap.get? b := fun b m => d1 b (by simp [m])
  have back : ∀ b o, D.get? b = some o → s'.heap.get? b = some o ∧ ((B.get? b).isSome = true ∨ b ∈ frs X.stack) := fun b o e => by
    cases q : ((B.get? b).isSome || decide (b ∈ frs X.stack)) with
    | false => rw [d2 b q] at e; cases e
    | true => exact ⟨by rw [← d1 b q]; exact e, by simpa [Bool.or_eq_true] using q⟩
  refine ⟨a, B, { s with heap := D, gens := s'.gens, drawn := s'.drawn, toks := s'.toks }, held, τ, G, cls, d, ps, rfl, I.call (ch := []) ⟨fun b o e n m _ => ofB b o (ub.keep b o e n m), fun b o e _ m _ => ?_, fun b o e n _ => ub.free b o e n, fun b o e _ => ?_, ub.tups, ub.frzs, ub.tbls⟩ (good.kept ofB) ag (fun _ z => nomatch z),
    fun b o e m => ?_, Heap.UpToSlots.of_keeps fun b o e => (back b o e).1, .inr (.inl fly), row, na, os, ag, wish _ _ _ told⟩
  · obtain ⟨sl, q⟩ := ub.slot b o e m
    exact ⟨sl, (ofF b m).trans q⟩
  · by_cases m : b ∈ frs X.stack
    · obtain ⟨sl, q⟩ := ub.slot b o e m
      exact ⟨_, (ofF b m).trans q⟩
    · obtain ⟨o2, q⟩ := ub.there b o e m
      exact ⟨o2, ofB b o2 q⟩
  · obtain ⟨e2, where1⟩ := back b o e
    rcases where1 with z | z
    · obtain ⟨o2, q⟩ := Option.isSome_iff_exists.mp z
      have y := stays b o2 q
      rw [e2] at y
      cases y
      exact q
    · exact absurd z m
/-- an error that is new in the air -/
theorem AirG.fresh {a : Addr} {ob : Obj} {fs : Array Value} {cls : Value} {d : Option Addr} {ps : List (Addr × Obj)} (I : Inv X held τ H sI) (keeps : ∀ b o, sI.heap.get? b = some o → s'.heap.get? b = some o) (was : sI.heap.get? a = none) (is : s'.heap.get? a = some ob)
    (z : Zg ps cls d ob) (isFields : ob.data = .fields fs) (noTrace : fs[1]? = some .none) (lk : Lnk ps) (pinned : ∀ p ∈ ps, sI.heap.get? p.1 = some p.2 ∧ H p.1 = none ∧ p.1 ∉ frs X.stack) (na : H a = none) (os : s'.os = sI.os) (ag : AllBare s'.gens) (wish : W cls d τ H) : AirG X W (.ref a) s' := by
  refine ⟨a, PySem.W.hideAll sI.heap (frs X.stack), sI, held, τ, H, cls, d, ps, rfl, I, fun b o e m => PySem.W.hideAll_get _ e m, Heap.UpToSlots.of_keeps keeps,
    .inl ⟨fun b o e => keeps b o (PySem.W.of_hideAll _ e), ?_, Heap.FunFrames.of_keeps (fun b o e _ => ⟨o, keeps b o e, rfl⟩) (funFrames_none I.stack fun b m => PySem.W.hideAll_none _ m), ob, fs, is, z, isFields, noTrace⟩,
    ⟨lk, fun p m => let ⟨q1, q2, q3⟩ := pinned p m; ⟨PySem.W.hideAll_get _ q1 q3, q2⟩⟩, na, os, ag, wish⟩
  cases q : (PySem.W.hideAll sI.heap (frs X.stack)).get? a with
  | none => rfl
  | some o =>
    have y := PySem.W.of_hideAll _ q
    rw [was] at y
    cases y
/-- it leaves the def -/
theorem AirG.leaves (stk : X.stack = X.env :: X.outer) (frm : X.env.frame = some X.env.locals) (noEx : X.ex = []) {E2 : Value → Shared → Prop} (wish : ∀ cls d σ H, W cls d σ H → E cls d H) {u : Value} (x : AirG X W u s') :
    wpAny (model X.prog X.w) X.A (leaving X.env u) (fun _ t => CXG X.prog X.w X.outer X.H_0 X.s_0 E u t) E2 s' := by
  obtain ⟨a, B, sI, held, τ, G, cls, d, ps, rfl, I, nb, up, sky, row, na, os, ag, told⟩ := x
  have frames : X.A.frames = some (X.env :: X.outer) := by rw [I.ok.frames, stk]
  have notFrame : ∀ b o, X.s_0.heap.get? b = some o → b ∉ X.fs → b ∉ frs X.stack := fun b o e m mm => by
    rcases List.mem_cons.mp (I.stkSub b mm) with y | y
    · have below := Heap.lt_size e
      rw [y] at below
      exact absurd (Nat.lt_of_lt_of_le below I.ok.above) (Nat.lt_irrefl _)
    · exact m y
  have notEx : ∀ b, b ∉ X.ex := fun b m => by rw [noEx] at m; cases m
  have ends : ∀ h2, HandSPX.FlyingZ B X.outer a (Zg ps cls d) h2 → s'.heap.UpToSlots h2 → CXG X.prog X.w X.outer X.H_0 X.s_0 E (.ref a) { s' with heap := h2 } := fun h2 fly up2 => by
    refine ⟨a, B, G, cls, d, ps, rfl, fly, I.inGround nb, ⟨fun b o e n m => nb b o (I.base.keep b o e n m (notEx b)) (notFrame b o e m), fun b o e m => ?_, fun b o e n => I.base.free b o e n (notEx b), fun b o e m => ?_, I.base.tups, I.base.frzs, I.base.tbls⟩,
      row, na, os.trans I.os, ag, wish _ _ _ _ told⟩
    · obtain ⟨_, o2, e2, plain⟩ := I.ok.funs.mem m
      rw [e] at e2
      cases e2
      obtain ⟨_, q1⟩ := I.base.slot b o e (I.ok.frf b m) m (notEx b)
      obtain ⟨_, q2⟩ := up b _ q1 plain
      obtain ⟨sl, q3⟩ := up2 b _ q2 plain
      exact ⟨sl, q3⟩
    · obtain ⟨o2, q⟩ := I.base.there b o e (notEx b)
      exact ⟨o2, nb b o2 q (notFrame b o e m)⟩
  rw [stk] at sky
  rcases sky with ⟨k1, k2, k3, ob, fs, k4, k5, k6, k7⟩ | fly | hd
  · exact PySem.PXN.leaving_firstZ Zg.steady frames k3 frm k4 k1 k2 k6 k7 k5 ends
  · exact PySem.PXN.leaves_onZ Zg.steady frames frm fly ends
  · exact HandSPX.leaves_heldZ frm hd ends
theorem takesG_of (stk : X.stack = X.env :: X.outer) (frm : X.env.frame = some X.env.locals) (noEx : X.ex = []) {E2 : Value → Shared → Prop}
    (lets : X.xe = fun e t => wpAny (model X.prog X.w) X.A (leaving X.env e) (fun _ t2 => CXG X.prog X.w X.outer X.H_0 X.s_0 E e t2) E2 t) : TakesG X (fun cls d _ H => E cls d H) := fun u s' x => by
  rw [lets]
  exact AirG.leaves (W := fun cls d _ H => E cls d H) (E := E) stk frm noEx (fun _ _ _ _ y => y) x
theorem passG (tk : TakesG X W) (wish : ∀ cls d σ H, E cls d H → W cls d σ H) : Passes (CXG X.prog X.w) X E := fun _ τ _ _ e s' I c => tk e s' (AirG.called I (fun cls d G y => wish cls d τ G y) c)
theorem passGL : Passes (CXG X.prog X.w) X E0 := fun _ _ _ _ _ _ _ c => by
  obtain ⟨_, _, _, _, _, _, _, _, _, _, _, _, _, _, z⟩ := c
  exact z.elim
theorem passAtG (tk : TakesG X W) (σ : L2.St) : PassesAt (CXG X.prog X.w) X σ (WE W σ) := fun _ _ _ e s' I c => tk e s' (AirG.called I (fun _ _ _ y => y) c)
end
section
variable {P : Program} {w : World} {K : PySem.W.Frag} {mg : Str → Option Value} {base : Heap}
theorem _root_.L2.Fun.okG {x qual : Str} {st : Stmt} {f : Addr} {fd : FuncData} {N ps : List Str} {k : Nat} {sp : Sp} (F : Fun K x qual st f fd) (S : FnScope N ps (defScope st)) (len : ∀ vs H Q E, sp vs H Q E → vs.length = ps.length)
    (body : ∀ (cdv : Value) (A : Around) (outer : List Env) (s : Shared) (H : Hp) (vs : List V) (Q : VK) (E : XK), Room k (A.deeper (envOfC qual (defScope st) s.heap.objs.size f cdv)) → sp vs H Q E →
      ∃ t, PSs (cxOf (CXG P w) P w K mg base N qual (defScope st) f cdv A outer s H E) (defBody st) t ∧ t { nx := fun _ G => Q .non G, rt := Q } (start N vs) H) : FnOk P w K mg base (CXG P w) (k + 1) f fd ps sp := by
  obtain ⟨oc, od, kV, doc, pm, an, cdv, ct, osl, rfl, lk, hcd⟩ := F.ex
  exact fn_of lk hcd S len fun A outer s H vs Q E hr hsp => body cdv A outer s H vs Q E hr hsp
end
/-! ### raise out of a suite -/
/-- the context bears the handled error and those behind it -/
def HotG (X : Cx) : Prop := ∃ (p : Addr × Obj) (r : List (Addr × Obj)), X.A.handled = some (.ref p.1) ∧ Lnk (p :: r) ∧ ∀ q ∈ p :: r, q ∈ X.pn
/-! ### try, with clauses of one class or two, named or not, whose suites may raise -/
inductive Guard (X : Cx) : Expr → List Value → Prop
  | one {x : Str} {c : Value} {p : Pos} : Names X x c → Guard X (.Name x p) [c]
  | two {x y : Str} {c d : Value} {p q pos : Pos} {k : Nat} : Names X x c → Names X y d → Guard X (.Tuple [.Name x p, .Name y q] k pos) [c, d]
theorem Guard.suite {X : Cx} {g : Expr} {l : List Value} {e : Addr} {pn : List (Addr × Obj)} (h : Guard X g l) : Guard (X.suite e pn) g l := by
  cases h with
  | one a => exact .one a
  | two a b => exact .two a b
abbrev ClauseG := List Value × (Addr → Value → Option Addr → TS)
inductive ClG where
  | named (k : ClauseG)
  | bare (k : ClauseG)
def wClG (K : PySem.W.Frag) (i : Nat) (out : WX) (D : Ends) : List ClG → WX
  | [] => out
  | .named k :: r => fun cv dd τ G => ∃ yes, PySem.W.exmAny K cv k.1 = some yes ∧ if yes = true then (∀ e, G e = none → k.2 e cv dd (dropE i D) (τ.set i (some (.ref e))) G) else wClG K i out D r cv dd τ G
  | .bare k :: r => fun cv dd τ G => ∃ yes, PySem.W.exmAny K cv k.1 = some yes ∧ if yes = true then (∀ e, G e = none → k.2 e cv dd D τ G) else wClG K i out D r cv dd τ G
inductive WrittenG (X : Cx) (out : WX) (n : Str) : List ExceptHandler → List ClG → Prop
  | none : WrittenG X out n [] []
  | one {g : Expr} {k : ClauseG} {st : Stmt} {more : List Stmt} {p2 : Pos} {hs : List ExceptHandler} {ks : List ClG} (guard : Guard X g k.1)
      (runs : ∀ (e : Addr) (ob : Obj) (cv : Value) (dd : Option Addr) (held : List (Addr × Obj)), Zc cv dd ob → (∃ fs, ob.data = .fields fs) → HotG (X.suite e ((e, ob) :: held)) → PSs (X.suite e ((e, ob) :: held)) (st :: more) (k.2 e cv dd)) (rest : WrittenG X out n hs ks) :
      WrittenG X out n (.ExceptHandler (some g) (some n) (st :: more) p2 :: hs) (.named k :: ks)
  | bare {g : Expr} {k : ClauseG} {st : Stmt} {more : List Stmt} {p2 : Pos} {hs : List ExceptHandler} {ks : List ClG} (guard : Guard X g k.1)
      (runs : ∀ (e : Addr) (ob : Obj) (cv : Value) (dd : Option Addr) (held : List (Addr × Obj)), Zc cv dd ob → (∃ fs, ob.data = .fields fs) → TakesG (L2H.suiteX X e ((e, ob) :: held)) out → HotG (L2H.suiteX X e ((e, ob) :: held)) → PSs (L2H.suiteX X e ((e, ob) :: held)) (st :: more) (k.2 e cv dd)) (rest : WrittenG X out n hs ks) :
      WrittenG X out n (.ExceptHandler (some g) none (st :: more) p2 :: hs) (.bare k :: ks)
section
variable {X : Cx} {E E2 : Value → Shared → Prop}
theorem name_at {x : Str} {c : Value} {p : Pos} {Y : Cx} {τ : L2.St} {G : Hp} {s : Shared} {held : List (Addr × Obj)} (named : Names Y x c) (I : Inv Y held τ G s) {Q : Value → Shared → Prop} {E : Value → Shared → Prop} (q : Q c s) : wpAny (model Y.prog Y.w) Y.A (eval (.Name x p) Y.env) Q E s := by
  rcases named with ⟨gl, nodbg, isMod | ⟨isMod, isB, nn⟩⟩
  · exact ld_glob I gl isMod q nodbg
  · exact ld_blt I gl isMod isB q nn nodbg
theorem guard_ok {g : Expr} {l : List Value} {e : Addr} {cv : Value} {b : Bool} {h : Heap} {t : Shared} {τ : L2.St} {G : Hp} {held : List (Addr × Obj)} {Y : Cx} {R : Bool → Shared → Prop} (gd : Guard Y g l) (I : Inv Y held τ G { t with heap := h })
    (kind : PySem.W.Looks (model Y.prog Y.w) h (typeOf (.ref e)) cv) (hx : PySem.W.exmAny Y.K cv l = some b) (next : ∀ h2, (∀ c o, h.get? c = some o → h2.get? c = some o) → R b { t with heap := h2 }) :
    wpAny (model Y.prog Y.w) Y.A (eval g Y.env) (fun c s1 => wpAny (model Y.prog Y.w) Y.A (excMatches (.ref e) c) R E s1) E2 { t with heap := h } := by
  cases gd with
  | one named =>
    obtain ⟨b1, d1, x1, y1, z1⟩ := PySem.W.exmAny_cons hx
    have w2 : some false = some d1 := y1
    cases w2
    rw [Bool.or_false] at z1
    subst z1
    exact name_at named I ((PySem.W.exm_one (M := model Y.prog Y.w) I.kIn kind x1).here (next h fun _ _ q => q))
  | @two x y c d p q pos k n1 n2 =>
    refine PyProof.Rows.Tuple_ ?_
    have sx : starEach [.Name x p, .Name y q] Y.env = [(false, eval (.Name x p) Y.env), (false, eval (.Name y q) Y.env)] := rfl
    refine spliced_more (name_at n1 I ?_)
    refine spliced_more (name_at n2 I ?_)
    refine spliced_none ?_
    refine wpAny_newTuple ?_
    have keeps : ∀ b o, h.get? b = some o → (h.push { cls := .type "tuple", data := .seq [c, d].toArray }).get? b = some o := fun b o q => Heap.get?_push_of_some _ q
    have J : Y.K.In (h.push { cls := .type "tuple", data := .seq [c, d].toArray }) := I.kIn.keeps keeps
    exact (PySem.W.exm_tup2 (M := model Y.prog Y.w) J (kind.keeps keeps) (Heap.get?_push_size _ rfl) hx).here (next _ keeps)
end
theorem flying_keeps {B h h2 : Heap} {l : List Env} {a : Addr} {Z : Obj → Prop} (x : HandSPX.FlyingZ B l a Z h) (k : ∀ b o, h.get? b = some o → h2.get? b = some o) : HandSPX.FlyingZ B l a Z h2 := by
  obtain ⟨k1, k2, k3, oe, vs, T, oT, ts, he, hz, hd, h1, hnT, hTe, hT, hdT, h3⟩ := x
  exact ⟨fun b o q => k b o (k1 b o q), k2, k3.of_keeps fun b o q _ => ⟨o, k b o q, rfl⟩, oe, vs, T, oT, ts, k _ _ he, hz, hd, h1, hnT, hTe, k _ _ hT, hdT, h3⟩
section
variable {X : Cx} {n : Str} {i : Nat} {body : List Stmt} {first : ExceptHandler} {others : List ExceptHandler} {ks : List ClG} {pos : Pos} {tb : WX → TS} {out : WX}
theorem ps_try_G (stk : X.stack = X.env :: X.outer) (frm : X.env.frame = some X.env.locals) (nodup : X.N.Nodup) (slot : X.N[i]? = some n) (isLoc : X.env.kindOf n = some .local) (lets : ∀ hd : Option Value, PassesOwnAt (model X.prog X.w) (X.A.mark hd) X.A X.env X.xe) (leaves : TakesG X out)
    (runBody : ∀ (V : WX) (held : List (Addr × Obj)) (ex : Value → Shared → Prop), TakesG (X.tr held ex) V → PassesOwn (model X.prog X.w) X.A X.env ex → PSs (X.tr held ex) body (tb V))
    (clauses : WrittenG X out n (first :: others) ks) : PS X (.Try body (first :: others) [] [] pos) (fun D τ G => tb (wClG X.K i out D ks) D τ G) := by
  refine ⟨fun held s τ G D I pre => ?_⟩
  have good := I.ok
  have around : X.A.frames = some (X.env :: X.outer) := by rw [good.frames, stk]
  refine wpAny_Try_except ?_
  let after : Value → Shared → Prop := fun ev t1 => wpAny (model X.prog X.w) X.A (noteFrame ev X.env)
    (fun _ t2 => wpAny (model X.prog X.w) X.A (setFlight ev none) (fun _ t3 => wpAny (model X.prog X.w) X.A (handleBy ev X.env (first :: others)) (SP X held D) X.xe t3) X.xe t2) X.xe t1
  refine wpAny_mono ((runBody (wClG X.K i out D ks) (X.pn ++ held) after (fun ev t thrown => ?_) PassesOwn.looking).run [] s τ G D (I.toTry _) pre) (fun flow t done => ?_) (fun _ _ z => z)
  · obtain ⟨e, base, sT, heldT, τ1, G1, cv, dd, ps, rfl, IT, newer, upT, skyT, row, freeE, osT, gensT, wish⟩ := thrown
    have I1 : Inv X held τ1 G1 sT := IT.ofTry good
    show wpAny (model X.prog X.w) X.A (noteFrame (.ref e) X.env) _ _ _
    refine L2N.Sky.land Zg.steady around frm (by rw [← stk]; exact skyT) fun h0 fly0 up0 => ?_
    have plain : ∀ {h : Heap} {p : Addr} {ob : Obj} {fs : Array Value}, HandSPX.FlyingZ base (X.env :: X.outer) e (Zg ps cv dd) h → h.get? p = some ob → ob.data = .fields fs → p ∉ frs (X.env :: X.outer) := fun {h p ob fs} fly g f m => by
      obtain ⟨_, ob2, at2, notFields⟩ := fly.2.2.1.mem m
      rw [g] at at2
      exact notFields _ (Option.some.inj at2 ▸ f)
    have offL : ∀ {p : Addr}, p ∉ frs (X.env :: X.outer) → p ≠ X.env.locals ∧ p ∉ X.fs := fun {p} no =>
      ⟨fun z => no (List.mem_filterMap.mpr ⟨X.env, List.mem_cons_self, by rw [frm, z]⟩), fun m =>
        let ⟨en, enIn, q⟩ := List.mem_filterMap.mp m
        no (List.mem_filterMap.mpr ⟨en, List.mem_cons_of_mem _ enIn, q⟩)⟩
    have rowFields : ∀ p ∈ ps, ∃ fs : Array Value, p.2.data = .fields fs := row.1.fields
    have landed : ∀ {h : Heap}, HandSPX.FlyingZ base (X.env :: X.outer) e (Zg ps cv dd) h → sT.heap.UpToSlots h → ∃ (ob : Obj) (fs : Array Value), Zg ps cv dd ob ∧ ob.data = .fields fs ∧ h.get? e = some ob ∧ (∀ p ∈ ps, h.get? p.1 = some p.2) ∧ Inv (X.suite e ((e, ob) :: (X.pn ++ (held ++ ps)))) [] τ1 G1 { t with heap := h } := fun {h} fly up => by
      have IA : Inv X held τ1 G1 { t with heap := h } := I1.landed newer fly.1 up osT gensT
      obtain ⟨ob, fs, obAt, obZ, obF⟩ := fly.there
      obtain ⟨o1, o2⟩ := offL (plain fly obAt obF)
      have stand : ∀ p ∈ ps, h.get? p.1 = some p.2 := fun p m => fly.1 _ _ (row.2 p m).1
      have IP : Inv X (held ++ ps) τ1 G1 { t with heap := h } := IA.pins_of fun p m => by
        rcases List.mem_append.mp m with m | m
        · exact IA.pin p (List.mem_append_right _ m)
        · obtain ⟨gs, isF⟩ := rowFields p m
          obtain ⟨a1, a2⟩ := offL (plain fly (stand p m) isF)
          exact ⟨stand p m, (row.2 p m).2, a1, a2, fun v z => by rw [isF] at z; cases z⟩
      exact ⟨ob, fs, obZ, obF, obAt, stand, IP.suite obAt obF freeE o1 o2⟩
    clear pre
    suffices each : ∀ {hs : List ExceptHandler} {cs : List ClG} {h : Heap}, WrittenG X out n hs cs → HandSPX.FlyingZ base (X.env :: X.outer) e (Zg ps cv dd) h → sT.heap.UpToSlots h → wClG X.K i out D cs cv dd τ1 G1 →
        wpAny (model X.prog X.w) X.A (handleBy (.ref e) X.env hs) (SP X held D) X.xe { t with heap := h } from each clauses fly0 (upT.trans up0) wish
    intro hs cs h written
    induction written generalizing h with
    | none =>
      intro fly up goesOn
      refine wpAny_handleBy_nil ?_
      obtain ⟨_, _, _, ob3, fs3, tb3, _, _, at3, _, f3, g3, _⟩ := id fly
      unfold PySem.passOn
      refine wpAny_bind (wpAny_field at3 f3 g3 ?_)
      rw [if_neg (by simp)]
      have again : wpAny (model X.prog X.w) X.A (setFlight (.ref e) X.env.frame) (fun _ t4 => wpAny (model X.prog X.w) X.A (throw (.ref e) : Sem Flow) (SP X held D) X.xe t4) X.xe { t with heap := h } := by
        rw [frm]
        exact HandSPX.setFlight_upZ fly fun hB heldB upB => wpAny_throw (leaves _ _ ⟨e, base, sT, held, τ1, G1, cv, dd, ps, rfl, I1, newer, up.trans upB, .inr (.inr (by rw [stk]; exact heldB)), row, freeE, osT, gensT, goesOn⟩)
      first
        | exact wpAny_bind (wpAny_pure (wpAny_bind again))
        | exact wpAny_bind again
    | @one g k st more p2 hs2 ks2 guard runs rest ih =>
      rintro fly up ⟨yes, match1, w2⟩
      obtain ⟨ob, fs, obZ, obF, obAt, stand, inSuite⟩ := landed fly up
      have kind : PySem.W.Looks (model X.prog X.w) h (typeOf (.ref e)) cv := fun A Q E u kk q => wpAny_typeOf_ref (kk _ _ obAt) (by rw [obZ.1.1]; exact q)
      refine wpAny_handleBy_cons (codeAny_handlers_test ?_) (by intro q; cases q)
      refine guard_ok (Y := X.suite e ((e, ob) :: (X.pn ++ (held ++ ps)))) guard.suite inSuite kind match1 fun h2 keeps => ?_
      have fly2 := flying_keeps fly keeps
      have up2 : sT.heap.UpToSlots h2 := up.trans (Heap.UpToSlots.of_keeps keeps)
      cases yes with
      | false =>
        rw [if_neg (by decide)] at w2
        show wpAny _ X.A (handleBy (.ref e) X.env hs2) _ _ _
        exact ih fly2 up2 w2
      | true =>
        rw [if_pos rfl] at w2
        refine codeAny_handlers_suite_as (HandSPX.lands_againZ fly2 fun hB flyB upB => ?_)
        obtain ⟨obB, fsB, zB, fB, atB, standB, SB⟩ := landed flyB (up2.trans upB)
        refine store_ok (X := X.suite e ((e, obB) :: (X.pn ++ (held ++ ps)))) (v := .ref e) SB nodup slot (.inl isLoc) rfl (fun t5 I5 => ?_) (.inr isLoc)
        have hot : HotG (X.suite e ((e, obB) :: (X.pn ++ (held ++ ps)))) := ⟨(e, obB), ps, rfl, ⟨⟨fsB, fB, zB.2 fsB fB⟩, row.1⟩, fun q m => by
          rcases List.mem_cons.mp m with rfl | m
          · exact List.mem_cons_self
          · exact List.mem_cons_of_mem _ (List.mem_append_right _ (List.mem_append_right _ m))⟩
        refine wpAny_mono ((runs e obB cv dd (X.pn ++ (held ++ ps)) zB.1 ⟨_, fB⟩ hot).run [] t5 _ G1 _ I5 (w2 e freeE)) (fun flow t6 ended => ?_) (fun _ _ z => False.elim z)
        have gone : ∀ {τ6 : L2.St} {G6 : Hp} {Q : Shared → Prop}, Inv (X.suite e ((e, obB) :: (X.pn ++ (held ++ ps)))) [] τ6 G6 t6 → (∀ t7, Inv X held (τ6.set i none) G6 t7 → Q t7) →
            wpAny (model X.prog X.w) X.A (do bindName X.env n .none; unbindBehindTheSuite X.env n p2) (fun _ t7 => Q t7) X.xe t6 := fun {τ6 G6 Q} I6 q => gone_ok ((Inv.unsuite I6 good).unpinned) nodup slot isLoc q
        cases flow with
        | ret u => exact let ⟨_, _, _, I6, r6, q6⟩ := ended; gone I6 fun _ I7 => ⟨_, _, _, I7, r6, q6⟩
        | next => exact let ⟨_, _, I6, q6⟩ := ended; gone I6 fun _ I7 => ⟨_, _, I7, q6⟩
        | brk => exact let ⟨_, _, I6, q6⟩ := ended; gone I6 fun _ I7 => ⟨_, _, I7, q6⟩
        | cont => exact let ⟨_, _, I6, q6⟩ := ended; gone I6 fun _ I7 => ⟨_, _, I7, q6⟩
    | @bare g k st more p2 hs2 ks2 guard runs rest ih =>
      rintro fly up ⟨yes, match1, w2⟩
      obtain ⟨ob, fs, obZ, obF, obAt, stand, inSuite⟩ := landed fly up
      have kind : PySem.W.Looks (model X.prog X.w) h (typeOf (.ref e)) cv := fun A Q E u kk q => wpAny_typeOf_ref (kk _ _ obAt) (by rw [obZ.1.1]; exact q)
      refine wpAny_handleBy_cons (codeAny_handlers_test ?_) (by intro q; cases q)
      refine guard_ok (Y := X.suite e ((e, ob) :: (X.pn ++ (held ++ ps)))) guard.suite inSuite kind match1 fun h2 keeps => ?_
      have fly2 := flying_keeps fly keeps
      have up2 : sT.heap.UpToSlots h2 := up.trans (Heap.UpToSlots.of_keeps keeps)
      cases yes with
      | false =>
        rw [if_neg (by decide)] at w2
        show wpAny _ X.A (handleBy (.ref e) X.env hs2) _ _ _
        exact ih fly2 up2 w2
      | true =>
        rw [if_pos rfl] at w2
        refine codeAny_handlers_suite (HandSPX.lands_againZ fly2 fun hB flyB upB => ?_)
        obtain ⟨obB, fsB, zB, fB, atB, standB, SB⟩ := landed flyB (up2.trans upB)
        have takes : TakesG (L2H.suiteX X e ((e, obB) :: (X.pn ++ (held ++ ps)))) out := fun u2 s2 ⟨a2, B2, sI2, pn2, σ2, H2, cls2, d2, qs2, e2, I2, r2⟩ => leaves u2 s2 ⟨a2, B2, sI2, held, σ2, H2, cls2, d2, qs2, e2, (L2H.unsuiteX I2 good).unpinned, r2⟩
        have hot : HotG (L2H.suiteX X e ((e, obB) :: (X.pn ++ (held ++ ps)))) := ⟨(e, obB), ps, rfl, ⟨⟨fsB, fB, zB.2 fsB fB⟩, row.1⟩, fun q m => by
          rcases List.mem_cons.mp m with rfl | m
          · exact List.mem_cons_self
          · exact List.mem_cons_of_mem _ (List.mem_append_right _ (List.mem_append_right _ m))⟩
        have w3 : k.2 e cv dd D τ1 G1 := w2 e freeE
        refine wpAny_mono ((runs e obB cv dd (X.pn ++ (held ++ ps)) zB.1 ⟨_, fB⟩ takes hot).run [] _ _ G1 _ (L2H.suiteX_of SB) w3) (fun flow t6 ended => ?_) (fun e6 s6 z => lets (some (.ref e)) e6 s6 z)
        cases flow with
        | ret u => exact let ⟨_, _, _, I6, r6, q6⟩ := ended; ⟨_, _, _, (L2H.unsuiteX I6 good).unpinned, r6, q6⟩
        | next => exact let ⟨_, _, I6, q6⟩ := ended; ⟨_, _, (L2H.unsuiteX I6 good).unpinned, q6⟩
        | brk => exact let ⟨_, _, I6, q6⟩ := ended; ⟨_, _, (L2H.unsuiteX I6 good).unpinned, q6⟩
        | cont => exact let ⟨_, _, I6, q6⟩ := ended; ⟨_, _, (L2H.unsuiteX I6 good).unpinned, q6⟩
  · cases flow with
    | ret u => exact let ⟨_, _, _, J, r, q⟩ := done; ⟨_, _, _, J.ofTry good, r, q⟩
    | next => exact let ⟨_, _, J, q⟩ := done; wpAny_execs_nil ⟨_, _, J.ofTry good, q⟩
    | brk => exact let ⟨_, _, J, q⟩ := done; ⟨_, _, J.ofTry good, q⟩
    | cont => exact let ⟨_, _, J, q⟩ := done; ⟨_, _, J.ofTry good, q⟩
theorem takes0G : TakesG X (fun _ _ _ _ => False) := fun _ _ ⟨_, _, _, _, _, _, _, _, _, _, _, _, _, _, _, _, _, _, w⟩ => w.elim
end
/-! ### an error with an __init__ of its own, made where another one is handled or where none is -/
structure FnG (P : Program) (w : World) (K : PySem.W.Frag) (mg : Str → Option Value) (base : Heap) (k : Nat) (f : Addr) (fd : FuncData) (ps : List Str) (sp : Sp) : Prop where
  len : ∀ vs H Q E, sp vs H Q E → vs.length = ps.length
  run : ∀ (A : Around) (outer : List Env) (s : Shared) (H : Hp) (args : Args) (us : List Value) (vs : List V) (Q : VK) (E : XK) (p : Addr × Obj), L2H.RoomH k A → L2H.PinOk outer H s p → Env0 P w K mg base A outer s H → BindsTo s fd args (ps.zip us) → Vals vs us → sp vs H Q E →
    codeAny (model P w) A (.call (.ref f) args) (CR CX0 outer P w H s Q E) s
section
variable {P : Program} {w : World} {K : PySem.W.Frag} {mg : Str → Option Value} {base : Heap}
theorem FnG.mono {j k : Nat} {f : Addr} {fd : FuncData} {ps : List Str} {sp : Sp} (F : FnG P w K mg base j f fd ps sp) (h : j ≤ k) : FnG P w K mg base k f fd ps sp := ⟨F.len, fun A outer s H args us vs Q E p hr => F.run A outer s H args us vs Q E p (hr.mono h)⟩
theorem fn_handled {k : Nat} {x qual : Str} {st : Stmt} {f : Addr} {fd : FuncData} {N ps : List Str} {sp : Sp} (F : Fun K x qual st f fd) (S : FnScope N ps (defScope st)) (len : ∀ vs H Q E, sp vs H Q E → vs.length = ps.length)
    (body : ∀ (cdv : Value) (A : Around) (outer : List Env) (s : Shared) (H : Hp) (vs : List V) (Q : VK) (E : XK) (p : Addr × Obj), L2H.RoomH k (A.deeper (envOfC qual (defScope st) s.heap.objs.size f cdv)) → sp vs H Q E →
      ∃ t, PSs (L2H.cxH CX0 P w K mg base N qual (defScope st) f cdv A outer s H E p) (defBody st) t ∧ t { nx := fun _ H' => Q .non H', rt := Q } (L2.start N vs) H) : FnG P w K mg base (k + 1) f fd ps sp := by
  obtain ⟨oc, od, kV, doc, pm, an, cdv, ct, osl, rfl, lk, hcd⟩ := F.ex
  refine ⟨len, fun A outer s H args us vs Q E p hr hpin e0 hb r hsp => ?_⟩
  have inK : K.In s.heap := e0.mod.kin.keeps fun b o e => (e0.bs b o e).1
  have noLim : s.heap.NoLimit := e0.mod.nolimit.keeps fun b o e => (e0.bs b o e).1
  have kinds : ∀ y ∈ ps.zip us, (defScope st).names.lookup y.1 = some .local ∨ ((defScope st).names.lookup y.1 = some .cell ∧ ((cellsFrom (s.heap.objs.size + 1) (defScope st).names []).lookup y.1).isSome = true) := fun y hy =>
    (S.par y.1 (List.of_mem_zip (a := y.1) (b := y.2) hy).1).elim .inl fun q => .inr ⟨q, PySem.W.cellsFrom_some _ _ _ (.inl q)⟩
  refine codeAny_call_function hr.depth (inK _ _ lk) rfl S.co S.gen rfl (PySem.W.codeRec_of inK hcd) (hb _ _ _ _ (wpAny_newFunctionEnv_cells S.kind kinds fun env he s1 into => ?_))
  subst he
  obtain ⟨t, reads, wish⟩ := body cdv A outer s H vs Q E p (hr.deeper _) hsp
  refine ⟨noLim.keeps into.toInCall.keep, codeAny_func (wpAny_mono (reads.run [] s1 (L2.start N vs) H _ (L2H.inv_startH S hpin e0 (len _ _ _ _ hsp) r into) wish) (fun fl s' ended => ?_) fun e s' ended => ended)⟩
  match fl, ended with
  | .ret u, ⟨v, _, H', J, rv, q⟩ => exact ⟨v, H', J.os, J.bare, J.base, J.hok, rv, q⟩
  | .next, ⟨_, H', J, q⟩ => exact ⟨V.non, H', J.os, J.bare, J.base, J.hok, rfl, q⟩
  | .brk, ⟨_, _, _, q⟩ => exact False.elim q
  | .cont, ⟨_, _, _, q⟩ => exact False.elim q
end
theorem HotG.pin {X : Cx} (hot : HotG X) {held : List (Addr × Obj)} {σ : L2.St} {H : Hp} {s : Shared} (I : Inv X held σ H s) : ∃ p : Addr × Obj, L2H.PinOk X.stack H s p := by
  obtain ⟨p, r, _, _, inPins⟩ := hot
  have pinned := I.pin p (List.mem_append_left _ (inPins p List.mem_cons_self))
  exact ⟨p, pinned.1, pinned.2.1, fun m => (List.mem_cons.mp (I.stkSub p.1 m)).elim pinned.2.2.1 pinned.2.2.2.1, pinned.2.2.2.2⟩
/-- an error keeps its reason -/
def spRin (K : PySem.W.Frag) : Sp := fun vs H Q _ => ∃ (a C : Addr) (z : Str), vs = [.ref a, .str z] ∧ H a = some (exo a C none) ∧ OexC K C ∧ PySem.W.findIn K (.ref C) "reason" = some none ∧ ∀ dx, H dx = none → dx ≠ a → Q .non (upd (upd H dx (exd dx [("reason", .str z)])) a (exo a C (some dx)))
theorem kp_made {H : Hp} {a dx : Addr} {o1 o2 o3 o4 : HO} (ha : H a = none) (hd : H dx = none) : Kp [] H (L2.upd (del (L2.upd (L2.upd (L2.upd H a o1) dx o2) a o3) a) dx o4) := by
  have g : ∀ b u, H b = some u → L2.upd (del (L2.upd (L2.upd (L2.upd H a o1) dx o2) a o3) a) dx o4 b = some u := fun b u e => by
    have na : b ≠ a := fun z => by rw [z, ha] at e; cases e
    have nd : b ≠ dx := fun z => by rw [z, hd] at e; cases e
    rw [upd_ne nd, del_ne na, upd_ne na, upd_ne nd, upd_ne na]
    exact e
  exact ⟨fun b u _ e => g b u e, fun b xs e => g b _ e⟩
/-- an error class that keeps a reason -/
structure EOwn (P : Program) (w : World) (K : PySem.W.Frag) (mg : Str → Option Value) (base : Heap) (x : Str) (C : Addr) : Prop where
  g : mg x = some (.ref C)
  o : OexC K C
  n : PySem.W.findIn K (.ref C) "reason" = some none
  ex : ∃ fi fd, PySem.W.findIn K (.ref C) "__init__" = some (some (.ref fi)) ∧ PySem.W.typeIn K (.ref fi) = some (.type "function") ∧ FnOk P w K mg base CX0 1 fi fd ["self", "reason"] (spRin K) ∧ FnG P w K mg base 1 fi fd ["self", "reason"] (spRin K) ∧ Binds K fd ["self", "reason"] []
  xf : XfC K C
  em : PySem.W.exmOne K (.ref C) (.ref C) = some true
/-- what a raise of it wishes -/
def tRef (C : Addr) (z : Str) (W : WX) : TS := fun _ σ H => ∀ (d : Addr) (G : Hp), H d = none → G d = some (.xd [("reason", .str z)]) → Kp [] H G → W (.ref C) (some d) σ G
theorem ps_weak {X : Cx} {st : Stmt} {t u : TS} (h : PS X st t) (w : ∀ D σ H, u D σ H → t D σ H) : PS X st u := ⟨fun held s σ H D I pre => h.run held s σ H D I (w D σ H pre)⟩
section
variable {X : Cx} {W : WX} {x z : Str} {C : Addr} {j k : Nat} {p p2 pos pos2 : Pos}
theorem own_wish (o : OexC X.K C) (n : PySem.W.findIn X.K (.ref C) "reason" = some none) (D : Ends) (σ : L2.St) (H : Hp) (h : tRef C z W D σ H) : tMkO C (spRin X.K) [] (tCons (tC (.str z)) tNil) σ H fun cls d G => W cls d σ G :=
  ⟨by show 1 ≤ 1000; decide, fun a ha => ⟨a, C, z, rfl, upd_same, o, n, fun dx hdx nda => by
    have hdx2 : H dx = none := by rw [upd_ne nda] at hdx; exact hdx
    exact ⟨rfl, dx, _, upd_same, by rw [upd_ne nda]; exact upd_same, hdx2, h dx _ hdx2 upd_same (kp_made ha hdx2)⟩⟩⟩
/-- raise X('z') where nothing is handled -/
theorem EOwn.raiseG (T : EOwn X.prog X.w X.K X.mg X.base x C) (hr : Room k X.A) (tk : TakesG X W) (hk : 2 ≤ k := by first | decide | omega) (hc : X.calm = true := by rfl) (hg : Gl X x := by rfl) (hdb : (x == ("__debug__" : Str)) = false := by decide)
    (he : starEach [.Constant (.str z) j p2] X.env = [(false, eval (.Constant (.str z) j p2) X.env)] := by rfl) :
    PS X (.Raise (some (.Call (.Name x p) [.Constant (.str z) j p2] [] pos)) none pos2) (tRef C z W) := by
  obtain ⟨fi, fd, i1, t1, m1, _, b1⟩ := T.ex
  exact ps_weak (L2N.ps_raise hc tk.toN (pmkN_own T.o i1 t1 m1 (hr.mono hk) b1 pass0 hg T.g (pa_cons pe_str pa_nil) hdb he rfl)) (own_wish T.o T.n)
/-- of an error without an __init__ -/
theorem Err.raiseG {m : Str} (T : Err X.K X.mg x C) (tk : TakesG X W) (hc : X.calm = true := by rfl) (hg : Gl X x := by rfl) (hdb : (x == ("__debug__" : Str)) = false := by decide) :
    PS X (.Raise (some (.Call (.Name x p) [.Constant (.str m) j p2] [] pos)) none pos2) (tErr C W) := L2N.ps_raise hc tk.toN (T.pmkN hg hdb)
end
/-! ### calls that may let such errors out -/
section
variable {X : Cx} {x : Str} {q pos apos : Pos} {o e : Expr} {es : List Expr} {ta : TE} {t : TA} {sp : Sp} {j k : Nat} {V : WX} {C : Addr} {pl : Sem Bool}
theorem Cal.peG (c : Cal X.prog X.w X.K X.mg X.base (CXG X.prog X.w) j x sp) (hr : Room k X.A) (tk : TakesG X V) (ha : PA X (e :: es) t) (hjk : j ≤ k := by first | decide | omega) (hg : Gl X x := by rfl) (hdb : (x == ("__debug__" : Str)) = false := by decide)
    (he : starEach (e :: es) X.env = (false, eval e X.env) :: starEach es X.env := by rfl) (hpl : (backTo pos (starEach es X.env)).any (·.1) = false := by rfl) :
    PE X (.Call (.Name x q) (e :: es) [] pos) (tCallS sp (WE V) t) :=
  let ⟨_, _, _, F, m, kp, b⟩ := c.ex
  pe_callS F (hr.mono hjk) hg m kp b (fun σ => passAtG tk σ) ha hdb he hpl
theorem CalM.peG (c : CalM X.prog X.w X.K X.mg X.base (CXG X.prog X.w) j C x sp) (hr : Room k X.A) (tk : TakesG X V) (ho : PE X o ta) (ha : PA X (e :: es) t) (hjk : j ≤ k := by first | decide | omega)
    (hst : starEach (e :: es) X.env = (false, eval e X.env) :: starEach es X.env := by rfl) (hpl : (backTo pos (starEach es X.env)).any (·.1) = false := by rfl)
    (ht : eval (.Call (.Attribute o x apos) (e :: es) [] pos) X.env = (do
      let ov ← eval o X.env
      standAt apos.atName
      let (f, first) ← holding [ov] (getMethod ov x pl)
      callWith pos f first (backTo pos (starEach (e :: es) X.env)) (backToKw pos (keywordEach [] X.env))) := by rfl) :
    PE X (.Call (.Attribute o x apos) (e :: es) [] pos) (tMethV C x sp (WE V) ta t) := by
  obtain ⟨f, fd, ps, F, M, b⟩ := c.ex
  refine ⟨fun held s σ H Q I pre => PySem.W.methodCall_KW (pl := pl) (thn (ho.run held s σ H _ I pre) fun u s1 gives => ?_) ht⟩
  obtain ⟨v, H1, I1, rel, p, dx, fs, rfl, isIns, noField, args⟩ := gives
  cases (show u = Value.ref p from rel)
  refine getmeth_ok I1 isIns c.cl M noField (PySem.W.callWith_K (first := [.ref p]) (h₀ := X.base) I.ok.mod.kin M.kp (thn (ha.run pos held s1 σ H1 _ I1 args) fun us s2 told => ?_) hst hpl)
  obtain ⟨vs, H2, I2, rels, q⟩ := told
  exact ⟨I2.kIn, run_fnS (us := .ref p :: us) (vs := .ref p :: vs) F (hr.mono hjk) b (passAtG tk σ) I2 (.cons rfl rels) q⟩
end
/-! ### instances whose __init__ may let such errors out -/
def tMakeV (C : Addr) (sp : Sp) (E : L2.St → XK) (t : TA) : TE := fun σ H Q => t σ H fun vs H1 => ∀ x dx, H1 x = none → H1 dx = none → dx ≠ x → sp (.ref x :: vs) (upd (upd H1 dx (.own x)) x (.ins C dx [])) (fun v H2 => v = .non ∧ Q (.ref x) H2) (E σ)
section
variable {X : Cx} {x : Str} {p pos : Pos} {e : Expr} {es : List Expr} {t : TA} {sp : Sp} {j k : Nat} {CX : CXT} {E : XK} {C : Addr} {U : WX}
theorem CalK.pex (c : CalK X.prog X.w X.K X.mg X.base CX j C x sp) (hr : Room k X.A) (hx : Passes CX X E) (ha : PA X (e :: es) t) (hjk : j + 1 ≤ k := by first | decide | omega) (hg : Gl X x := by rfl) (hdb : (x == ("__debug__" : Str)) = false := by decide)
    (he : starEach (e :: es) X.env = (false, eval e X.env) :: starEach es X.env := by rfl) (hpl : (backTo pos (starEach es X.env)).any (·.1) = false := by rfl) :
    PE X (.Call (.Name x p) (e :: es) [] pos) (tMake C sp [] E t) :=
  let ⟨_, _, _, F, m, b⟩ := c.ex
  pe_make m F (hr.mono hjk) hg c.mg b .nil hx ha hdb he hpl
theorem make_at {f : Addr} {fd : FuncData} {ps : List Str} {held : List (Addr × Obj)} {σ : L2.St} {H : Hp} {s : Shared} {Q : VK} {us : List Value} {vs : List V} {W : L2.St → XK} (M : Mk X.K C f) (F : FnOk X.prog X.w X.K X.mg X.base CX j f fd ps sp) (hr : Room (j + 1) X.A) (hb : Binds X.K fd ps [])
    (passes : PassesAt CX X σ (W σ)) (I : Inv X held σ H s) (rel : Vals vs us) (wish : ∀ x dx, H x = none → H dx = none → dx ≠ x → sp (.ref x :: vs) (upd (upd H dx (.own x)) x (.ins C dx [])) (fun v H2 => v = .non ∧ Q (.ref x) H2) (W σ)) :
    wpAny (model X.prog X.w) X.A (call (.ref C) us) (EP X held σ Q) X.xe s := by
  have init := wish (s.heap.objs.size + 1) s.heap.objs.size (I.hok.fresh (Nat.le_succ _)) (I.hok.fresh (Nat.le_refl _)) (Nat.ne_of_lt (Nat.lt_succ_self _))
  have born := Inv.made (C := C) I
  have rels : Vals (V.ref (s.heap.objs.size + 1) :: vs) (Value.ref (s.heap.objs.size + 1) :: us) := .cons rfl rel
  have count : (Value.ref (s.heap.objs.size + 1) :: us ++ []).length = ps.length := by
    rw [List.append_nil, ← rels.length]
    exact F.len _ _ _ _ init
  have binds := hb _ (Value.ref (s.heap.objs.size + 1) :: us) born.kIn count
  rw [List.append_nil] at binds
  refine wpAny_call (make_map (f := f) I.kIn M.makes M.init (beq_iff_eq.mp M.fn) (codeAny_mono (F.run _ X.stack _ _ ⟨_ :: us, []⟩ (_ :: us) _ _ (W σ) (hr.make C us []) (born.env0.make C us []) binds rels init) fun res t ended => ?_))
  match res, ended with
  | .error _, z => exact passes held _ _ _ t born z
  | .ok .next, z => exact False.elim z
  | .ok .brk, z => exact False.elim z
  | .ok .cont, z => exact False.elim z
  | .ok (.ret u), z =>
    obtain ⟨v, H2, I3, rv, ev, q3⟩ := born.after z
    subst ev
    exact ⟨rv, ⟨V.ref (s.heap.objs.size + 1), H2, I3, rfl, q3⟩⟩
theorem CalK.peG (c : CalK X.prog X.w X.K X.mg X.base (CXG X.prog X.w) j C x sp) (hr : Room k X.A) (tk : TakesG X U) (ha : PA X (e :: es) t) (hjk : j + 1 ≤ k := by first | decide | omega) (hg : Gl X x := by rfl) (hdb : (x == ("__debug__" : Str)) = false := by decide)
    (he : starEach (e :: es) X.env = (false, eval e X.env) :: starEach es X.env := by rfl) (hpl : (backTo pos (starEach es X.env)).any (·.1) = false := by rfl) :
    PE X (.Call (.Name x p) (e :: es) [] pos) (tMakeV C sp (WE U) t) := by
  obtain ⟨f, fd, ps, F, m, b⟩ := c.ex
  refine ⟨fun held s σ H Q I h => wpAny_Call_Name_kw (ld_glob I hg c.mg (PySem.W.callWith_K (h₀ := X.base) I.ok.mod.kin m.kp (thn (ha.run pos held s σ H _ I h) fun us s1 told => ?_) he hpl) hdb)⟩
  obtain ⟨vs, H1, I1, r, q⟩ := told
  exact ⟨I1.kIn, make_at m F (hr.mono hjk) b (passAtG tk σ) I1 r q⟩
end
end SC
/-! the head by one run of the kernel: what the end leans on is looked at there, nothing of the top is written out -/
namespace SC
open PySem PySem.Spec PyProof.Rows L2 LamX
/-- the law's end: F is given the part of the heap -/
theorem walk_tabE {l : PySem.W.OpenLaw} {n k : Nat} {q : Program} {loose : List Str} {XP : (Str → Option Value) → Heap → Prop} {YP : World → Heap → Prop} {d : DefRec} {CX : CXT} {x : Str} {Sx : PySem.W.Frag → Prop} {nm : Str}
    (hn : l.most = some n) (hn2 : n ≤ sizeLine) (hdf : d.params.defaults = []) (hx : d.name = nm) (hr : Room k callerA) (hY : ∀ (w : World) (h : Heap), YP w h → ∃ K : PySem.W.Frag, K.In h ∧ Sx K)
    (hCX : ∀ (H : Hp) (s : Shared) (e : Value) (s' : Shared), CX [] H s (fun _ _ _ => False) e s' → False)
    (F : ∀ (w : World) (mg mb : Str → Option Value) (lo : List Str) (mean : ExcName → Option Value) (fa : Addr) (h : Heap) (K : PySem.W.Frag), Top q lo mean mg mb h → K.In h → Sx K → h.Ns mainGlobals mg → mg nm = some (.ref fa) → LawAtS l w K CX k n x mg fa h) :
    PySem.W.WalkO q loose XP YP l.row.toRowW d [] (fun f vs => PySem.call f vs) := by
  refine Att.attach_callB hn hdf fun w s0 s1 mg mb fa o pm cd doc a vs ns G Y ho hd hcd hmg hobj hints hlen hbits hg => ?_
  obtain ⟨K, KX, c⟩ := hY w _ Y
  obtain ⟨fd, cs, sp, hT, nT, C, hb, hsp, hF⟩ := F w mg mb _ _ fa _ K G.T KX c G.T.g (by rw [← hx]; exact hmg)
  exact law_callTs KX G.T.g G.T.b G.T.builtins G.T.nolimit hg hT nT C G.T.bmain hobj hints (Nat.le_trans hlen hn2) hr hF hb (fun H hH hS => hsp H a ns hlen hbits hH hS) fun H e s' => hCX H s1 e s'
/-- the run's equation out of its parts (each a run of its own: less memory at a time) -/
theorem run_of3 {r : PySem.W.OpenRow} {q : Program} {H : PySem.W.Hook} {ob : PySem.W.SharedT → H.α} {M : Nat} {loose : List Str} {w : World}
    (a : ∀ os : OsState, (HandSHeadRun.endF (HandSHeadRun.stepQ (HandSHeadRun.denQ HandSHeadRun.tabQ) r.prog w) M r.prog w os).map (fun s => HandSHeadRun.looksF r.prog (PySem.W.boot_heap w.params) s.abs) = some true)
    (b : ∀ os : OsState, (HandSHeadRun.endF (HandSHeadRun.stepQ (HandSHeadRun.denQ HandSHeadRun.tabQ) r.prog w) M r.prog w os).map (fun s => HandSHeadRun.seenQ q loose (importedModules r.prog.main.body) (fun s => PySem.W.xlAt q [] s && PySem.W.recOk r.toRowW.records s) s.abs) = some (PySem.W.openGood q loose))
    (c : ∀ os : OsState, (HandSHeadRun.endF (HandSHeadRun.stepQ (HandSHeadRun.denQ HandSHeadRun.tabQ) r.prog w) M r.prog w os).map ob = some (H.val w)) : HandSHeadRun.RunEq r q H ob M loose w := by
  intro os
  have a := a os
  have b := b os
  have c := c os
  cases e : HandSHeadRun.endF (HandSHeadRun.stepQ (HandSHeadRun.denQ HandSHeadRun.tabQ) r.prog w) M r.prog w os with
  | none => rw [e] at a; cases a
  | some s =>
    rw [e] at a b c
    have a := Option.some.inj a
    have b := Option.some.inj b
    have c := Option.some.inj c
    exact congrArg some (Prod.ext a (Prod.ext b c))
/-! ### the part of the heap that is looked at -/
/-- what an object names (a code object's tables left out) -/
def refsH (o : Obj) : List Addr := match o.data with
  | .dict es _ => es.toList.flatMap fun e => He.refV e.val
  | .func fd => He.refV fd.code
  | .cls cd => cd.ns :: cd.mro.flatMap He.refV
  | _ => []
def stepH (g : Addr → Option Obj) (as : List Addr) : List Addr := as.flatMap fun a => match g a with
  | some o => refsH o
  | none => []
def asH (g : Addr → Option Obj) : List Addr :=
  [mainGlobals] ++ (stepH g [mainGlobals] ++ (stepH g (stepH g [mainGlobals]) ++ (stepH g (stepH g (stepH g [mainGlobals])) ++ stepH g (stepH g (stepH g (stepH g [mainGlobals]))))))
noncomputable def frL (g : Addr → Option Obj) (as : List Addr) : PySem.W.Frag := @List.rec Addr (fun _ => PySem.W.Frag) [] (fun a _ ih => match g a with
  | some o => (a, o) :: ih
  | none => ih) as
theorem frL_eq (g : Addr → Option Obj) : ∀ as, frL g as = He.frG g as
  | [] => rfl
  | a :: r => by
    have h1 : frL g (a :: r) = (match g a with | some o => (a, o) :: frL g r | none => frL g r) := rfl
    rw [h1, frL_eq g r]
    unfold He.frG
    rw [List.filterMap_cons]
    cases g a <;> rfl
/-! ### looks -/
noncomputable def lk (K : PySem.W.Frag) (a : Addr) : Option Obj := @List.rec (Addr × Obj) (fun _ => Option Obj) none (fun p _ ih => @Bool.rec (fun _ => Option Obj) ih (some p.2) (Nat.beq a p.1)) K
theorem lk_eq (a : Addr) : ∀ K : PySem.W.Frag, lk K a = K.lookup a
  | [] => rfl
  | (b, o) :: r => by
    have h1 : lk ((b, o) :: r) a = @Bool.rec (fun _ => Option Obj) (lk r a) (some o) (Nat.beq a b) := rfl
    have h2 : List.lookup a ((b, o) :: r) = match a == b with | true => some o | false => List.lookup a r := rfl
    rw [h1, h2, lk_eq a r]
    have e : (a == b) = Nat.beq a b := by rw [Bool.eq_iff_iff, beq_iff_eq, Nat.beq_eq]
    rw [e]
    cases Nat.beq a b <;> rfl
/-- a key of a namespace -/
noncomputable def keyB (v : Value) (x : Str) : Bool := match v with
  | .str s _ => PySem.W.Fast.sEq s x
  | _ => false
theorem keyB_eq (v : Value) (x : Str) : keyB v x = v.isStr x := by
  cases v with
  | str s t =>
    show PySem.W.Fast.sEq s x = (s == x)
    rw [Bool.eq_iff_iff, PySem.W.Fast.sEq_iff, beq_iff_eq]
  | _ => rfl
noncomputable def findE (es : List DictEntry) (x : Str) : Option Value := @List.rec DictEntry (fun _ => Option Value) none (fun e _ ih => @Bool.rec (fun _ => Option Value) ih (some e.val) (keyB e.key x)) es
theorem findE_eq (x : Str) : ∀ es : List DictEntry, findE es x = (es.find? (·.key.isStr x)).map (·.val)
  | [] => rfl
  | e :: r => by
    have h1 : findE (e :: r) x = @Bool.rec (fun _ => Option Value) (findE r x) (some e.val) (keyB e.key x) := rfl
    rw [h1, findE_eq x r, keyB_eq, List.find?_cons]
    cases e.key.isStr x <;> rfl
noncomputable def nsV (K : PySem.W.Frag) (ns : Addr) (x : Str) : Option Value := match lk K ns with
  | some ⟨_, _, .dict es _, _⟩ => findE es.toList x
  | _ => none
theorem nsV_in {K : PySem.W.Frag} {ns : Addr} {x : Str} {v : Value} (h : nsV K ns x = some v) : PySem.W.nsIn K ns x = some (some v) := by
  unfold nsV at h
  rw [lk_eq] at h
  unfold PySem.W.nsIn
  split at h
  · rename_i q
    rw [q]
    rw [findE_eq] at h
    obtain ⟨e, he, rfl⟩ := Option.map_eq_some_iff.mp h
    simp only [he]
  · cases h
noncomputable def gA (K : PySem.W.Frag) (x : Str) : Addr := match nsV K mainGlobals x with
  | some (.ref a) => a
  | _ => 0
/-- a method of the class itself -/
noncomputable def ownV (K : PySem.W.Frag) (C : Addr) (m : Str) : Option Value := match lk K C with
  | some ⟨_, _, .cls cd, _⟩ => (match cd.mro with
    | .ref D :: _ => (match Nat.beq D C with
      | true => nsV K cd.ns m
      | false => none)
    | _ => none)
  | _ => none
theorem ownV_in {K : PySem.W.Frag} {C : Addr} {m : Str} {v : Value} (h : ownV K C m = some v) : PySem.W.findIn K (.ref C) m = some (some v) := by
  unfold ownV at h
  rw [lk_eq] at h
  split at h
  · rename_i q
    split at h
    · rename_i D r e
      split at h
      · rename_i eD
        have eD := Nat.eq_of_beq_eq_true eD
        subst eD
        unfold PySem.W.findIn
        simp only [q, e]
        unfold PySem.W.alongIn PySem.W.ownIn
        simp only [q, nsV_in h]
      · cases h
    · cases h
  · cases h
noncomputable def mA (K : PySem.W.Frag) (C : Addr) (m : Str) : Addr := match ownV K C m with
  | some (.ref a) => a
  | _ => 0
noncomputable def fA (K : PySem.W.Frag) (p : Str × Option Str) : Addr := match p.2 with
  | none => gA K p.1
  | some m => mA K (gA K p.1) m
noncomputable def refAt (K : PySem.W.Frag) (p : Str × Option Str) : Bool := match (match p.2 with
  | none => nsV K mainGlobals p.1
  | some m => ownV K (gA K p.1) m) with
  | some (.ref _) => true
  | _ => false
/-- a class stands under its name -/
noncomputable def gloB (K : PySem.W.Frag) (x : Str) : Bool := refAt K (x, none)
theorem glo_of {K : PySem.W.Frag} {x : Str} (h : gloB K x = true) : PySem.W.nsIn K mainGlobals x = some (some (.ref (gA K x))) := by
  have h : (match nsV K mainGlobals x with | some (.ref _) => true | _ => false) = true := h
  unfold gA
  split at h
  · rename_i a e
    exact nsV_in e
  · cases h
theorem met_of {K : PySem.W.Frag} {C m : Str} (h : refAt K (C, some m) = true) : PySem.W.findIn K (.ref (gA K C)) m = some (some (.ref (mA K (gA K C) m))) := by
  have h : (match ownV K (gA K C) m with | some (.ref _) => true | _ => false) = true := h
  unfold mA
  split at h
  · rename_i a e
    exact ownV_in e
  · cases h
noncomputable def codeB (K : PySem.W.Frag) (cd : Value) (q : Str) : Bool := match cd with
  | .ref c => (match lk K c with
      | some ⟨_, _, .fields vs, _⟩ => (match vs.toList with | _ :: .str n _ :: _ => PySem.W.Fast.sEq n q | _ => false)
      | _ => false)
  | _ => false
theorem codeB_in {K : PySem.W.Frag} {cd : Value} {q : Str} (h : codeB K cd q = true) : PySem.W.codeIn K cd q = true := by
  unfold codeB at h
  split at h
  · rename_i c
    rw [lk_eq] at h
    split at h
    · rename_i e
      split at h
      · rename_i e2
        unfold PySem.W.codeIn
        simp only [e, e2]
        rw [PySem.W.Fast.sEq_iff.mp h, beq_self_eq_true]
      · cases h
    · cases h
  · cases h
/-- a def: where it stands, a function, its code object -/
noncomputable def okF (K : PySem.W.Frag) (d : He.FnD) : Bool := match refAt K d.at_ with
  | true => (match lk K (fA K d.at_) with
    | some ⟨.type "function", _, .func fd, _⟩ => codeB K fd.code d.qual
    | _ => false)
  | false => false
noncomputable def fnO (K : PySem.W.Frag) (p : Str × Option Str) : He.FnV := match lk K (fA K p) with
  | some ⟨_, _, .func fd, _⟩ => some (fd.name, fd.qualname, fd.params, fd.body, fd.scope, fd.globals, fd.closure, fd.defaults, fd.builtins)
  | _ => none
theorem okF_of {K : PySem.W.Frag} {d : He.FnD} (o : okF K d = true) (e : fnO K d.at_ = d.val) : refAt K d.at_ = true ∧ PySem.W.isFn K (.ref (fA K d.at_)) = true ∧ PySem.W.keepIn K (.ref (fA K d.at_)) = true ∧
    ∃ oc od osl kV doc pm an cdv ct, K.lookup (fA K d.at_) = some ⟨oc, od, .func (PySem.W.fnOf d.name d.qual d.params d.body d.scope .none kV doc pm an cdv ct), osl⟩ ∧ PySem.W.codeIn K cdv d.qual = true := by
  unfold okF at o
  split at o
  · rename_i hr
    refine ⟨hr, ?_⟩
    rw [lk_eq] at o
    split at o
    · rename_i od fd osl q
      unfold fnO at e
      rw [lk_eq, q] at e
      obtain ⟨n1, n2, n3, n4, n5, n6, n7, n8, n9, n10, n11, n12, n13, n14, n15⟩ := fd
      have e2 : (some (n1, n2, n3, n4, n5, n6, n7, n8, n15) : He.FnV) = some (d.name, d.qual, d.params, .stmts d.body, d.scope, mainGlobals, [], .none, builtinsNs) := e
      simp only [Option.some.injEq, Prod.mk.injEq] at e2
      obtain ⟨h1, h2, h3, h4, h5, h6, h7, h8, h9⟩ := e2
      subst h1 h2 h3 h4 h5 h6 h7 h8 h9
      refine ⟨?_, ?_, _, od, osl, n9, n10, n11, n12, n13, n14, q, codeB_in o⟩
      · unfold PySem.W.isFn PySem.W.typeIn
        simp only [q, Option.map_some]
        rfl
      · unfold PySem.W.keepIn
        simp only [q]
    · cases o
  · cases o
/-- a def's table: written, not looked at -/
noncomputable def okTb (K : PySem.W.Frag) (d : He.FnD) : Bool := match lk K (fA K d.at_) with
  | some ⟨_, _, .func fd, _⟩ => (match fd.code with
    | .ref c => (match lk K c with
      | some ⟨_, _, .fields vs, _⟩ => (match (vs[11]? : Option Value) with
        | some (.ref P) => (lk K P).isNone
        | _ => false)
      | _ => false)
    | _ => false)
  | _ => false
/-- an error class with its own __init__ -/
def oexB (K : PySem.W.Frag) (C : Addr) : Bool := (match K.lookup C with
  | some ⟨.type "type", _, .cls ⟨_, _, .ref C' :: bm, _, _, true, _, _, _, _, false⟩, ⟨[_, _, _, _, some (.builtin n), _]⟩⟩ => decide (C' = C) && (decide (n = "ValueError.__new__") && PySem.HandSPX.refsVE bm)
  | _ => false) && (decide (PySem.W.findIn K (.ref C) "__setattr__" = some (some (.builtin "object.__setattr__"))) && (decide (PySem.W.subIn K (.ref C) (.type "BaseException") = some true) && (decide (PySem.W.typeIn K (.ref C) = some (.type "type")) && PySem.W.keepIn K (.ref C))))
theorem oexB_ok {K : PySem.W.Frag} {C : Addr} (h : oexB K C = true) : OexC K C := by
  unfold oexB at h
  obtain ⟨h1, h⟩ := Bool.and_eq_true_iff.mp h
  obtain ⟨h2, h⟩ := Bool.and_eq_true_iff.mp h
  obtain ⟨h3, h⟩ := Bool.and_eq_true_iff.mp h
  obtain ⟨h4, h5⟩ := Bool.and_eq_true_iff.mp h
  refine ⟨?_, of_decide_eq_true h2, of_decide_eq_true h3, of_decide_eq_true h4, h5⟩
  split at h1
  · rename_i q
    obtain ⟨a, h1⟩ := Bool.and_eq_true_iff.mp h1
    obtain ⟨b, c⟩ := Bool.and_eq_true_iff.mp h1
    have a := of_decide_eq_true a
    have b := of_decide_eq_true b
    subst a b
    exact ⟨_, _, _, _, _, _, _, _, _, _, _, _, _, _, _, q, c⟩
  · cases h1
/-- a tuple of texts -/
def strsB (K : PySem.W.Frag) (a : Addr) (zs : List Str) : Bool := match K.lookup a with
  | some ⟨.type c, none, .seq its _, _⟩ => decide (c = "tuple") && (decide (its.size ≤ 1000) && He.relAll (zs.map V.str) its.toList)
  | _ => false
theorem strsB_ok {K : PySem.W.Frag} {a : Addr} {zs : List Str} (h : strsB K a zs = true) : ∃ (o : Obj) (its : Array Value) (n : Nat), K.lookup a = some o ∧ o.cls = .type "tuple" ∧ o.dict = none ∧ o.data = .seq its n ∧ its.size ≤ sizeLine ∧ Vals (zs.map V.str) its.toList := by
  unfold strsB at h
  split at h
  · rename_i c its n sl q
    obtain ⟨h1, h⟩ := Bool.and_eq_true_iff.mp h
    obtain ⟨h2, h3⟩ := Bool.and_eq_true_iff.mp h
    have h1 := of_decide_eq_true h1
    subst h1
    exact ⟨_, its, n, q, rfl, rfl, rfl, by rw [sizeLine_eq]; have := of_decide_eq_true h2; omega, He.relAll_ok h3⟩
  · cases h
theorem int_in {K : PySem.W.Frag} {x : Str} {i : Int} (c : (He.Fa.int x i).ok K = true) : ∃ t, PySem.W.nsIn K mainGlobals x = some (some (.int i t)) := by
  have c2 : (match PySem.W.nsIn K mainGlobals x with
    | some (some (.int j _)) => decide (j = i)
    | _ => false) = true := c
  split at c2
  · rename_i j t e
    rw [← of_decide_eq_true c2]
    exact ⟨t, e⟩
  · cases c2
theorem str_in {K : PySem.W.Frag} {x z : Str} (c : (He.Fa.str x z).ok K = true) : ∃ t, PySem.W.nsIn K mainGlobals x = some (some (.str z t)) := by
  have c2 : (match PySem.W.nsIn K mainGlobals x with
    | some (some (.str y _)) => decide (y = z)
    | _ => false) = true := c
  split at c2
  · rename_i j t e
    rw [← of_decide_eq_true c2]
    exact ⟨t, e⟩
  · cases c2
/-! ### the Hook -/
abbrev FxL : Type := List (List (PySem.W.Frag → Bool))
abbrev AlH : Type := Bool × (Bool × (Bool × List (List He.FnV)))
noncomputable def obsH (fx : FxL) (fn : List (List He.FnD)) (tf : List He.FnD) (K : PySem.W.Frag) : AlH :=
  (fx.all fun g => g.all fun f => f K, fn.all fun g => g.all fun d => okF K d, tf.all fun d => okTb K d, fn.map fun g => g.map fun d => fnO K d.at_)
def valH (fn : List (List He.FnD)) : AlH := (true, true, true, fn.map fun g => g.map He.FnD.val)
def SaysH (fx : FxL) (fn : List (List He.FnD)) (tf : List He.FnD) (K : PySem.W.Frag) : Prop := obsH fx fn tf K = valH fn
noncomputable def obsHG (fx : FxL) (fn : List (List He.FnD)) (tf : List He.FnD) (g : Addr → Option Obj) : AlH := obsH fx fn tf (frL g (asH g))
noncomputable def hookH (fx : FxL) (fn : List (List He.FnD)) (tf : List He.FnD) : PySem.W.Hook where
  α := AlH
  obs := fun s => obsHG fx fn tf s.heap.get?
  val := fun _ => valH fn
  says := fun _ h => ∃ K : PySem.W.Frag, K.In h ∧ SaysH fx fn tf K
  of := fun _ _ e => ⟨_, by rw [frL_eq]; exact He.frG_in, e⟩
  keeps := fun _ _ _ ⟨K, hK, c⟩ k => ⟨K, PySem.W.Frag.In.keeps hK k, c⟩
theorem obsHG_eq {fx : FxL} {fn : List (List He.FnD)} {tf : List He.FnD} (s : PySem.W.SharedT) : obsHG fx fn tf (HandSHeadRun.getT s) = (hookH fx fn tf).obs s.abs := by
  have e : HandSHeadRun.getT s = s.abs.heap.get? := funext fun a => HandSHeadRun.getT_eq s a
  rw [e] <;> rfl
section
variable {fx : FxL} {fn : List (List He.FnD)} {tf : List He.FnD} {K : PySem.W.Frag}
theorem SaysH.fact (c : SaysH fx fn tf K) (j i : Nat) {g : List (PySem.W.Frag → Bool)} {f : PySem.W.Frag → Bool} (h : fx[j]? = some g) (h2 : g[i]? = some f) : f K = true := by
  have c1 : (fx.all fun g => g.all fun f => f K) = true := congrArg (fun z : AlH => z.1) c
  exact List.all_eq_true.mp (List.all_eq_true.mp c1 g (List.mem_of_getElem? h)) f (List.mem_of_getElem? h2)
theorem SaysH.func (c : SaysH fx fn tf K) (j i : Nat) {g : List He.FnD} {d : He.FnD} (h : fn[j]? = some g) (h2 : g[i]? = some d) : okF K d = true ∧ fnO K d.at_ = d.val := by
  have c1 : (fn.all fun g => g.all fun d => okF K d) = true := congrArg (fun z : AlH => z.2.1) c
  have o := List.all_eq_true.mp (List.all_eq_true.mp c1 g (List.mem_of_getElem? h)) d (List.mem_of_getElem? h2)
  have e : fn.map (fun g => g.map fun d => fnO K d.at_) = fn.map fun g => g.map He.FnD.val := congrArg (fun z : AlH => z.2.2.2) c
  have e2 : (fn.map fun g => g.map fun d => fnO K d.at_)[j]? = (fn.map fun g => g.map He.FnD.val)[j]? := by rw [e]
  rw [List.getElem?_map, List.getElem?_map, h] at e2
  have e3 : g.map (fun d => fnO K d.at_) = g.map He.FnD.val := Option.some.inj e2
  have e4 : (g.map fun d => fnO K d.at_)[i]? = (g.map He.FnD.val)[i]? := by rw [e3]
  rw [List.getElem?_map, List.getElem?_map, h2] at e4
  exact ⟨o, Option.some.inj e4⟩
theorem SaysH.glo (c : SaysH fx fn tf K) (j i : Nat) {g : List He.FnD} {d : He.FnD} {x : Str} (h : fn[j]? = some g) (h2 : g[i]? = some d) (h3 : d.at_ = (x, none)) :
    PySem.W.nsIn K mainGlobals x = some (some (.ref (fA K d.at_))) ∧ PySem.W.keepIn K (.ref (fA K d.at_)) = true ∧ ∃ oc od osl kV doc pm an cdv ct, K.lookup (fA K d.at_) = some ⟨oc, od, .func (PySem.W.fnOf d.name d.qual d.params d.body d.scope .none kV doc pm an cdv ct), osl⟩ ∧ PySem.W.codeIn K cdv d.qual = true := by
  obtain ⟨o, e⟩ := SaysH.func c j i h h2
  obtain ⟨a, b, k, r⟩ := okF_of o e
  refine ⟨?_, k, r⟩
  rw [h3] at a ⊢
  exact glo_of a
theorem SaysH.met (c : SaysH fx fn tf K) (j i : Nat) {g : List He.FnD} {d : He.FnD} {x m : Str} (h : fn[j]? = some g) (h2 : g[i]? = some d) (h3 : d.at_ = (x, some m)) :
    PySem.W.findIn K (.ref (gA K x)) m = some (some (.ref (fA K d.at_))) ∧ PySem.W.isFn K (.ref (fA K d.at_)) = true ∧ PySem.W.keepIn K (.ref (fA K d.at_)) = true ∧ ∃ oc od osl kV doc pm an cdv ct, K.lookup (fA K d.at_) = some ⟨oc, od, .func (PySem.W.fnOf d.name d.qual d.params d.body d.scope .none kV doc pm an cdv ct), osl⟩ ∧ PySem.W.codeIn K cdv d.qual = true := by
  obtain ⟨o, e⟩ := SaysH.func c j i h h2
  obtain ⟨a, b, k, r⟩ := okF_of o e
  refine ⟨?_, b, k, r⟩
  rw [h3] at a ⊢
  exact met_of a
theorem SaysH.tab (c : SaysH fx fn tf K) (i : Nat) {d : He.FnD} (h : tf[i]? = some d) {oc : Value} {od : Option Addr} {osl : Array (Option Value)} {fd : FuncData} (l : K.lookup (fA K d.at_) = some ⟨oc, od, .func fd, osl⟩) :
    ∃ (cc : Addr) (cK : Value) (dc : Option Addr) (vs : Array Value) (sc : Array (Option Value)) (P : Addr), fd.code = .ref cc ∧ K.lookup cc = some ⟨cK, dc, .fields vs, sc⟩ ∧ vs[11]? = some (.ref P) ∧ K.lookup P = none := by
  have c1 : (tf.all fun d => okTb K d) = true := congrArg (fun z : AlH => z.2.2.1) c
  have o := List.all_eq_true.mp c1 d (List.mem_of_getElem? h)
  unfold okTb at o
  rw [lk_eq, l] at o
  dsimp only at o
  split at o
  · rename_i c0 e0
    rw [lk_eq] at o
    split at o
    · rename_i x1 x2 vs x3 e1
      split at o
      · rename_i P e2
        rw [lk_eq] at o
        exact ⟨c0, _, _, vs, _, P, e0, e1, e2, Option.isNone_iff_eq_none.mp o⟩
      · cases o
    · cases o
  · cases o
end
end SC
namespace SC
open PySem L2
def top (i : Nat) : Stmt := PySem.Challenge.pw_sealchart_k61_turned_charters.main.body.getD i (.Pass ⟨0, 0, 0, 0⟩)
local macro_rules | `(tactic| walk_at "wp") => `(tactic| simp (config := { decide := false }) only [tFmtX, gCons, gNil, tSeq, tAsg, tIfS, tRet, tTest, tOp, tUn, tVar, tC, tCB, tCall, tCons, tNil, tLst, tTup, tAnd, tOr, tNot, tAndV, tOrV, tNotV, tB, tChain, tIf, tIsT, tSl, rSlS, tNoPart, tPart, tErr, tAug, ipI, tDrop, tM1, tBM, rAppend, tFld, sFld, sDPut, tDGet1, tDNewT, tDNewK, tDisp, tPairs, tDGet, tDIn, tDNotIn, tDPop1, tDPop2, tDGet2, sDDel, sFldAug, tMeth, tMake, gSub, gName, tNext, rI, rI0, rU, rEq, rNe, scal, rSetL, L2.start, List.map_cons, List.map_nil, List.length_cons, List.length_nil, List.replicate, List.cons_append, List.nil_append, List.append_nil, List.getElem?_cons_zero, List.getElem?_cons_succ, List.set_cons_zero, List.set_cons_succ, cxOf,
    Option.some.injEq, V.int.injEq, V.ref.injEq, V.str.injEq, V.bl.injEq, V.ty.injEq, HO.lst.injEq, HO.tup.injEq, List.cons.injEq, exists_eq_left, exists_eq_left', exists_eq_right, exists_and_left, exists_eq, and_true, true_and, and_assoc, reduceCtorEq, false_and, and_false, exists_false, or_false, false_or, decide_eq_true_eq, Bool.not_eq_true', decide_eq_false_iff_not, decide_true, decide_false, Bool.false_eq_true, upd_same, at0, at1, ixN_20, ixN_21, ixN_10, if_true, if_false, ite_true, ite_false, Nat.reduceAdd, Nat.reduceSub, tyN_non, tyN_bl, tyN_int, tyN_str, isaB_all])
local macro_rules | `(tactic| walk_at "wt") => `(tactic| simp (config := { decide := false }) only [tTest, tOp, tVar, tC, tCB, tCons, tNil, tSl, rSlS, tNoPart, tPart, tB, tAnd, tOr, tNot, tAndV, tOrV, tNotV, tChain, tIsT, rI, rI0, rU, rEq, rNe, scal, List.getElem?_cons_zero, List.getElem?_cons_succ,
    Option.some.injEq, V.int.injEq, V.ref.injEq, V.str.injEq, V.bl.injEq, V.ty.injEq, HO.lst.injEq, HO.tup.injEq, List.cons.injEq, exists_eq_left, exists_eq_left', exists_eq_right, exists_and_left, exists_eq, and_true, true_and, and_assoc, reduceCtorEq, false_and, and_false, exists_false, or_false, false_or, decide_eq_true_eq, Bool.not_eq_true', decide_eq_false_iff_not, decide_true, decide_false, Bool.false_eq_true, upd_same, at0, at1, ixN_20, ixN_21, ixN_10, if_true, if_false, ite_true, ite_false, Nat.reduceAdd, Nat.reduceSub, tyN_non, tyN_bl, tyN_int, tyN_str, isaB_all])
local macro_rules | `(tactic| walk_at "wq") => `(tactic| simp (config := { decide := false }) only [tFmtX, gCons, gNil, tSeq, tAsg, tIfS, tRet, tTest, tOp, tUn, tVar, tC, tCB, tCall, tCons, tNil, tLst, tTup, tAnd, tOr, tNot, tAndV, tOrV, tNotV, tB, tChain, tIf, tIsT, tSl, rSlS, tNoPart, tPart, tErr, tAug, ipI, tDrop, tM1, tBM, rAppend, tFld, sFld, sDPut, tDGet1, tDNewT, tMethV, WE, tDNewK, tDisp, tPairs, tDGet, tDIn, tDNotIn, tDPop1, tDPop2, tDGet2, sDDel, sFldAug, tMeth, tMake, gSub, gName, tNext, rI, rI0, rU, rEq, rNe, scal, rSetL, L2.start, List.map_cons, List.map_nil, List.length_cons, List.length_nil, List.replicate, List.cons_append, List.nil_append, List.append_nil, List.getElem?_cons_zero, List.getElem?_cons_succ, List.set_cons_zero, List.set_cons_succ, cxOf,
    Option.some.injEq, V.int.injEq, V.ref.injEq, V.str.injEq, V.bl.injEq, V.ty.injEq, HO.lst.injEq, HO.tup.injEq, List.cons.injEq, exists_eq_left, exists_eq_left', exists_eq_right, exists_and_left, exists_eq, and_true, true_and, and_assoc, reduceCtorEq, false_and, and_false, exists_false, or_false, false_or, decide_eq_true_eq, Bool.not_eq_true', decide_eq_false_iff_not, decide_true, decide_false, Bool.false_eq_true, upd_same, at0, at1, ixN_20, ixN_21, ixN_10, if_true, if_false, ite_true, ite_false, Nat.reduceAdd, Nat.reduceSub, tyN_non, tyN_bl, tyN_int, tyN_str, isaB_all])
/-! the law's own helpers: cell, stream, take, char, string -/
abbrev s_law_cell : Stmt := top 85
abbrev N_law_cell : List Str := ["script", "k"]
theorem sc_law_cell : FnScope N_law_cell ["script", "k"] (defScope s_law_cell) := ⟨rfl, rfl, rfl, by decide +kernel, rfl, by decide +kernel, by decide +kernel⟩
abbrev s_law_stream : Stmt := top 86
abbrev N_law_stream : List Str := ["cell"]
theorem sc_law_stream : FnScope N_law_stream ["cell"] (defScope s_law_stream) := ⟨rfl, rfl, rfl, by decide +kernel, rfl, by decide +kernel, by decide +kernel⟩
abbrev s_law_take : Stmt := top 87
abbrev N_law_take : List Str := ["stream", "many", "worth"]
theorem sc_law_take : FnScope N_law_take ["stream", "many"] (defScope s_law_take) := ⟨rfl, rfl, rfl, by decide +kernel, rfl, by decide +kernel, by decide +kernel⟩
def spCell (K : PySem.W.Frag) : Sp := fun vs H Q _ => ∃ (a : Addr) (ns : List Int) (k : Nat), vs = [.ref a, .int k] ∧ SqL K H a (ns.map V.int) ∧ Q (.int (ns.getD k 0)) H
def spStream : Sp := fun vs H Q _ => ∃ z : Int, vs = [.int z] ∧ ∀ s, H s = none → ∀ a b : Int, Q (.ref s) (upd H s (.lst [.int a, .int b]))
def spTake : Sp := fun vs H Q _ => ∃ (s : Addr) (m : Int), vs = [.ref s, .int m] ∧ Strm H s ∧ (0 < m ∧ m < 2 ^ 200) ∧
  ∀ (w : Int) (H' : Hp), 0 ≤ w → w < m → Kp [s] H H' → Strm H' s → Q (.int w) H'
section
variable {P : Program} {w : World} {K : PySem.W.Frag} {mg : Str → Option Value} {base : Heap} {f : Addr} {fd : FuncData}
theorem two200 {m : Int} (h0 : 0 < m) (h : m < 2 ^ 200) : CDivW a m := by
  refine wide_div (b := 200) h0 ?_ (by decide) (by decide)
  have : (2 : Int) ^ 200 = ((2 ^ 200 : Nat) : Int) := by decide +kernel
  rw [this] at h
  omega
theorem ok_cell (F : Fun K "_law_cell" "_law_cell" s_law_cell f fd) (B : Blt mg) : FnOk P w K mg base CX0 1 f fd ["script", "k"] (spCell K) := by
  refine F.ok sc_law_cell (fun vs H Q E h => ?_) (fun cdv A outer s H vs Q E hr h => ?_)
  · obtain ⟨a, ns, k, rfl, _⟩ := h; rfl
  obtain ⟨a, ns, k, rfl, hS, q⟩ := h
  refine ⟨_, (pss_cons (ps_if (pt_cmpR op_lt (pv 1) (B.len_q (pa_cons (pv 0) pa_nil)) (nomark _)) (pss_one (ps_ret (pe_ix ix_list (pv 0) (pv 1) (fun _ _ => rfl)))) pss_nil)
    (pss_one (ps_ret pe_int))), ?_⟩
  walk_at "wp"
  refine ⟨_, Or.inl hS, ?_⟩
  rw [List.length_map]
  by_cases c : k < ns.length
  · rw [if_pos (by omega)]
    rw [List.getD_eq_getElem?_getD, List.getElem?_eq_getElem c] at q
    exact ⟨a, _, (k : Int), V.int ns[k], rfl, rfl, hS, atI_nat (j := k) (by rw [List.getElem?_map, List.getElem?_eq_getElem c] <;> rfl), q⟩
  · rw [if_neg (by omega)]
    rw [List.getD_eq_getElem?_getD, List.getElem?_eq_none (by omega)] at q
    exact q
theorem ok_stream (F : Fun K "_law_stream" "_law_stream" s_law_stream f fd) (B : Blt mg) : FnOk P w K mg base CX0 1 f fd ["cell"] spStream := by
  refine F.ok sc_law_stream (fun vs H Q E h => ?_) (fun cdv A outer s H vs Q E hr h => ?_)
  · obtain ⟨z, rfl, _⟩ := h; rfl
  obtain ⟨z, rfl, q⟩ := h
  refine ⟨_, (pss_cons (ps_if (pt_cmpR op_ge (pv 0) (pe_op op_pow pe_int pe_int) (nomark _)) (pss_one (ps_ret (pe_lst (pa_cons (pv 0) (pa_cons pe_int pa_nil))))) pss_nil)
    (pss_one (ps_ret (pe_lst (pa_cons pe_int (pa_cons (pv 0) pa_nil)))))), ?_⟩
  walk_at "wp"
  have e2 : (2 : Nat) ≤ sizeLine := by decide
  refine ⟨by refine ⟨?_, ?_, ?_⟩ <;> decide, ?_⟩
  split
  · exact ⟨e2, fun p hp => q p hp _ _⟩
  · exact ⟨e2, fun p hp => q p hp _ _⟩
theorem ok_take (F : Fun K "_law_take" "_law_take" s_law_take f fd) (B : Blt mg) : FnOk P w K mg base CX0 1 f fd ["stream", "many"] spTake := by
  refine F.ok sc_law_take (fun vs H Q E h => ?_) (fun cdv A outer s H vs Q E hr h => ?_)
  · obtain ⟨s, m, rfl, _⟩ := h; rfl
  obtain ⟨p, m, rfl, ⟨a, b, hp⟩, ⟨m0, m1⟩, q⟩ := h
  refine ⟨_, (pss_cons (ps_if (pt_cmpR op_gt (pe_ix ix_lM (pv 0) pe_int (fun _ _ => rfl)) pe_int (nomark _)) (pss_cons (ps_set (i := 2) sc_law_take.nd rfl (Or.inl rfl) (pe_op op_mod (B.int_i (pa_cons (pe_ix ix_lM (pv 0) pe_int (fun _ _ => rfl)) pa_nil)) (pv 1)))
    (pss_cons (ps_asg (pe_op op_fdivW (pe_ix ix_lM (pv 0) pe_int (fun _ _ => rfl)) (pv 1)) (pg_sub (pv 0) pe_int set_list))
    (pss_one (ps_ret (pv 2))))) pss_nil)
    (pss_cons (ps_asg (pe_op op_mod (B.int_i (pa_cons (pe_op op_add (pe_op op_mul (pe_ix ix_lM (pv 0) pe_int (fun _ _ => rfl)) pe_int) pe_int) pa_nil)) pe_int) (pg_sub (pv 0) pe_int set_list))
    (pss_one (ps_ret (pe_op op_mod (B.int_i (pa_cons (pe_op op_add (pe_op op_fdivW (pe_op op_mul (pe_ix ix_lM (pv 0) pe_int (fun _ _ => rfl)) (pe_ix ix_lM (pv 0) pe_int (fun _ _ => rfl))) pe_int) (pe_op op_fdivW (pe_ix ix_lM (pv 0) pe_int (fun _ _ => rfl)) pe_int)) pa_nil)) (pv 1)))))), ?_⟩
  walk_at "wp"
  simp only [hp, Option.some.injEq, HO.lst.injEq, exists_eq_left', at0, at1, V.int.injEq, List.length_cons, List.length_nil, Nat.reduceAdd, ixN_20, ixN_21, List.set_cons_zero, List.set_cons_succ, upd_same]
  have kp : ∀ x y : Int, Kp [p] H (upd H p (.lst [.int x, .int y])) := fun x y => Kp.lst hp (List.mem_singleton.mpr rfl)
  split
  · exact ⟨m0, two200 m0 m1, q _ _ (Int.emod_nonneg _ (by omega)) (Int.emod_lt_of_pos _ m0) (kp _ _) Strm.mk⟩
  · have n0 := Int.emod_nonneg (b * 48271 + 69621) (show (2147483647 : Int) ≠ 0 by decide)
    have n1 := Int.emod_lt_of_pos (b * 48271 + 69621) (show (0 : Int) < 2147483647 by decide)
    have lit : ∀ {j : Int} {i : Int}, 0 < j → j < 2 ^ 200 → CDivW i j := fun h0 h1 => two200 h0 h1
    refine ⟨.inr (by decide), by decide, .inl ⟨by omega, by omega⟩, lit (by decide) (by decide), lit (by decide) (by decide), m0, ?_⟩
    exact q _ _ (Int.emod_nonneg _ (by omega)) (Int.emod_lt_of_pos _ m0) (kp _ _) Strm.mk
end
/-! the program's is_printable, is_integer; the law's says -/
abbrev s_is_printable : Stmt := top 36
abbrev N_is_printable : List Str := ["value"]
theorem sc_is_printable : FnScope N_is_printable ["value"] (defScope s_is_printable) := ⟨rfl, rfl, rfl, by decide +kernel, rfl, by decide +kernel, by decide +kernel⟩
abbrev s_is_integer : Stmt := top 37
abbrev N_is_integer : List Str := ["value", "least", "greatest"]
theorem sc_is_integer : FnScope N_is_integer ["value", "least", "greatest"] (defScope s_is_integer) := ⟨rfl, rfl, rfl, by decide +kernel, rfl, by decide +kernel, by decide +kernel⟩
def prV : V → Bool
  | .str z => prn z
  | _ => false
def inV (lo hi : Int) : V → Bool
  | .int i => decide (lo ≤ i) && decide (i ≤ hi)
  | _ => false
/-- is_printable(v), Pt the table of its code -/
def spPrn (Pt : Addr) : Sp := fun vs H Q _ => ∃ v : V, vs = [v] ∧ GxR.TabG H Pt ∧ (∃ t, tyN H v = some t) ∧ ∀ H', Kp [Pt] H H' → GxR.TabG H' Pt → Q (.bl (prV v)) H'
def spIntg : Sp := fun vs H Q _ => ∃ (v : V) (lo hi : Int), vs = [v, .int lo, .int hi] ∧ (∃ t, tyN H v = some t) ∧ Q (.bl (inV lo hi v)) H
section
variable {P : Program} {w : World} {K : PySem.W.Frag} {mg : Str → Option Value} {base : Heap} {f : Addr} {fd : FuncData}
theorem ok_printable {oc kV doc pm ct : Value} {od an : Option Addr} {osl : Array (Option Value)} {c Pt : Addr} {t37 : Tok} (B : Blt mg) (h37 : mg "_BARRED_CODE" = some (.int 37 t37)) (TB : GxR.TabB base mg c Pt)
    (lk : K.lookup f = some ⟨oc, od, .func (PySem.W.fnOf "is_printable" "is_printable" (defArgs s_is_printable) (defBody s_is_printable) (defScope s_is_printable) .none kV doc pm an (.ref c) ct), osl⟩) (hcd : PySem.W.codeIn K (.ref c) "is_printable" = true) :
    FnOk P w K mg base CX0 3 f (PySem.W.fnOf "is_printable" "is_printable" (defArgs s_is_printable) (defBody s_is_printable) (defScope s_is_printable) .none kV doc pm an (.ref c) ct) ["value"] (spPrn Pt) := by
  refine fn_of lk hcd sc_is_printable (fun vs H Q E h => ?_) (fun A outer s H vs Q E hr h => ?_)
  · obtain ⟨v, rfl, _⟩ := h; rfl
  obtain ⟨v, rfl, hG, ⟨t, ht⟩, q⟩ := h
  refine ⟨_, PSs.nox (pss_cons (ps_if (pt_not (pt_val (B.isT (pv 0) B.v_str))) (pss_one (ps_ret pe_bl)) pss_nil)
    (pss_one (ps_ret (pe_allX hr B TB rfl (gsOf (by decide +kernel) (by decide +kernel)) (pv 0) (elt_prn B h37 rfl rfl rfl rfl) (fun _ => rfl))))), ?_⟩
  walk_at "wp"
  refine ⟨t, ht, ?_⟩
  cases c1 : isaB t "str" with
  | true =>
    obtain ⟨z, rfl⟩ := isa_str ht c1
    rw [if_neg (by decide)]
    exact ⟨_, rfl, z, rfl, hG, fun H2 hT => q H2 (Kp.tab hG hT (List.mem_singleton.mpr rfl)) hT.1⟩
  | false =>
    rw [if_pos rfl]
    have e : prV v = false := by
      cases v with
      | str z => cases ht; exact absurd c1 (by decide)
      | _ => rfl
    have z := q H (Kp.refl _ _) hG
    rw [e] at z
    exact z
theorem ok_integer (F : Fun K "is_integer" "is_integer" s_is_integer f fd) (B : Blt mg) : FnOk P w K mg base CX0 1 f fd ["value", "least", "greatest"] spIntg := by
  refine F.ok sc_is_integer (fun vs H Q E h => ?_) (fun cdv A outer s H vs Q E hr h => ?_)
  · obtain ⟨v, lo, hi, rfl, _⟩ := h; rfl
  obtain ⟨v, lo, hi, rfl, ⟨t, ht⟩, q⟩ := h
  refine ⟨_, (pss_cons (ps_if (PW.pt (pw_or (pt_not (pt_val (B.isT (pv 0) B.v_int))) (pw_or1 (pt_val (B.isT (pv 0) B.v_bool))))) (pss_one (ps_ret pe_bl)) pss_nil)
    (pss_one (ps_ret (pe_chain op_le op_le (pv 1) (pv 0) (pv 2))))), ?_⟩
  walk_at "wp"
  refine ⟨t, ht, ?_⟩
  cases c1 : isaB t "int" with
  | false =>
    rw [if_pos rfl]
    have e : inV lo hi v = false := by
      cases v with
      | int z => cases ht; exact absurd c1 (by decide)
      | _ => rfl
    rw [e] at q
    exact q
  | true =>
    rw [if_neg (by decide)]
    refine ⟨t, ht, ?_⟩
    rcases isa_int ht c1 with ⟨z, rfl⟩ | ⟨b, rfl⟩
    · cases ht
      rw [if_neg (by decide)]
      have q : Q (.bl (decide (lo ≤ z) && decide (z ≤ hi))) H := q
      refine ⟨z, rfl, ?_⟩
      by_cases c2 : lo ≤ z
      · rw [if_pos c2]
        rw [decide_eq_true c2] at q
        exact ⟨z, rfl, q⟩
      · rw [if_neg c2]
        rw [decide_eq_false c2] at q
        exact q
    · cases ht
      rw [if_pos (by decide)]
      exact q
end
/-! list names and keys -/
abbrev s_consists_of : Stmt := top 32
abbrev N_consists_of : List Str := ["text", "marks"]
theorem sc_consists_of : FnScope N_consists_of ["text", "marks"] (defScope s_consists_of) := ⟨rfl, rfl, rfl, by decide +kernel, rfl, by decide +kernel, by decide +kernel⟩
abbrev s_is_list_name : Stmt := top 27
abbrev N_is_list_name : List Str := ["value"]
theorem sc_is_list_name : FnScope N_is_list_name ["value"] (defScope s_is_list_name) := ⟨rfl, rfl, rfl, by decide +kernel, rfl, by decide +kernel, by decide +kernel⟩
abbrev s_is_key : Stmt := top 28
abbrev N_is_key : List Str := ["value"]
theorem sc_is_key : FnScope N_is_key ["value"] (defScope s_is_key) := ⟨rfl, rfl, rfl, by decide +kernel, rfl, by decide +kernel, by decide +kernel⟩
structure NmC (mg : Str → Option Value) : Prop where
  c_DIGITS : ∃ t, mg "_DIGITS" = some (.str "0123456789" t)
  c_MOST_NAME : ∃ t, mg "_MOST_NAME" = some (.int 12 t)
def inT (m z : Str) : Bool := z.cps.toList.all fun c => decide (c ∈ m.cps.toList)
def lnS (z : Str) : Bool := decide (1 ≤ z.length) && decide (z.length ≤ 12) && inT (Str.ofString "abcdefghijklmnopqrstuvwxyz") z
def kyS (z : Str) : Bool := decide (2 ≤ z.length) && decide (z.length ≤ 12) && decide (z.cps.toList.head? = some 107) && inT (Str.ofString "0123456789") (cutS z (some 1) none)
def lnV : V → Bool
  | .str z => lnS z
  | _ => false
def kyV : V → Bool
  | .str z => kyS z
  | _ => false
def szV : V → Prop
  | .str z => z.length ≤ sizeLine
  | _ => True
/-- _consists_of(z, m), Pc the table of its code -/
def spCons (Pc : Addr) : Sp := fun vs H Q _ => ∃ z m : Str, vs = [.str z, .str m] ∧ GxR.TabG H Pc ∧ ∀ H', Kp [Pc] H H' → GxR.TabG H' Pc → Q (.bl (inT m z)) H'
def spNm (f : V → Bool) (Pc : Addr) : Sp := fun vs H Q _ => ∃ v : V, vs = [v] ∧ GxR.TabG H Pc ∧ (∃ t, tyN H v = some t) ∧ szV v ∧ ∀ H', Kp [Pc] H H' → GxR.TabG H' Pc → Q (.bl (f v)) H'
section
variable {P : Program} {w : World} {K : PySem.W.Frag} {mg : Str → Option Value} {base : Heap} {f : Addr} {fd : FuncData}
theorem ok_consists {oc kV doc pm ct : Value} {od an : Option Addr} {osl : Array (Option Value)} {c Pc : Addr} (B : Blt mg) (TB : GxR.TabB base mg c Pc)
    (lk : K.lookup f = some ⟨oc, od, .func (PySem.W.fnOf "_consists_of" "_consists_of" (defArgs s_consists_of) (defBody s_consists_of) (defScope s_consists_of) .none kV doc pm an (.ref c) ct), osl⟩) (hcd : PySem.W.codeIn K (.ref c) "_consists_of" = true) :
    FnOk P w K mg base CX0 3 f (PySem.W.fnOf "_consists_of" "_consists_of" (defArgs s_consists_of) (defBody s_consists_of) (defScope s_consists_of) .none kV doc pm an (.ref c) ct) ["text", "marks"] (spCons Pc) := by
  refine fn_of lk hcd sc_consists_of (fun vs H Q E h => ?_) (fun A outer s H vs Q E hr h => ?_)
  · obtain ⟨z, m, rfl, _⟩ := h; rfl
  obtain ⟨z, m, rfl, hG, q⟩ := h
  refine ⟨_, PSs.nox (pss_one (ps_ret (pe_allC (iy := 1) hr B TB rfl (gs0Of (by decide +kernel) (by decide +kernel)) (by show freeOk _ (defScope s_consists_of) = true; decide +kernel) (pv 0) (elt_in rfl rfl rfl) (by rfl) (by rfl) (fun _ => rfl) (fun _ => rfl)))), ?_⟩
  exact ⟨m, rfl, _, rfl, z, rfl, hG, fun H2 hT => q H2 (Kp.tab hG hT (List.mem_singleton.mpr rfl)) hT.1⟩
theorem cps_lenN (z : Str) : z.cps.toList.length = z.length := by
  show _ = z.cps.size
  exact Array.length_toList
theorem spNm_no {g : V → Bool} {v : V} {t : String} {H : Hp} {Pc : Addr} {Q : VK} (hg : ∀ v, (∀ z, v ≠ .str z) → g v = false) (ht : tyN H v = some t) (c1 : isaB t "str" = false) (hG : GxR.TabG H Pc) (q : ∀ H', Kp [Pc] H H' → GxR.TabG H' Pc → Q (.bl (g v)) H') : Q (.bl false) H := by
  have z := q H (Kp.refl _ _) hG
  rw [hg v (fun z e => by subst e; cases ht; exact absurd c1 (by decide))] at z
  exact z
theorem ok_list_name {Pc : Addr} (F : Fun K "is_list_name" "is_list_name" s_is_list_name f fd) (B : Blt mg) (D : NmC mg) (hL : ∃ t, mg "_LETTERS" = some (.str "abcdefghijklmnopqrstuvwxyz" t)) (c_consists_of : Cal P w K mg base CX0 3 "_consists_of" (spCons Pc)) : FnOk P w K mg base CX0 4 f fd ["value"] (spNm lnV Pc) := by
  refine F.ok sc_is_list_name (fun vs H Q E h => ?_) (fun cdv A outer s H vs Q E hr h => ?_)
  · obtain ⟨v, rfl, _⟩ := h; rfl
  obtain ⟨v, rfl, hG, ⟨t, ht⟩, hz, q⟩ := h
  refine ⟨_, (pss_cons (ps_if (PW.pt (pw_or (pt_not (pt_val (B.isT (pv 0) B.v_str))) (pw_or1 (pt_not (pt_chain op_le op_le pe_int (B.len_s (pa_cons (pv 0) pa_nil)) (pe_cE D.c_MOST_NAME)))))) (pss_one (ps_ret pe_bl)) pss_nil)
    (pss_one (ps_ret (c_consists_of.pe hr (pa_cons (pv 0) (pa_cons (pe_cSE hL) pa_nil)))))), ?_⟩
  walk_at "wp"
  refine ⟨t, ht, ?_⟩
  have off : ∀ z, v = .str z → lnV v = false → Q (.bl false) H := fun z e h => by
    have y := q H (Kp.refl _ _) hG
    rw [h] at y; exact y
  cases c1 : isaB t "str" with
  | false => rw [if_pos rfl]; exact spNm_no (fun v h => by cases v <;> first | rfl | exact absurd rfl (h _)) ht c1 hG q
  | true =>
    rw [if_neg (by decide)]
    obtain ⟨z, rfl⟩ := isa_str ht c1
    refine ⟨z, rfl, hz, ?_⟩
    split
    · rename_i h1
      split
      · rename_i h2
        refine off z rfl ?_
        show lnS z = false
        unfold lnS
        rw [decide_eq_false (show ¬ z.length ≤ 12 by omega), Bool.and_false, Bool.false_and]
      · rename_i h2
        refine ⟨z, _, rfl, hG, fun H' k g => ?_⟩
        have y := q H' k g
        rw [show lnV (.str z) = inT (Str.ofString "abcdefghijklmnopqrstuvwxyz") z by
          show lnS z = _
          unfold lnS
          rw [decide_eq_true (show 1 ≤ z.length by omega), decide_eq_true (show z.length ≤ 12 by omega), Bool.true_and, Bool.true_and]] at y
        exact y
    · rename_i h1
      refine off z rfl ?_
      show lnS z = false
      unfold lnS
      rw [decide_eq_false (show ¬ 1 ≤ z.length by omega), Bool.false_and, Bool.false_and]
theorem ok_key {Pc : Addr} (F : Fun K "is_key" "is_key" s_is_key f fd) (B : Blt mg) (D : NmC mg) (c_consists_of : Cal P w K mg base CX0 3 "_consists_of" (spCons Pc)) : FnOk P w K mg base CX0 4 f fd ["value"] (spNm kyV Pc) := by
  refine F.ok sc_is_key (fun vs H Q E h => ?_) (fun cdv A outer s H vs Q E hr h => ?_)
  · obtain ⟨v, rfl, _⟩ := h; rfl
  obtain ⟨v, rfl, hG, ⟨t, ht⟩, hz, q⟩ := h
  refine ⟨_, (pss_cons (ps_if (PW.pt (pw_or (pt_not (pt_val (B.isT (pv 0) B.v_str))) (pw_or1 (pt_not (pt_chain op_le op_le pe_int (B.len_s (pa_cons (pv 0) pa_nil)) (pe_cE D.c_MOST_NAME)))))) (pss_one (ps_ret pe_bl)) pss_nil)
    (pss_one (ps_ret (pe_and (pe_cmpR op_eq (pe_ix ix_str (pv 0) pe_int (fun _ _ => rfl)) pe_str (nomark _)) (pe_one (c_consists_of.pe hr (pa_cons (pe_slice sl_str (pv 0) (po_some pe_int) po_none) (pa_cons (pe_cSE D.c_DIGITS) pa_nil)))))))), ?_⟩
  walk_at "wp"
  refine ⟨t, ht, ?_⟩
  have off : ∀ z, v = .str z → kyV v = false → Q (.bl false) H := fun z e h => by
    have y := q H (Kp.refl _ _) hG
    rw [h] at y; exact y
  cases c1 : isaB t "str" with
  | false => rw [if_pos rfl]; exact spNm_no (fun v h => by cases v <;> first | rfl | exact absurd rfl (h _)) ht c1 hG q
  | true =>
    rw [if_neg (by decide)]
    obtain ⟨z, rfl⟩ := isa_str ht c1
    refine ⟨z, rfl, hz, ?_⟩
    split
    · rename_i h1
      split
      · rename_i h2
        refine off z rfl ?_
        show kyS z = false
        unfold kyS
        rw [decide_eq_false (show ¬ z.length ≤ 12 by omega), Bool.and_false, Bool.false_and, Bool.false_and]
      · rename_i h2
        have hl : z.cps.toList.length = z.length := cps_lenN z
        obtain ⟨c, r, ez⟩ : ∃ c r, z.cps.toList = c :: r := by
          cases e : z.cps.toList with
          | nil => rw [e] at hl; simp at hl; omega
          | cons c r => exact ⟨c, r, rfl⟩
        refine ⟨z, 0, c, rfl, rfl, hz, by rw [ez]; exact at0, rfl, ?_⟩
        have ek : (V.str ⟨#[c]⟩ = V.str (Str.ofString "k")) ↔ c = 107 := by
          constructor
          · intro h
            have h := congrArg (fun s : Str => s.cps.toList) (V.str.inj h)
            have h : [c] = [107] := h
            exact (List.cons.inj h).1
          · rintro rfl; rfl
        have eh : z.cps.toList.head? = some c := by rw [ez]; rfl
        by_cases h3 : c = 107
        · rw [if_pos (ek.mpr h3)]
          refine ⟨z, rfl, hz, _, _, rfl, hG, fun H' k g => ?_⟩
          have y := q H' k g
          rw [show kyV (.str z) = inT (Str.ofString "0123456789") (cutS z (some 1) none) by
            show kyS z = _
            unfold kyS
            rw [decide_eq_true (show 2 ≤ z.length by omega), decide_eq_true (show z.length ≤ 12 by omega), eh, decide_eq_true (by rw [h3]), Bool.true_and, Bool.true_and, Bool.true_and]] at y
          exact y
        · rw [if_neg (fun h => h3 (ek.mp h))]
          refine off z rfl ?_
          show kyS z = false
          unfold kyS
          rw [eh, decide_eq_false (fun h => h3 (Option.some.inj h)), Bool.and_false, Bool.false_and]
    · rename_i h1
      refine off z rfl ?_
      show kyS z = false
      unfold kyS
      rw [decide_eq_false (show ¬ 2 ≤ z.length by omega), Bool.false_and, Bool.false_and, Bool.false_and]
end
/-! paths and patterns -/
abbrev s_has_parts_of : Stmt := top 33
abbrev N_has_parts_of : List Str := ["value", "marks", "parts"]
theorem sc_has_parts_of : FnScope N_has_parts_of ["value", "marks"] (defScope s_has_parts_of) := ⟨rfl, rfl, rfl, by decide +kernel, rfl, by decide +kernel, by decide +kernel⟩
abbrev s_is_path : Stmt := top 29
abbrev N_is_path : List Str := ["value"]
theorem sc_is_path : FnScope N_is_path ["value"] (defScope s_is_path) := ⟨rfl, rfl, rfl, by decide +kernel, rfl, by decide +kernel, by decide +kernel⟩
abbrev s_is_pattern : Stmt := top 30
abbrev N_is_pattern : List Str := ["value"]
theorem sc_is_pattern : FnScope N_is_pattern ["value"] (defScope s_is_pattern) := ⟨rfl, rfl, rfl, by decide +kernel, rfl, by decide +kernel, by decide +kernel⟩
structure PaC (mg : Str → Option Value) : Prop where
  c_MOST_PATH : ∃ t, mg "MOST_PATH" = some (.int 60 t)
  c_MOST_PARTS : ∃ t, mg "_MOST_PARTS" = some (.int 6 t)
  c_PART_MARKS : ∃ t, mg "_PART_MARKS" = some (.str "abcdefghijklmnopqrstuvwxyz0123456789_-." t)
/-- the parts of a text, each of them some of the marks m -/
def hpS (m z : Str) : Bool := decide (z.length ≤ 60) && decide ((Txt.split z (Str.ofString "/")).length ≤ 6) && (Txt.split z (Str.ofString "/")).all fun p => decide (p ≠ Str.ofString "") && inT m p
def hpV (m : Str) : V → Bool
  | .str z => hpS m z
  | _ => false
def spPartsOf (Ts : List Addr) : Sp := fun vs H Q _ => ∃ (v : V) (m : Str), vs = [v, .str m] ∧ Tabs Ts H ∧ (∃ t, tyN H v = some t) ∧ szV v ∧ ∀ H', Kp Ts H H' → Tabs Ts H' → Q (.bl (hpV m v)) H'
def spPa (m : Str) (Ts : List Addr) : Sp := fun vs H Q _ => ∃ v : V, vs = [v] ∧ Tabs Ts H ∧ (∃ t, tyN H v = some t) ∧ szV v ∧ ∀ H', Kp Ts H H' → Tabs Ts H' → Q (.bl (hpV m v)) H'
/-- the marks of a path, of a pattern -/
def paM : Str := Str.ofString "abcdefghijklmnopqrstuvwxyz0123456789_-."
def ptM : Str := Str.ofString "abcdefghijklmnopqrstuvwxyz0123456789_-." ++ Str.ofString "*"
section
variable {P : Program} {w : World} {K : PySem.W.Frag} {mg : Str → Option Value} {base : Heap} {f : Addr} {fd : FuncData}
theorem hp_no {m : Str} {v : V} {t : String} {H : Hp} (ht : tyN H v = some t) (c1 : isaB t "str" = false) : hpV m v = false := by
  cases v <;> first | rfl | (cases ht; exact absurd c1 (by decide))
theorem ok_parts_of {oc kV doc pm ct : Value} {od an : Option Addr} {osl : Array (Option Value)} {c Pt Pc : Addr} {Ts : List Addr} (B : Blt mg) (TB : GxR.TabB base mg c Pt) (D : PaC mg) (mt : Pt ∈ Ts) (mc : Pc ∈ Ts)
    (lk : K.lookup f = some ⟨oc, od, .func (PySem.W.fnOf "_has_parts_of" "_has_parts_of" (defArgs s_has_parts_of) (defBody s_has_parts_of) (defScope s_has_parts_of) .none kV doc pm an (.ref c) ct), osl⟩) (hcd : PySem.W.codeIn K (.ref c) "_has_parts_of" = true)
    (c_consists_of : Cal P w K mg base CX0 3 "_consists_of" (spCons Pc)) :
    FnOk P w K mg base CX0 6 f (PySem.W.fnOf "_has_parts_of" "_has_parts_of" (defArgs s_has_parts_of) (defBody s_has_parts_of) (defScope s_has_parts_of) .none kV doc pm an (.ref c) ct) ["value", "marks"] (spPartsOf Ts) := by
  refine fn_of lk hcd sc_has_parts_of (fun vs H Q E h => ?_) (fun A outer s H vs Q E hr h => ?_)
  · obtain ⟨v, m, rfl, _⟩ := h; rfl
  obtain ⟨v, m, rfl, hG, ⟨t, ht⟩, hz, q⟩ := h
  refine ⟨_, PSs.nox (pss_cons (ps_if (PW.pt (pw_or (pt_not (pt_val (B.isT (pv 0) B.v_str))) (pw_or1 (pt_cmpR op_gt (B.len_s (pa_cons (pv 0) pa_nil)) (pe_cE D.c_MOST_PATH) (nomark _))))) (pss_one (ps_ret pe_bl)) pss_nil)
    (pss_cons (ps_set (i := 2) sc_has_parts_of.nd rfl (Or.inl rfl) (pe_m1 PySem.F.slot_str_split PySem.F.type_str_split mt_split (pv 0) pe_str))
    (pss_cons (ps_if (pt_cmpR op_gt (B.len_q (pa_cons (pv 2) pa_nil)) (pe_cE D.c_MOST_PARTS) (nomark _)) (pss_one (ps_ret pe_bl)) pss_nil)
    (pss_one (ps_ret (pe_allG (N := ["part", "marks"]) (nt := 1) (fr := [1]) rfl hr B TB rfl (gnOf (by decide +kernel)) (by show freeOk _ (defScope s_has_parts_of) = true; decide +kernel) (by show capOk _ _ _ N_has_parts_of _ (defScope s_has_parts_of) = true; decide +kernel)
      (pi_list (pv 2)) (fun _ _ _ _ _ hr => (pg_name (i := 0) (by show List.Nodup (["part", "marks"] : List Str); decide +kernel) rfl (Or.inl rfl))) (fun _ _ _ _ _ hr => pts_nil) (fun _ _ _ _ _ hr => (pe_and (pe_cmpR op_ne (pv 0) pe_str (nomark _)) (pe_one (c_consists_of.pe hr (pa_cons (pv 0) (pa_cons (pv 1) pa_nil)))))) (fun _ => rfl))))))), ?_⟩
  walk_at "wp"
  refine ⟨t, ht, ?_⟩
  have off : hpV m v = false → Q (.bl false) H := fun h => by
    have y := q H (Kp.refl _ _) hG
    rw [h] at y; exact y
  cases c1 : isaB t "str" with
  | false => rw [if_pos rfl]; exact off (hp_no ht c1)
  | true =>
    rw [if_neg (by decide)]
    obtain ⟨z, rfl⟩ := isa_str ht c1
    refine ⟨z, rfl, hz, ?_⟩
    have lim : sizeLine = 16777216 := sizeLine_eq
    split
    · rename_i h1
      refine off ?_
      show hpS m z = false
      unfold hpS
      rw [decide_eq_false (show ¬ z.length ≤ 60 by omega), Bool.false_and, Bool.false_and]
    · rename_i h1
      refine ⟨⟨_, rfl⟩, z, rfl, by decide +kernel, by omega, fun p hp => ⟨p, rfl, _, .inl (SqL.of upd_same), ?_⟩⟩
      rw [List.length_map]
      have k0 : Kp Ts H (upd H p (.lst ((Txt.split z (Str.ofString "/")).map V.str))) := Kp.new hp _
      have g0 := hG.new hp (.lst ((Txt.split z (Str.ofString "/")).map V.str))
      have fin : ∀ (b : Bool) (H' : Hp), Kp Ts H H' → Tabs Ts H' → hpV m (.str z) = b → Q (.bl b) H' := fun b H' k g e => by
        rw [← e]; exact q H' k g
      split
      · rename_i h2
        refine fin _ _ k0 g0 ?_
        show hpS m z = false
        unfold hpS
        rw [decide_eq_false (show ¬ (Txt.split z (Str.ofString "/")).length ≤ 6 by omega), Bool.and_false, Bool.false_and]
      · rename_i h2
        have ev : hpV m (.str z) = (Txt.split z (Str.ofString "/")).all fun p => decide (p ≠ Str.ofString "") && inT m p := by
          show hpS m z = _
          unfold hpS
          rw [decide_eq_true (show z.length ≤ 60 by omega), decide_eq_true (show (Txt.split z (Str.ofString "/")).length ≤ 6 by omega), Bool.true_and, Bool.true_and]
        have es : (upd H p (.lst ((Txt.split z (Str.ofString "/")).map V.str))) p = some (.lst ((Txt.split z (Str.ofString "/")).map V.str)) := upd_same
        generalize upd H p (.lst ((Txt.split z (Str.ofString "/")).map V.str)) = H1 at k0 g0 es ⊢
        generalize Txt.split z (Str.ofString "/") = ps at ev es h2 ⊢
        refine ⟨_, rfl, p, rfl, ⟨_, SqL.of es⟩, g0 _ mt, fun H2 hT => ?_⟩
        have g2 := g0.tab hT mt
        have k2 : Kp Ts H H2 := k0.trans (Kp.tab (g0 _ mt) hT mt)
        have e2 := (Kp.tab (g0 _ mt) hT mt).get g0 es
        refine for_list (K := K) (a := p) (xs := ps.map V.str) (fun i σ H' => (∃ o : Option V, σ = [o, some (.str m)]) ∧ Kp Ts H H' ∧ Tabs Ts H' ∧ H' p = some (.lst (ps.map V.str)) ∧ ((ps.take i).all fun p => decide (p ≠ Str.ofString "") && inT m p) = true)
          ⟨⟨_, rfl⟩, k2, g2, e2, rfl⟩ (fun i σ H' _ ⟨_, _, _, e, _⟩ => SqL.of e) (fun i x σ H' hx ⟨⟨o, hσ⟩, k3, g3, e3, ha⟩ => ?_) (fun σ H' ⟨⟨o, hσ⟩, k3, g3, e3, ha⟩ => ?_)
        · subst hσ
          rw [List.getElem?_map] at hx
          obtain ⟨y, hy, rfl⟩ := Option.map_eq_some_iff.mp hx
          have tk : ps.take (i + 1) = ps.take i ++ [y] := by rw [List.take_add_one, hy]; rfl
          have no : (decide (y ≠ Str.ofString "") && inT m y) = false → hpV m (.str z) = false := fun h => by
            rw [ev, List.all_eq_false]
            exact ⟨y, List.mem_of_getElem? hy, by rw [h]; decide⟩
          unfold tbAll
          simp only [tYes, if_true]
          walk_at "wp"
          by_cases h3 : y = Str.ofString ""
          · rw [if_neg (fun q => q h3)]
            exact fin _ _ k3 g3 (no (by rw [decide_eq_false (fun q => q h3), Bool.false_and]))
          · rw [if_pos h3]
            refine ⟨y, m, rfl, g3 _ mc, fun H4 k4 g4 => ⟨_, rfl, ?_⟩⟩
            have k5 := k3.trans (k4.in1 mc)
            have g5 := g3.kp1 k4 g4
            cases hb : inT m y with
            | true =>
              rw [if_pos rfl]
              refine ⟨⟨_, rfl⟩, k5, g5, (k4.in1 mc).get g3 e3, ?_⟩
              rw [tk, List.all_append, ha]
              show (true && ((decide (y ≠ Str.ofString "") && inT m y) && true)) = true
              rw [decide_eq_true h3, hb]; rfl
            | false =>
              rw [if_neg (by decide)]
              exact fin _ _ k5 g5 (no (by rw [hb, Bool.and_false]))
        · exact fin _ _ k3 g3 (by rw [ev, ← List.take_of_length_le (l := ps) (Nat.le_refl _)]; rw [List.length_map] at ha; exact ha)
theorem ok_path {Ts : List Addr} (F : Fun K "is_path" "is_path" s_is_path f fd) (B : Blt mg) (D : PaC mg) (c_has_parts_of : Cal P w K mg base CX0 6 "_has_parts_of" (spPartsOf Ts)) : FnOk P w K mg base CX0 7 f fd ["value"] (spPa paM Ts) := by
  refine F.ok sc_is_path (fun vs H Q E h => ?_) (fun cdv A outer s H vs Q E hr h => ?_)
  · obtain ⟨v, rfl, _⟩ := h; rfl
  obtain ⟨v, rfl, hG, ht, hz, q⟩ := h
  refine ⟨_, (pss_one (ps_ret (c_has_parts_of.pe hr (pa_cons (pv 0) (pa_cons (pe_cSE D.c_PART_MARKS) pa_nil))))), ?_⟩
  walk_at "wp"
  exact ⟨v, _, rfl, hG, ht, hz, q⟩
theorem ok_pattern {Ts : List Addr} (F : Fun K "is_pattern" "is_pattern" s_is_pattern f fd) (B : Blt mg) (D : PaC mg) (c_has_parts_of : Cal P w K mg base CX0 6 "_has_parts_of" (spPartsOf Ts)) : FnOk P w K mg base CX0 7 f fd ["value"] (spPa ptM Ts) := by
  refine F.ok sc_is_pattern (fun vs H Q E h => ?_) (fun cdv A outer s H vs Q E hr h => ?_)
  · obtain ⟨v, rfl, _⟩ := h; rfl
  obtain ⟨v, rfl, hG, ht, hz, q⟩ := h
  refine ⟨_, (pss_one (ps_ret (c_has_parts_of.pe hr (pa_cons (pv 0) (pa_cons (pe_op op_add_str (pe_cSE D.c_PART_MARKS) pe_str) pa_nil))))), ?_⟩
  walk_at "wp"
  exact ⟨by decide +kernel, v, _, rfl, hG, ht, hz, q⟩
end
/-! digest -/
abbrev s_digest : Stmt := top 5
abbrev N_digest : List Str := ["text", "number", "mark", "digits"]
theorem sc_digest : FnScope N_digest ["text"] (defScope s_digest) := ⟨rfl, rfl, rfl, by decide +kernel, rfl, by decide +kernel, by decide +kernel⟩
structure DgC (mg : Str → Option Value) : Prop where
  c_FACTOR : ∃ t, mg "_FACTOR" = some (.int 65599 t)
  c_DIVISOR : ∃ t, mg "_DIVISOR" = some (.int 2361183241434822606617 t)
  c_DIGEST_LENGTH : ∃ t, mg "DIGEST_LENGTH" = some (.int 18 t)
def spDigest : Sp := fun vs H Q _ => ∃ z : Str, vs = [.str z] ∧ z.length ≤ sizeLine ∧ Q (.str (dgs z)) H
section
variable {P : Program} {w : World} {K : PySem.W.Frag} {mg : Str → Option Value} {base : Heap} {f : Addr} {fd : FuncData}
theorem cps_len (z : Str) : z.cps.toList.length = z.length := by
  show _ = z.cps.size
  exact Array.length_toList
theorem take1 {l : List Nat} {i c : Nat} (h : l[i]? = some c) : l.take (i + 1) = l.take i ++ [c] := by
  rw [List.take_add_one, h]; rfl
theorem cps_at {z : Str} {i c : Nat} (h : z.cps[i]? = some c) : z.cps.toList[i]? = some c := by rw [Array.getElem?_toList]; exact h
theorem take_cps (z : Str) : z.cps.toList.take z.cps.size = z.cps.toList := List.take_of_length_le (by rw [Array.length_toList]; exact Nat.le_refl _)
theorem ok_digest (F : Fun K "digest" "digest" s_digest f fd) (B : Blt mg) (D : DgC mg) : FnOk P w K mg base CX0 1 f fd ["text"] spDigest := by
  refine F.ok sc_digest (fun vs H Q E h => ?_) (fun cdv A outer s H vs Q E hr h => ?_)
  · obtain ⟨z, rfl, _⟩ := h; rfl
  obtain ⟨z, rfl, hz, q⟩ := h
  refine ⟨_, (pss_cons (ps_set (i := 1) sc_digest.nd rfl (Or.inl rfl) (pe_op op_add (B.len_s (pa_cons (pv 0) pa_nil)) pe_int))
    (pss_cons (ps_for PassesOwn.never rfl (pi_str (pv 0)) (pg_name (i := 2) sc_digest.nd rfl (Or.inl rfl)) (pss_one (ps_set (i := 1) sc_digest.nd rfl (Or.inl rfl) (pe_op op_mod (pe_op op_add (pe_op op_mul (pv 1) (pe_cE D.c_FACTOR)) (B.ord_ (pa_cons (pv 2) pa_nil))) (pe_cE D.c_DIVISOR)))))
    (pss_cons (ps_set (i := 3) sc_digest.nd rfl (Or.inl rfl) (pe_joined1 (pe_fmtX (pv 1))))
    (pss_one (ps_ret (pe_m1 PySem.F.slot_str_zfill PySem.F.type_str_zfill mt_zfill (pv 3) (pe_cE D.c_DIGEST_LENGTH))))))), ?_⟩
  walk_at "wp"
  refine ⟨hz, _, rfl, z, rfl, ?_⟩
  refine for_it walk_str (fun i σ H' => H' = H ∧ ∃ o : Option V, σ = [some (.str z), some (.int (((z.cps.toList.take i).foldl dgF (z.length + 1) : Nat) : Int)), o, none]) ⟨rfl, _, rfl⟩ (fun _ _ _ _ _ => True.intro) (fun i x σ H1 H2 hi ⟨hH, o, hσ⟩ ⟨h2, c, hc, hx⟩ => ?_) (fun σ H1 ⟨hH, o, hσ⟩ => ?_)
  · subst hσ
    subst hx
    subst h2
    subst hH
    walk_at "wp"
    refine ⟨.inr ⟨by decide, by decide⟩, by rfl, by decide, ?_⟩
    rw [take1 (cps_at hc), List.foldl_append]
    generalize (z.cps.toList.take i).foldl dgF (z.length + 1) = a
    refine ⟨?_, _, rfl⟩
    show ((a : Int) * 65599 + (c : Int)) % 2361183241434822606617 = (((a * 65599 + c) % 2361183241434822606617 : Nat) : Int)
    rw [Int.natCast_emod, Int.natCast_add, Int.natCast_mul]
    rfl
  · subst hσ
    subst hH
    walk_at "wp"
    have hd := dgN_lt z.cps.toList
    rw [take_cps, show z.length = z.cps.toList.length from (cps_len z).symm]
    refine ⟨_, rfl, ?_, ?_⟩
    · have := hxT_len hd
      unfold hxT at this
      rw [List.length_map] at this
      exact Nat.le_trans this (by decide)
    rw [show (⟨((Nat.toDigits 16 (z.cps.toList.foldl dgF (z.cps.toList.length + 1))).map Char.toNat).toArray⟩ : Str) = ⟨(hxT (dgN z.cps.toList)).toArray⟩ from rfl, zfill_hx hd]
    exact ⟨⟨_, rfl⟩, by decide, q⟩
end
/-! encode and its helpers -/
abbrev s_greatest_integer : Stmt := top 41
abbrev N_greatest_integer : List Str := []
theorem sc_greatest_integer : FnScope N_greatest_integer [] (defScope s_greatest_integer) := ⟨rfl, rfl, rfl, by decide +kernel, rfl, by decide +kernel, by decide +kernel⟩
abbrev s_encode : Stmt := top 38
abbrev N_encode : List Str := ["value", "text"]
theorem sc_encode : FnScope N_encode ["value"] (defScope s_encode) := ⟨rfl, rfl, rfl, by decide +kernel, rfl, by decide +kernel, by decide +kernel⟩
abbrev s_text_of : Stmt := top 39
abbrev N_text_of : List Str := ["value", "levels"]
theorem sc_text_of : FnScope N_text_of ["value", "levels"] (defScope s_text_of) := ⟨rfl, rfl, rfl, by decide +kernel, rfl, by decide +kernel, by decide +kernel⟩
abbrev s_tuple_text : Stmt := top 40
abbrev N_tuple_text : List Str := ["parts", "levels", "texts", "length", "part", "text"]
theorem sc_tuple_text : FnScope N_tuple_text ["parts", "levels"] (defScope s_tuple_text) := ⟨rfl, rfl, rfl, by decide +kernel, rfl, by decide +kernel, by decide +kernel⟩
section
variable {P : Program} {w : World} {K : PySem.W.Frag} {mg : Str → Option Value} {base : Heap} {f : Addr} {fd : FuncData}
structure TxtC (K : PySem.W.Frag) (mg : Str → Option Value) (C : Addr) (td tz tt : Tok) : Prop where
  bad : Err K mg "BadText" C
  dg : mg "MOST_DIGITS" = some (.int 20 td)
  dp : mg "MOST_DEPTH" = some (.int 8 tz)
  mt : mg "MOST_TEXT" = some (.int 100000 tt)
def spGreat : Sp := fun vs H Q _ => vs = [] ∧ Q (.int 99999999999999999999) H
/-- _text_of(v, n) of the tree t: its text, or a BadText -/
def spText (C Pt : Addr) (n : Nat) : Sp := fun vs H Q E => ∃ (v : V) (t : Tr), vs = [v, .int n] ∧ Rep H v t ∧ sml t = true ∧ GxR.TabG H Pt ∧
  (pl n t = true → fit t = true → ∀ H', Kp [Pt] H H' → GxR.TabG H' Pt → Q (.str ⟨(txt t).toArray⟩) H') ∧ (¬ (pl n t = true ∧ fit t = true) → ∀ H', Kp [Pt] H H' → GxR.TabG H' Pt → E (.ref C) none H')
def spTup (C Pt : Addr) (n : Nat) : Sp := fun vs H Q E => ∃ (a : Addr) (ts : List Tr), vs = [.ref a, .int n] ∧ Rep H (.ref a) (.tup ts) ∧ sml (.tup ts) = true ∧ GxR.TabG H Pt ∧
  (pl n (.tup ts) = true → fit (.tup ts) = true → ∀ H', Kp [Pt] H H' → GxR.TabG H' Pt → Q (.str ⟨(txt (.tup ts)).toArray⟩) H') ∧ (¬ (pl n (.tup ts) = true ∧ fit (.tup ts) = true) → ∀ H', Kp [Pt] H H' → GxR.TabG H' Pt → E (.ref C) none H')
def spEnc (C Pt : Addr) : Sp := fun vs H Q E => ∃ (v : V) (t : Tr), vs = [v] ∧ Rep H v t ∧ sml t = true ∧ GxR.TabG H Pt ∧
  (pl 8 t = true → (txt t).length ≤ 100000 → ∀ H', Kp [Pt] H H' → GxR.TabG H' Pt → Q (.str ⟨(txt t).toArray⟩) H') ∧ (¬ (pl 8 t = true ∧ (txt t).length ≤ 100000) → ∀ H', Kp [Pt] H H' → GxR.TabG H' Pt → E (.ref C) none H')
variable {C Pt : Addr} {td tz tt : Tok}
theorem ok_great (F : Fun K "_greatest_integer" "_greatest_integer" s_greatest_integer f fd) (B : Blt mg) (T : TxtC K mg C td tz tt) : FnOk P w K mg base CX0 1 f fd [] spGreat := by
  refine F.ok sc_greatest_integer (fun vs H Q E h => ?_) (fun cdv A outer s H vs Q E hr h => ?_)
  · obtain ⟨rfl, _⟩ := h; rfl
  obtain ⟨rfl, q⟩ := h
  refine ⟨_, (pss_one (ps_ret (B.int_s (pa_cons (pe_op op_mulS pe_str (pe_cI T.dg)) pa_nil)))), ?_⟩
  walk_at "wp"
  exact ⟨57, by decide +kernel, by decide, by decide, 99999999999999999999, by decide +kernel, by decide +kernel, q⟩
theorem ok_encode (F : Fun K "encode" "encode" s_encode f fd) (B : Blt mg) (T : TxtC K mg C td tz tt) (c_text_of : Cal P w K mg base (L2.CX P w) 22 "_text_of" (spText C Pt 8)) : FnOk P w K mg base (L2.CX P w) 23 f fd ["value"] (spEnc C Pt) := by
  refine F.okX sc_encode (fun vs H Q E h => ?_) (fun cdv A outer s H vs Q E hr h => ?_)
  · obtain ⟨v, t, rfl, _⟩ := h; rfl
  obtain ⟨v, t, rfl, hR, hs, hG, q, qe⟩ := h
  refine ⟨_, (pss_cons (ps_set (i := 1) sc_encode.nd rfl (Or.inl rfl) (c_text_of.pex hr (passX (takes_of rfl rfl rfl rfl) fun _ _ _ _ h => h) (pa_cons (pv 0) (pa_cons (pe_cI T.dp) pa_nil))))
    (pss_cons (ps_if (pt_cmpR op_gt (B.len_s (pa_cons (pv 1) pa_nil)) (pe_cI T.mt) (nomark _)) (pss_one (T.bad.raise (takes_of rfl rfl rfl rfl))) pss_nil)
    (pss_one (ps_ret (pv 1))))), ?_⟩
  walk_at "wp"
  have lim : sizeLine = 16777216 := sizeLine_eq
  refine ⟨v, t, rfl, hR, hs, hG, fun h1 h2 H' k g => ?_, fun h H' k g => ?_⟩
  · have := txt_size h1 h2 hs
    refine ⟨_, rfl, by rw [S_len]; omega, ?_⟩
    rw [S_len]
    by_cases c : (txt t).length ≤ 100000
    · rw [if_neg (by omega)]
      exact q h1 c H' k g
    · rw [if_pos (by omega)]
      exact qe (fun z => c z.2) H' k g
  · exact qe (fun z => h ⟨z.1, fit_of t z.2⟩) H' k g
theorem ok_text_of {n : Nat} {j : Nat} (hj : 4 ≤ j) (F : Fun K "_text_of" "_text_of" s_text_of f fd) (B : Blt mg) (T : TxtC K mg C td tz tt) (c_is_printable : Cal P w K mg base CX0 3 "is_printable" (spPrn Pt)) (c_is_integer : Cal P w K mg base CX0 1 "is_integer" spIntg)
    (c_greatest_integer : Cal P w K mg base CX0 1 "_greatest_integer" spGreat) (c_tuple_text : Cal P w K mg base (L2.CX P w) j "_tuple_text" (spTup C Pt n)) : FnOk P w K mg base (L2.CX P w) (j + 1) f fd ["value", "levels"] (spText C Pt n) := by
  refine F.okX sc_text_of (fun vs H Q E h => ?_) (fun cdv A outer s H vs Q E hr h => ?_)
  · obtain ⟨v, t, rfl, _⟩ := h; rfl
  obtain ⟨v, t, rfl, hR, hs, hG, q, qe⟩ := h
  refine ⟨_, (pss_cons (ps_if (pt_val (B.isT (pv 0) B.v_tuple)) (pss_one (ps_ret (c_tuple_text.pex hr (passX (takes_of rfl rfl rfl rfl) fun _ _ _ _ h => h) (pa_cons (pv 0) (pa_cons (pv 1) pa_nil))))) pss_nil)
    (pss_cons (ps_if (pt_val (c_is_printable.pe hr (pa_cons (pv 0) pa_nil))) (pss_one (ps_ret (pe_op op_add_str (pe_op op_add_str (B.str_i (pa_cons (B.len_s (pa_cons (pv 0) pa_nil)) pa_nil)) pe_str) (pv 0)))) pss_nil)
    (pss_cons (ps_if (pt_val (c_is_integer.pe hr (pa_cons (pv 0) (pa_cons pe_int (pa_cons (c_greatest_integer.pe0 hr) pa_nil))))) (pss_one (ps_ret (pe_op op_add_str (B.str_i (pa_cons (pv 0) pa_nil)) pe_str))) pss_nil)
    (pss_one (T.bad.raise (takes_of rfl rfl rfl rfl)))))), ?_⟩
  walk_at "wp"
  have lim : sizeLine = 16777216 := sizeLine_eq
  have cs : (prV v = false ∧ inV 0 99999999999999999999 v = false ∧ (∃ s, tyN H v = some s ∧ isaB s "tuple" = false) ∧ ¬ (pl n t = true ∧ fit t = true)) ∨ (∃ a xs ts, v = .ref a ∧ t = .tup ts ∧ H a = some (.tup xs) ∧ RepAll H xs ts) ∨ (∃ z, v = .str z ∧ t = .str z ∧ prn z = true) ∨
      (∃ i, v = .int i ∧ t = .int i ∧ 0 ≤ i ∧ i ≤ 99999999999999999999) := by
    cases hR with
    | tup e h => exact .inr (.inl ⟨_, _, _, rfl, rfl, e, h⟩)
    | str z =>
      cases hp : prn z with
      | false => exact .inl ⟨hp, rfl, ⟨_, rfl, rfl⟩, fun h => by have : prn z = true := h.1; rw [hp] at this; cases this⟩
      | true => exact .inr (.inr (.inl ⟨z, rfl, rfl, hp⟩))
    | int i =>
      cases hp : (decide (0 ≤ i) && decide (i ≤ 99999999999999999999)) with
      | false => exact .inl ⟨rfl, hp, ⟨_, rfl, rfl⟩, fun h => by have : (decide (0 ≤ i) && decide (i ≤ 99999999999999999999)) = true := h.1; rw [hp] at this; cases this⟩
      | true =>
        rw [Bool.and_eq_true, decide_eq_true_eq, decide_eq_true_eq] at hp
        exact .inr (.inr (.inr ⟨i, rfl, rfl, hp.1, hp.2⟩))
    | oth e n1 n2 n3 =>
      rename_i s
      refine .inl ⟨?_, ?_, ⟨s, e, ?_⟩, fun h => by have : false = true := h.1; cases this⟩
      · cases v with
        | str z => cases e; exact absurd rfl n2
        | _ => rfl
      · cases v with
        | int z => cases e; exact absurd rfl n1
        | _ => rfl
      · have : (s == "tuple") = false := by simpa using n3
        unfold isaB
        rw [this]
        simp
  rcases cs with ⟨hp, hi, ⟨s, hs1, hs2⟩, hn⟩ | ⟨a, xs, ts, rfl, rfl, e, h⟩ | ⟨z, rfl, rfl, hp⟩ | ⟨i, rfl, rfl, hh⟩
  · refine ⟨s, hs1, ?_⟩
    rw [hs2, if_neg Bool.false_ne_true]
    refine ⟨_, rfl, hG, ⟨s, hs1⟩, fun H1 k1 g1 => ⟨_, rfl, ?_⟩⟩
    rw [hp, if_neg Bool.false_ne_true]
    refine ⟨rfl, _, 0, _, rfl, ⟨s, tyN_kp k1 hG hs1⟩, _, rfl, ?_⟩
    rw [hi, if_neg Bool.false_ne_true]
    exact qe hn H1 k1 g1
  · exact ⟨_, tyN_tup e, by rw [if_pos (by decide)]; exact ⟨_, _, rfl, .tup e h, hs, hG, q, qe⟩⟩
  · have hz : z.length ≤ 10000000 := of_decide_eq_true hs
    refine ⟨_, rfl, ?_⟩
    rw [if_neg (by decide)]
    refine ⟨_, rfl, hG, ⟨_, rfl⟩, fun H1 k1 g1 => ⟨_, rfl, ?_⟩⟩
    have hp' : prV (.str z) = true := hp
    rw [hp', if_pos rfl]
    have dl := dig_len (n := z.length) (by omega)
    have e1 : (Str.ofString (toString (z.length : Int))).length ≤ 20 := by rw [toString_S, S_len]; exact dl
    have e2 : (Str.ofString ":").length = 1 := by decide +kernel
    have e3 : (Str.ofString (toString (z.length : Int)) ++ Str.ofString ":").length ≤ 21 := by
      rw [TL.len_tl, TL.tl_append, List.length_append, ← TL.len_tl, ← TL.len_tl]; omega
    refine ⟨z, rfl, by omega, log_small (by omega) (by omega), by omega, z, rfl, by omega, ?_⟩
    have e4 : Str.ofString (toString (z.length : Int)) ++ Str.ofString ":" ++ z = ⟨(txt (.str z)).toArray⟩ := by
      refine TL.ext_tl ?_
      rw [TL.tl_append, TL.tl_append, TL.tl_num]
      show (dig z.length ++ [58]) ++ TL.tl z = dig z.length ++ 58 :: TL.tl z
      rw [List.append_assoc]; rfl
    rw [e4]
    exact q hp rfl H1 k1 g1
  · have hp : (decide (0 ≤ i) && decide (i ≤ 99999999999999999999)) = true := by rw [decide_eq_true hh.1, decide_eq_true hh.2]; rfl
    refine ⟨_, rfl, ?_⟩
    rw [if_neg (by decide)]
    refine ⟨_, rfl, hG, ⟨_, rfl⟩, fun H1 k1 g1 => ⟨_, rfl, ?_⟩⟩
    rw [show prV (.int i) = false from rfl, if_neg Bool.false_ne_true]
    refine ⟨rfl, _, 0, _, rfl, ⟨_, rfl⟩, _, rfl, ?_⟩
    rw [show inV 0 99999999999999999999 (.int i) = true from hp, if_pos rfl]
    have ei : i = ((i.toNat : Nat) : Int) := by omega
    have dl := dig_len (n := i.toNat) (by omega)
    have e2 : (Str.ofString ".").length = 1 := by decide +kernel
    have e1 : (Str.ofString (toString i)).length ≤ 20 := by rw [ei, toString_S, S_len]; exact dl
    refine ⟨i, rfl, log_small hh.1 hh.2, by omega, ?_⟩
    have e4 : Str.ofString (toString i) ++ Str.ofString "." = ⟨(txt (.int i)).toArray⟩ := by
      refine TL.ext_tl ?_
      rw [TL.tl_append]
      show TL.tl (Str.ofString (toString i)) ++ [46] = dig i.toNat ++ [46]
      rw [show TL.tl (Str.ofString (toString i)) = dig i.toNat by rw [ei]; exact TL.tl_num _]
    rw [e4]
    exact q hp rfl H1 k1 g1
theorem ok_tuple0 (F : Fun K "_tuple_text" "_tuple_text" s_tuple_text f fd) (B : Blt mg) (T : TxtC K mg C td tz tt) : FnOk P w K mg base (L2.CX P w) 4 f fd ["parts", "levels"] (spTup C Pt 0) := by
  refine F.okX sc_tuple_text (fun vs H Q E h => ?_) (fun cdv A outer s H vs Q E hr h => ?_)
  · obtain ⟨v, t, rfl, _⟩ := h; rfl
  obtain ⟨a, ts, rfl, hR, hs, hG, q, qe⟩ := h
  refine ⟨_, pss_cons (ps_if (pt_cmpR op_eq (pv 1) pe_int (nomark _)) (pss_one (T.bad.raise (takes_of rfl rfl rfl rfl))) pss_nil) pss_never, ?_⟩
  walk_at "wp"
  rw [if_pos (by rfl)]
  exact qe (fun z => by have : false = true := z.1; cases this) H (Kp.refl _ _) hG
theorem ok_tuple {n : Nat} {j : Nat} (hj : 4 ≤ j) (F : Fun K "_tuple_text" "_tuple_text" s_tuple_text f fd) (B : Blt mg) (T : TxtC K mg C td tz tt) (c_text_of : Cal P w K mg base (L2.CX P w) j "_text_of" (spText C Pt n)) : FnOk P w K mg base (L2.CX P w) (j + 1) f fd ["parts", "levels"] (spTup C Pt (n + 1)) := by
  refine F.okX sc_tuple_text (fun vs H Q E h => ?_) (fun cdv A outer s H vs Q E hr h => ?_)
  · obtain ⟨v, t, rfl, _⟩ := h; rfl
  obtain ⟨a, ts, rfl, hR, hs, hG, q, qe⟩ := h
  refine ⟨_, (pss_cons (ps_if (pt_cmpR op_eq (pv 1) pe_int (nomark _)) (pss_one (T.bad.raise (takes_of rfl rfl rfl rfl))) pss_nil)
    (pss_cons (ps_set (i := 2) sc_tuple_text.nd rfl (Or.inl rfl) (pe_lst pa_nil))
    (pss_cons (ps_set (i := 3) sc_tuple_text.nd rfl (Or.inl rfl) (B.len_s (pa_cons pe_str pa_nil)))
    (pss_cons (ps_for (passes_of rfl) rfl (pi_tup (pv 0)) (pg_name (i := 4) sc_tuple_text.nd rfl (Or.inl rfl)) (pss_cons (ps_set (i := 5) sc_tuple_text.nd rfl (Or.inl rfl) (c_text_of.pex hr (passX (takes_of rfl rfl rfl rfl) fun _ _ _ _ h => h) (pa_cons (pv 4) (pa_cons (pe_op op_sub (pv 1) pe_int) pa_nil))))
    (pss_cons (ps_aug (i := 3) sc_tuple_text.nd rfl (Or.inl rfl) (B.len_s (pa_cons (pv 5) pa_nil)) ip_add)
    (pss_cons (ps_if (pt_cmpR op_gt (pv 3) (pe_cI T.mt) (nomark _)) (pss_one (T.bad.raise (takes_of rfl rfl rfl rfl))) pss_nil)
    (pss_one (ps_expr (pe_bm PySem.F.plainAttrs_list PySem.F.slot_list_append PySem.F.type_list_append mt_append (pv 2) (pa_cons (pv 5) pa_nil))))))))
    (pss_one (ps_ret (pe_op op_add_str (pe_op op_add_str pe_str (pe_join pe_str (pv 2))) pe_str))))))), ?_⟩
  walk_at "wp"
  have lim : sizeLine = 16777216 := sizeLine_eq
  rw [if_neg (by omega)]
  refine ⟨Nat.zero_le _, fun p hp => ⟨by decide +kernel, ?_⟩⟩
  cases hR with
  | tup e hA =>
  rename_i xs
  have hs' : (smls ts && decide (ts.length ≤ 1000000)) = true := hs
  rw [Bool.and_eq_true, decide_eq_true_eq] at hs'
  have xl := hA.len
  refine ⟨_, rfl, a, rfl, ⟨xs, SqT.of (by rw [upd_ne (ne_of_none e hp)]; exact e)⟩, for_tup (K := K) (a := a) (xs := xs)
    (fun i σ H' => (∃ o4 o5 : Option V, σ = [some (.ref a), some (.int ((n + 1 : Nat) : Int)), some (.ref p), some (.int ((txts (ts.take i)).length + 2)), o4, o5]) ∧ pls n (ts.take i) = true ∧ fits (ts.take i) = true ∧ (txts (ts.take i)).length + 2 ≤ 100000 ∧
      H' p = some (.lst ((tys (ts.take i)).map V.str)) ∧ Kp [Pt] H H' ∧ GxR.TabG H' Pt)
    ⟨⟨none, none, rfl⟩, rfl, rfl, (by show 0 + 2 ≤ 100000; decide), upd_same, Kp.new hp _, TabG.upd hG (fun z => by subst z; obtain ⟨ps, q1, _⟩ := hG; rw [hp] at q1; cases q1)⟩
    (fun i σ H' _ ⟨_, _, _, _, _, k, _⟩ => SqT.of (k.tup _ _ e)) (fun i x σ H' hx ⟨⟨o4, o5, hσ⟩, i1, i2, i3, i4, k, g⟩ => ?_) (fun σ H' ⟨⟨o4, o5, hσ⟩, i1, i2, i3, i4, k, g⟩ => ?_)⟩
  · subst hσ
    obtain ⟨t, ht, hRt⟩ := hA.get hx
    have hm := List.mem_of_getElem? ht
    have e1 := take_one ht
    walk_at "wp"
    refine ⟨x, t, by rw [show ((n + 1 : Nat) : Int) - 1 = n by omega], hRt.kp k hG, smls_mem hs'.1 hm, g, fun p1 p2 H2 k2 g2 => ?_, fun hn H2 k2 g2 => ?_⟩
    · have := txt_size p1 p2 (smls_mem hs'.1 hm)
      have il : (txts (ts.take (i + 1))).length = (txts (ts.take i)).length + (txt t).length := by
        rw [e1, txts_app, List.length_append]
        show _ + (txt t ++ []).length = _
        rw [List.append_nil]
      walk_at "wp"
      have i5 := k2.keep p _ (by simpa using TabG.ne_lst g i4) i4
      refine ⟨by rw [S_len]; omega, ?_⟩
      rw [S_len]
      by_cases c : (txts (ts.take (i + 1))).length + 2 ≤ 100000
      · rw [if_neg (by omega)]
        have tl1 : (ts.take i).length ≤ 1000000 := by rw [List.length_take]; omega
        refine ⟨.inl ⟨rfl, _, SqL.of i5⟩, _, i5, by rw [List.length_map]; unfold tys; rw [List.length_map]; omega, by omega, ⟨_, rfl⟩, ?_, ?_, c, ?_, (k.trans k2).upd hp i5, TabG.upd g2 (TabG.ne_lst g2 i5)⟩
        · rw [e1, pls_app, i1]
          show (true && (pl n t && true)) = true
          rw [p1]; rfl
        · rw [e1, fits_app, i2]
          show (true && (fit t && true)) = true
          rw [p2]; rfl
        · rw [e1, tys_app, List.map_append]
          rfl
      · rw [if_pos (by omega)]
        refine qe (fun z => c ?_) H2 (k.trans k2) g2
        have z2 : (fits ts && decide ((txts ts).length + 2 ≤ 100000)) = true := z.2
        rw [Bool.and_eq_true, decide_eq_true_eq] at z2
        have := take_le ts (i + 1)
        omega
    · refine qe (fun z => hn ⟨?_, ?_⟩) H2 (k.trans k2) g2
      · exact pls_mem (show pls n ts = true from z.1) hm
      · have z2 : (fits ts && decide ((txts ts).length + 2 ≤ 100000)) = true := z.2
        rw [Bool.and_eq_true] at z2
        exact fits_mem z2.1 hm
  · subst hσ
    rw [xl, List.take_length] at i1 i2 i3 i4
    walk_at "wp"
    refine ⟨⟨_, rfl⟩, tys ts, .inl (SqL.of i4), ?_, ?_, ?_, ?_⟩
    · rw [tys_sum]
      show _ + (tys ts).length * 0 ≤ _
      omega
    · have : (Str.ofString "[").length = 1 := by decide +kernel
      rw [this, TL.len_tl, tl_tys]; omega
    · have h2 : (Str.ofString "]").length = 1 := by decide +kernel
      have h1 : (Str.ofString "[").length = 1 := by decide +kernel
      rw [TL.len_tl, TL.tl_append, List.length_append, ← TL.len_tl, h1, tl_tys, h2]; omega
    · have e4 : Str.ofString "[" ++ Txt.join (Str.ofString "") (tys ts) ++ Str.ofString "]" = ⟨(txt (.tup ts)).toArray⟩ := by
        refine TL.ext_tl ?_
        rw [TL.tl_append, TL.tl_append, tl_tys]
        rfl
      rw [e4]
      refine q i1 ?_ H' k g
      show (fits ts && decide ((txts ts).length + 2 ≤ 100000)) = true
      rw [i2, decide_eq_true i3]
      rfl
end
/-! the office -/
abbrev s_Seals___init : Stmt := inClass (top 83) 0
abbrev N_Seals___init : List Str := ["self"]
theorem sc_Seals___init : FnScope N_Seals___init ["self"] (defScope s_Seals___init) := ⟨rfl, rfl, rfl, by decide +kernel, rfl, by decide +kernel, by decide +kernel⟩
abbrev s_Seals_make : Stmt := inClass (top 83) 1
abbrev N_Seals_make : List Str := ["self", "key", "text", "mark"]
theorem sc_Seals_make : FnScope N_Seals_make ["self", "key", "text"] (defScope s_Seals_make) := ⟨rfl, rfl, rfl, by decide +kernel, rfl, by decide +kernel, by decide +kernel⟩
abbrev s_Seals_count : Stmt := inClass (top 83) 3
abbrev N_Seals_count : List Str := ["self"]
theorem sc_Seals_count : FnScope N_Seals_count ["self"] (defScope s_Seals_count) := ⟨rfl, rfl, rfl, by decide +kernel, rfl, by decide +kernel, by decide +kernel⟩
/-- the mark of a key and a text -/
def mkS (k t : Str) : Str := dgs (k ++ Str.ofString " " ++ t)
def mkO (made : List (Str × Str)) : List (List Key × V) := made.map fun p => ([Sum.inr p.1, Sum.inr p.2], V.str (mkS p.1 p.2))
/-- made with one pair more, if it is a new one -/
def addP (made : List (Str × Str)) (p : Str × Str) : List (Str × Str) := if p ∈ made then made else made ++ [p]
/-- an office at o, its dict at dm, made the pairs that signed -/
structure Ofc (C o dm : Addr) (made : List (Str × Str)) (H : Hp) : Prop where
  ob : ∃ dx, H o = some (.ins C dx [("_marks", .ref dm)])
  dc : H dm = some (.dT (mkO made))
theorem mkO_val (k t : Str) : ∀ made : List (Str × Str), valV (mkO made) ([Sum.inr k, Sum.inr t] : List Key) = if (k, t) ∈ made then some (.str (mkS k t)) else none
  | [] => rfl
  | p :: r => by
    have ih := mkO_val k t r
    show valV (([Sum.inr p.1, Sum.inr p.2], V.str (mkS p.1 p.2)) :: mkO r) _ = _
    by_cases e : (k, t) = p
    · subst e
      rw [if_pos List.mem_cons_self]
      exact valV_pos rfl
    · rw [valV_neg (fun z => e (by
        have z : ([Sum.inr p.1, Sum.inr p.2] : List Key) = [Sum.inr k, Sum.inr t] := z
        simp only [List.cons.injEq, Sum.inr.injEq, and_true] at z
        exact Prod.ext z.1.symm z.2.symm)), ih]
      by_cases m : (k, t) ∈ r
      · rw [if_pos m, if_pos (List.mem_cons_of_mem _ m)]
      · rw [if_neg m, if_neg (fun z => by
          rcases List.mem_cons.mp z with z | z
          · exact e z
          · exact m z)]
theorem mkO_put (k t : Str) (made : List (Str × Str)) : putK (mkO made) ([Sum.inr k, Sum.inr t] : List Key) (.str (mkS k t)) = mkO (addP made (k, t)) := by
  have v := mkO_val k t made
  unfold addP
  by_cases m : (k, t) ∈ made
  · rw [if_pos m] at v ⊢
    unfold putK
    rw [valV_any, v]
    rw [if_pos (show (some (V.str (mkS k t))).isSome = true from rfl)]
    unfold mkO
    rw [List.map_map]
    refine List.map_congr_left fun p hp => ?_
    show (if ([Sum.inr p.1, Sum.inr p.2] : List Key) = [Sum.inr k, Sum.inr t] then (([Sum.inr p.1, Sum.inr p.2] : List Key), V.str (mkS k t)) else ([Sum.inr p.1, Sum.inr p.2], V.str (mkS p.1 p.2))) = _
    split
    · rename_i z
      simp only [List.cons.injEq, Sum.inr.injEq, and_true] at z
      rw [z.1, z.2]
    · rfl
  · rw [if_neg m] at v ⊢
    rw [putK_new _ v]
    unfold mkO
    rw [List.map_append]
    rfl
theorem addP_len (made : List (Str × Str)) (p : Str × Str) : (addP made p).length ≤ made.length + 1 := by
  unfold addP
  split
  · omega
  · rw [List.length_append]; exact Nat.le_refl _
theorem mkO_len (made : List (Str × Str)) : (mkO made).length = made.length := List.length_map ..
def spInit (C : Addr) : Sp := fun vs H Q _ => ∃ (o dx : Addr), vs = [.ref o] ∧ H o = some (.ins C dx []) ∧ ∀ (dm : Addr) (H' : Hp), H dm = none → dm ≠ o → Ofc C o dm [] H' → Kp [o] H H' → Q .non H'
def spMake (C CK CT : Addr) (Ts : List Addr) : Sp := fun vs H Q E => ∃ (o dm : Addr) (made : List (Str × Str)) (kv tv : V), vs = [.ref o, kv, tv] ∧ Ofc C o dm made H ∧ made.length ≤ 1000 ∧ Tabs Ts H ∧ (∃ t, tyN H kv = some t) ∧ (∃ t, tyN H tv = some t) ∧ szV kv ∧ (∀ z, tv = .str z → z.length ≤ 10000000) ∧
  (kyV kv = false → ∀ H', Kp Ts H H' → Tabs Ts H' → E (.ref CK) none H') ∧ (kyV kv = true → prV tv = false → ∀ H', Kp Ts H H' → Tabs Ts H' → E (.ref CT) none H') ∧
  ∀ k t : Str, kv = .str k → tv = .str t → kyS k = true → prn t = true → ∀ H', Kp (dm :: Ts) H H' → Tabs Ts H' → Ofc C o dm (addP made (k, t)) H' → Q (.str (mkS k t)) H'
def spCount (C : Addr) : Sp := fun vs H Q _ => ∃ (o dm : Addr) (made : List (Str × Str)), vs = [.ref o] ∧ Ofc C o dm made H ∧ Q (.int made.length) H
structure SlC (K : PySem.W.Frag) (mg : Str → Option Value) (C CK CT : Addr) : Prop where
  cl : Cls K C
  nM : NoAttr K C "_marks"
  BadKey : Err K mg "BadKey" CK
  bad : Err K mg "BadText" CT
section
variable {P : Program} {w : World} {K : PySem.W.Frag} {mg : Str → Option Value} {base : Heap} {f : Addr} {fd : FuncData} {C CK CT : Addr}
theorem Ofc.kp {S : List Addr} {o dm : Addr} {made : List (Str × Str)} {H H' : Hp} (h : Ofc C o dm made H) (k : Kp S H H') (n1 : o ∉ S) (n2 : dm ∉ S) : Ofc C o dm made H' :=
  let ⟨dx, e⟩ := h.ob
  ⟨⟨dx, k.keep _ _ n1 e⟩, k.keep _ _ n2 h.dc⟩
theorem Ofc.tabs {Ts : List Addr} {o dm : Addr} {made : List (Str × Str)} {H H' : Hp} (h : Ofc C o dm made H) (k : Kp Ts H H') (g : Tabs Ts H) : Ofc C o dm made H' :=
  let ⟨dx, e⟩ := h.ob
  h.kp k (g.ne e) (g.ne h.dc)
theorem mk_kp {x dx : Addr} {H H1 : Hp} {o : HO} (n1 : H x = none) (n2 : H dx = none) (n3 : dx ≠ x) (k : Kp [x] (upd (upd H dx (.own x)) x o) H1) : Kp [] H H1 :=
  Kp.drop n1 (((Kp.new n2 (.own x) : Kp [x] _ _).trans (Kp.new (by rw [upd_ne n3.symm]; exact n1) o)).trans k)
theorem mk_none {x dx d : Addr} {H : Hp} {o : HO} (h : upd (upd H dx (.own x)) x o d = none) : H d = none := by
  have n1 : d ≠ x := fun e => by rw [e, upd_same] at h; cases h
  rw [upd_ne n1] at h
  have n2 : d ≠ dx := fun e => by rw [e, upd_same] at h; cases h
  rw [upd_ne n2] at h
  exact h
theorem ok_sinit (F : Fun K "__init__" "Seals.__init__" s_Seals___init f fd) (T : SlC K mg C CK CT) : FnOk P w K mg base CX0 1 f fd ["self"] (spInit C) := by
  refine F.ok sc_Seals___init (fun vs H Q E h => ?_) (fun cdv A outer s H vs Q E hr h => ?_)
  · obtain ⟨o, dx, rfl, _⟩ := h; rfl
  obtain ⟨o, dx, rfl, ho, q⟩ := h
  refine ⟨_, (pss_one (ps_fld (pv 0) pe_dnewT rfl)), ?_⟩
  intro d hd
  have nod : o ≠ d := ne_of_none ho hd
  refine ⟨_, rfl, o, C, dx, [], rfl, (by rw [upd_ne nod]; exact ho), T.cl, T.nM, (by show 0 < 1000; decide), ?_⟩
  refine q d _ hd nod.symm ⟨⟨dx, upd_same⟩, by rw [upd_ne nod.symm, upd_same]; rfl⟩ ⟨fun b u hb e => ?_, fun b xs e => ?_⟩
  · rw [upd_ne (fun z => hb (by rw [z]; exact List.mem_singleton.mpr rfl)), upd_ne (ne_of_none e hd)]; exact e
  · rw [upd_ne (ne_of e ho (by intro z; cases z)), upd_ne (ne_of_none e hd)]; exact e
theorem ok_smake {Pt Pc : Addr} {Ts : List Addr} (F : Fun K "make" "Seals.make" s_Seals_make f fd) (B : Blt mg) (T : SlC K mg C CK CT) (mt : Pt ∈ Ts) (mc : Pc ∈ Ts) (c_is_key : Cal P w K mg base CX0 4 "is_key" (spNm kyV Pc)) (c_is_printable : Cal P w K mg base CX0 3 "is_printable" (spPrn Pt)) (c_digest : Cal P w K mg base CX0 1 "digest" spDigest) :
    FnOk P w K mg base (L2.CX P w) 5 f fd ["self", "key", "text"] (spMake C CK CT Ts) := by
  refine F.okX sc_Seals_make (fun vs H Q E h => ?_) (fun cdv A outer s H vs Q E hr h => ?_)
  · obtain ⟨o, dm, made, kv, tv, rfl, _⟩ := h; rfl
  obtain ⟨o, dm, made, kv, tv, rfl, hO, hm, hG, ⟨t1, h1⟩, ⟨t2, h2⟩, z1, z2, e1, e2, q⟩ := h
  refine ⟨_, (pss_cons (ps_if (pt_not (pt_val (c_is_key.pe hr (pa_cons (pv 1) pa_nil)))) (pss_one (T.BadKey.raise (takes_of rfl rfl rfl rfl))) pss_nil)
    (pss_cons (ps_if (pt_not (pt_val (c_is_printable.pe hr (pa_cons (pv 2) pa_nil)))) (pss_one (T.bad.raise (takes_of rfl rfl rfl rfl))) pss_nil)
    (pss_cons (ps_set (i := 3) sc_Seals_make.nd rfl (Or.inl rfl) (c_digest.pe hr (pa_cons (pe_op op_add_str (pe_op op_add_str (pv 1) pe_str) (pv 2)) pa_nil)))
    (pss_cons (ps_dput (hu_of hr) (pe_fld (pv 0) rfl) (pe_tup (pa_cons (pv 1) (pa_cons (pv 2) pa_nil))) (pv 3) rfl)
    (pss_one (ps_ret (pv 3))))))), ?_⟩
  walk_at "wp"
  have off : ∀ {v : V} {t : String}, tyN H v = some t → kyV v = true → ∃ k, v = .str k ∧ kyS k = true := fun {v t} h e => by
    cases v <;> first | exact ⟨_, rfl, e⟩ | cases e
  have offT : ∀ {v : V}, prV v = true → ∃ k, v = .str k ∧ prn k = true := fun {v} e => by
    cases v <;> first | exact ⟨_, rfl, e⟩ | cases e
  refine ⟨kv, rfl, hG _ mc, ⟨t1, h1⟩, z1, fun H1 k1 g1 => ⟨_, rfl, ?_⟩⟩
  have G1 := hG.kp1 k1 g1
  have K1 : Kp Ts H H1 := k1.in1 mc
  cases ek : kyV kv with
  | false => rw [if_pos rfl]; exact e1 ek _ K1 G1
  | true =>
    rw [if_neg (by decide)]
    refine ⟨tv, rfl, G1 _ mt, ⟨t2, K1.tys hG h2⟩, fun H2 k2 g2 => ⟨_, rfl, ?_⟩⟩
    have G2 := G1.kp1 k2 g2
    have K2 : Kp Ts H H2 := K1.trans (k2.in1 mt)
    cases et : prV tv with
    | false => rw [if_pos rfl]; exact e2 ek et _ K2 G2
    | true =>
      rw [if_neg (by decide)]
      obtain ⟨k, rfl, hk⟩ := off h1 ek
      obtain ⟨t, rfl, hp⟩ := offT et
      have lk : k.length ≤ 12 := by
        have h := hk
        unfold kyS at h
        simp only [Bool.and_eq_true, decide_eq_true_eq] at h
        omega
      have lim : sizeLine = 16777216 := sizeLine_eq
      have lt : t.length ≤ 10000000 := z2 t rfl
      have l1 : (Str.ofString " ").length = 1 := by decide +kernel
      have la : ∀ x y : Str, (x ++ y).length = x.length + y.length := fun x y => by rw [TL.len_tl, TL.tl_append, List.length_append, ← TL.len_tl, ← TL.len_tl]
      have O2 := hO.tabs K2 hG
      obtain ⟨dx, ho⟩ := O2.ob
      refine ⟨k, rfl, by omega, t, rfl, by rw [la]; omega, _, rfl, by rw [la, la]; omega, C, dx, _, ho, T.cl, T.nM, _, rfl, by rw [lim]; decide, fun p hp2 => ⟨dm, rfl, upd (upd H2 p (.tup [.str k, .str t])) dm (.dT (mkO (addP made (k, t)))), ?_, ?_⟩⟩
      · have e1 : upd H2 p (.tup [.str k, .str t]) dm = some (.dT (mkO made)) := by rw [upd_ne (ne_of_none O2.dc hp2)]; exact O2.dc
        have z := DPut.t (v := .str (mkS k t)) (k := [Sum.inr k, Sum.inr t]) e1 upd_same (by rw [mkO_len]; omega)
        rw [mkO_put] at z
        exact z
      · have kp : Kp (dm :: Ts) H2 (upd (upd H2 p (.tup [.str k, .str t])) dm (.dT (mkO (addP made (k, t))))) := by
          refine ⟨fun b u n q => ?_, fun b xs q => ?_⟩
          · rw [upd_ne (fun z => n (by rw [z]; exact List.mem_cons_self)), upd_ne (ne_of_none q hp2)]; exact q
          · rw [upd_ne (ne_of q O2.dc (by intro z; cases z)), upd_ne (ne_of_none q hp2)]; exact q
        have nd : dm ∉ Ts := G2.ne O2.dc
        have nod : o ≠ dm := ne_of ho O2.dc (by intro z; cases z)
        refine q k t rfl rfl hk hp _ ((K2.mono fun b hb => List.mem_cons_of_mem _ hb).trans kp) (fun P m => ?_) ⟨⟨dx, ?_⟩, upd_same⟩
        · obtain ⟨a, e, z⟩ := G2 P m
          exact ⟨a, by rw [upd_ne (fun z => nd (by rw [← z]; exact m)), upd_ne (ne_of_none e hp2)]; exact e, z⟩
        · rw [upd_ne nod, upd_ne (ne_of_none ho hp2)]; exact ho
theorem ok_scount (F : Fun K "count" "Seals.count" s_Seals_count f fd) (B : Blt mg) (T : SlC K mg C CK CT) : FnOk P w K mg base CX0 1 f fd ["self"] (spCount C) := by
  refine F.ok sc_Seals_count (fun vs H Q E h => ?_) (fun cdv A outer s H vs Q E hr h => ?_)
  · obtain ⟨o, dm, made, rfl, _⟩ := h; rfl
  obtain ⟨o, dm, made, rfl, hO, q⟩ := h
  refine ⟨_, (pss_one (ps_ret (B.len_d (pa_cons (pe_fld (pv 0) rfl) pa_nil)))), ?_⟩
  obtain ⟨⟨dx, ho⟩, hd⟩ := hO
  refine ⟨_, rfl, o, C, dx, _, _, rfl, ho, T.cl, T.nM, rfl, dm, _, rfl, hd, ?_⟩
  rw [mkO_len]
  exact q
end
/-! ''.join([S[_law_take(stream, m)] for k in range(n)]) -/
section
variable {K : PySem.W.Frag}
theorem cps_lenP (z : Str) : z.cps.toList.length = z.length := by
  show _ = z.cps.size
  exact Array.length_toList
/-- the new list of one-sign texts -/
structure Picked (S : Str) (n : Nat) (st : Addr) (H : Hp) (D : Addr) (cs : List Nat) (H' : Hp) : Prop where
  at_ : H' D = some (.lst ((sgs cs).map V.str))
  len : cs.length = n
  mem : ∀ c ∈ cs, c ∈ S.cps.toList
  kp : Kp [st] H H'
  st : Strm H' st
theorem Picked.sum {S : Str} {n : Nat} {st : Addr} {H : Hp} {D : Addr} {cs : List Nat} {H' : Hp} (p : Picked S n st H D cs H') (hn : n ≤ 16000000) : (List.map (fun x => x.length) (sgs cs)).sum + (sgs cs).length * (Str.ofString "").length ≤ 16777216 := by
  rw [sgs_sum, sgs_len, p.len]
  show n + n * 0 ≤ _
  omega
end
/-! ''.join([S[_law_take(stream, m)] for k in range(n)]), S any reading -/
section
variable {K : PySem.W.Frag}
/-- [f(stream) for k in range(n)], f draws a text -/
theorem draw_lst {σ : St} {H0 : Hp} {R : VK} {ta : TA} {te : TE} {ks : Nat} {st : Addr} (Pn : Int → Hp → Prop) (Pk : Str → Prop)
    (ha : ∀ R, (∀ n H, Pn n H → R [V.int n] H) → ta σ H0 R) (hP : ∀ n H, Pn n H → 0 ≤ n ∧ n ≤ 1000 ∧ Strm H st)
    (hw : ∀ x : V, wipe ((wipe σ [ks]).set ks (some x)) [ks] = wipe σ [ks])
    (he : ∀ (x : V) (H2 : Hp) (R : VK), Strm H2 st → (∀ (k : Str) (H3 : Hp), Pk k → Kp [st] H2 H3 → Strm H3 st → R (.str k) H3) → te ((wipe σ [ks]).set ks (some x)) H2 R)
    (q : ∀ (n : Int) (H : Hp) (D : Addr) (cs : List Str) (H' : Hp), Pn n H → H' D = some (.lst (cs.map V.str)) → cs.length = n.toNat → (∀ c ∈ cs, Pk c) → Kp [st] H H' → Strm H' st → H D = none → R (.ref D) H') :
    tLc (iRng1 ta) (gName ks) tYes te [ks] σ H0 R := by
  refine ha _ fun n H hn => ?_
  obtain ⟨n0, n1, hst⟩ := hP n H hn
  refine ⟨n, rfl, by omega, by omega, fun D hD => ?_⟩
  have lim : sizeLine = 16777216 := sizeLine_eq
  have nD : D ≠ st := by obtain ⟨a, b, e⟩ := hst; exact (ne_of_none e hD).symm
  refine lc_range (lo := 0) (n := n.toNat) (fun i H' => ∃ cs : List Str, H' D = some (.lst (cs.map V.str)) ∧ cs.length = i ∧ (∀ c ∈ cs, Pk c) ∧ Kp [st] H H' ∧ Strm H' st)
    ⟨[], upd_same, rfl, fun c h => absurd h (by simp), Kp.new hD _, hst.kp (Kp.new hD _ : Kp [] _ _) (by simp)⟩ (fun i H2 hi ⟨cs, hcD, hcl, hca, k2, s2⟩ => ?_) (fun H2 ⟨cs, hcD, hcl, hca, k2, s2⟩ => ?_)
  · refine ⟨hw _, ?_⟩
    simp only [tYes, if_true]
    refine he _ _ _ s2 fun k H3 pk k3 s3 => ?_
    have hcD3 := k3.keep D _ (by simpa using nD) hcD
    refine ⟨cs.map V.str, hcD3, by rw [List.length_map]; omega, cs ++ [k], by rw [upd_same, List.map_append]; rfl, by rw [List.length_append, hcl]; rfl, fun d h => ?_, (k2.trans k3).upd hD hcD3, ?_⟩
    · rcases List.mem_append.mp h with h | h
      · exact hca d h
      · rw [List.mem_singleton.mp h]; exact pk
    · obtain ⟨a, b, e⟩ := s3
      exact ⟨a, b, by rw [upd_ne (Ne.symm nD)]; exact e⟩
  · exact q n H D cs H2 hn hcD hcl hca k2 s2 hD
end
/-! joined parts, matched -/
mutual
theorem sml_of : ∀ (n : Nat) (t : Tr), pl n t = true → (txt t).length ≤ 1000000 → sml t = true
  | _, .int _, _, _ => rfl
  | _, .str z, _, h => by
    have h : (dig z.length ++ 58 :: TL.tl z).length ≤ 1000000 := h
    rw [List.length_append, List.length_cons, ← TL.len_tl] at h
    show decide (z.length ≤ 10000000) = true
    exact decide_eq_true (by omega)
  | 0, .tup _, hp, _ => by cases hp
  | n + 1, .tup ts, hp, h => by
    have h : (91 :: (txts ts ++ [93])).length ≤ 1000000 := h
    rw [List.length_cons, List.length_append] at h
    obtain ⟨a, b⟩ := smls_of n ts hp (by omega)
    show (smls ts && decide (ts.length ≤ 1000000)) = true
    rw [a, decide_eq_true (by omega)]; rfl
  | _, .oth _, hp, _ => by cases hp
theorem smls_of : ∀ (n : Nat) (ts : List Tr), pls n ts = true → (txts ts).length ≤ 1000000 → smls ts = true ∧ ts.length ≤ (txts ts).length
  | _, [], _, _ => ⟨rfl, Nat.le_refl _⟩
  | n, t :: ts, hp, h => by
    have hp : (pl n t && pls n ts) = true := hp
    rw [Bool.and_eq_true] at hp
    have h : (txt t ++ txts ts).length ≤ 1000000 := h
    rw [List.length_append] at h
    obtain ⟨a, b⟩ := smls_of n ts hp.2 (by omega)
    have c := sml_of n t hp.1 (by omega)
    have d : 1 ≤ (txt t).length := txt_pos n t hp.1
    exact ⟨by show (sml t && smls ts) = true; rw [a, c]; rfl, by show ts.length + 1 ≤ (txt t ++ txts ts).length; rw [List.length_append]; omega⟩
theorem txt_pos : ∀ (n : Nat) (t : Tr), pl n t = true → 1 ≤ (txt t).length
  | _, .int i, _ => by show 1 ≤ (dig i.toNat ++ [46]).length; rw [List.length_append]; exact Nat.le_add_left _ _
  | _, .str z, _ => by show 1 ≤ (dig z.length ++ 58 :: TL.tl z).length; rw [List.length_append, List.length_cons]; omega
  | _, .tup ts, _ => by show 1 ≤ (91 :: (txts ts ++ [93])).length; rw [List.length_cons]; omega
  | _, .oth _, hp => by cases hp
end
/-! texts of proper signs -/
theorem ky_len {k : Str} (h : kyS k = true) : k.length ≤ 12 := by
  unfold kyS at h
  simp only [Bool.and_eq_true, decide_eq_true_eq] at h
  omega
theorem strOk_of {z : Str} (h : ∀ c ∈ TL.tl z, c < 1114112) : PyData.strOk z = true := by
  unfold PyData.strOk
  rw [← Array.all_toList, List.all_eq_true]
  exact fun c hc => decide_eq_true (h c hc)
theorem strOk_prn {z : Str} (h : prn z = true) : PyData.strOk z = true := strOk_of fun c hc => by
  unfold prn at h
  rw [List.all_eq_true] at h
  have := h c hc
  unfold prc at this
  simp only [Bool.and_eq_true, decide_eq_true_eq] at this
  omega
theorem strOk_ky {z : Str} (h : kyS z = true) : PyData.strOk z = true := strOk_of fun c hc => by
  unfold kyS at h
  simp only [Bool.and_eq_true, decide_eq_true_eq] at h
  obtain ⟨⟨⟨h1, h2⟩, h3⟩, h4⟩ := h
  have hl : z.cps.toList.length = z.length := cps_lenP z
  cases e : z.cps.toList with
  | nil => rw [e] at hl; simp at hl; omega
  | cons d r =>
    have hc : c ∈ d :: r := by rw [← e]; exact hc
    rw [e] at h3
    have h3 : d = 107 := Option.some.inj h3
    rcases List.mem_cons.mp hc with hc | hc
    · omega
    · unfold inT at h4
      rw [List.all_eq_true] at h4
      have hm : c ∈ (cutS z (some 1) none).cps.toList := by
        show c ∈ (z.cps.toList.drop (HT.sIx z.length 0 (some ((1 : Nat) : Int)))).take (HT.sIx z.length z.length none - HT.sIx z.length 0 (some ((1 : Nat) : Int)))
        rw [HT.sIx_nat, HT.sIx_none, e, show min 1 z.length = 1 by omega, List.take_of_length_le (by rw [List.length_drop, ← e, hl]; exact Nat.le_refl _)]
        exact hc
      have := of_decide_eq_true (h4 c hm)
      exact (by decide +kernel : ∀ c ∈ (Str.ofString "0123456789").cps.toList, c < 1114112) c this
theorem strOk_app {x y : Str} (h1 : PyData.strOk x = true) (h2 : PyData.strOk y = true) : PyData.strOk (x ++ y) = true := by
  unfold PyData.strOk at h1 h2
  rw [← Array.all_toList, List.all_eq_true] at h1 h2
  refine strOk_of fun c hc => ?_
  rw [TL.tl_append] at hc
  rcases List.mem_append.mp hc with hc | hc
  · exact of_decide_eq_true (h1 c hc)
  · exact of_decide_eq_true (h2 c hc)
/-! opened -/
abbrev s_ascends : Stmt := top 31
abbrev N_ascends : List Str := ["names"]
theorem sc_ascends : FnScope N_ascends ["names"] (defScope s_ascends) := ⟨rfl, rfl, rfl, by decide +kernel, rfl, by decide +kernel, by decide +kernel⟩
def spAsc (K : PySem.W.Frag) : Sp := fun vs H Q _ => ∃ (p : Addr) (xs : List Str), vs = [.ref p] ∧ SqL K H p (xs.map V.str) ∧ xs.length ≤ 100 ∧ (∀ z ∈ xs, PyData.strOk z = true) ∧ ∀ H', Kp [] H H' → Q (.bl (asc xs)) H'
theorem strs_dp {K : PySem.W.Frag} {H : Hp} : ∀ xs : List Str, DpAll K H (xs.map V.str) (xs.map PyData.str)
  | [] => .nil
  | x :: r => .cons (.str x) (strs_dp r)
theorem strs_shaped {xs : List Str} (h : ∀ z ∈ xs, PyData.strOk z = true) : SeqAt.shaped (.list (xs.map PyData.str)) = true := by
  have g : ∀ ys : List Str, (∀ z ∈ ys, PyData.strOk z = true) → PyData.canLayAll0 (ys.map PyData.str) = true ∧ PyData.depthAll (ys.map PyData.str) ≤ 0 := fun ys => by
    induction ys with
    | nil => exact fun _ => ⟨by simp [PyData.canLayAll0], by simp [PyData.depthAll]⟩
    | cons y r ih =>
      intro h
      have ih := ih fun z hz => h z (List.mem_cons_of_mem _ hz)
      exact ⟨by simp [PyData.canLayAll0, PyData.canLay0, ih.1, h y List.mem_cons_self], by
        have := ih.2
        simp only [List.map_cons, PyData.depthAll, PyData.depth]
        omega⟩
  obtain ⟨h1, h2⟩ := g xs h
  unfold SeqAt.shaped
  rw [Bool.and_eq_true]
  exact ⟨by simp [PyData.canLay0, h1], decide_eq_true (by simp only [PyData.depth]; omega)⟩
theorem strs_eqv : ∀ xs ys : List Str, PyData.eqvAll (xs.map PyData.str) (ys.map PyData.str) = decide (xs = ys)
  | [], [] => rfl
  | [], _ :: _ => rfl
  | _ :: _, [] => rfl
  | x :: xs, y :: ys => by
    show (x == y && PyData.eqvAll (xs.map PyData.str) (ys.map PyData.str)) = _
    rw [strs_eqv xs ys, Bool.eq_iff_iff, Bool.and_eq_true, beq_iff_eq, decide_eq_true_eq, decide_eq_true_eq, List.cons.injEq]
mutual
theorem Rep.tabs {Ts : List Addr} {H H' : Hp} (k : Kp Ts H H') (g : Tabs Ts H) : ∀ {v : V} {t : Tr}, Rep H v t → Rep H' v t
  | _, _, .int i => .int i
  | _, _, .str z => .str z
  | _, _, .tup e r => .tup (k.tup _ _ e) (r.tabs k g)
  | _, _, .oth e a b c => .oth (k.tys g e) a b c
theorem RepAll.tabs {Ts : List Addr} {H H' : Hp} (k : Kp Ts H H') (g : Tabs Ts H) : ∀ {vs : List V} {ts : List Tr}, RepAll H vs ts → RepAll H' vs ts
  | _, _, .nil => .nil
  | _, _, .cons a b => .cons (a.tabs k g) (b.tabs k g)
end
section
variable {P : Program} {w : World} {K : PySem.W.Frag} {mg : Str → Option Value} {base : Heap} {f : Addr} {fd : FuncData}
theorem ok_asc (F : Fun K "ascends" "ascends" s_ascends f fd) (B : Blt mg) (z1 : mg "sorted" = none) (z2 : mg "set" = none) : FnOk P w K mg base CX0 1 f fd ["names"] (spAsc K) := by
  refine F.ok sc_ascends (fun vs H Q E h => ?_) (fun cdv A outer s H vs Q E hr h => ?_)
  · obtain ⟨p, xs, rfl, _⟩ := h; rfl
  obtain ⟨p, xs, rfl, hp, hl, ho, q⟩ := h
  refine ⟨_, (pss_one (ps_ret (pe_cmpR (op_eqD hr.units) (pv 0) (pe_sortSet rfl rfl z1 rfl z2 (pv 0)) (nomark _)))), ?_⟩
  walk_at "wp"
  refine ⟨_, rfl, p, xs, rfl, hp, by omega, fun ys r ha mem hr2 => ?_⟩
  have n0 : Kp [] H (upd H r (.lst (ys.map V.str))) := Kp.new hr2 _
  refine ⟨.list (xs.map PyData.str), .list (ys.map PyData.str), .lst (n0.seqL List.not_mem_nil hp) (strs_dp xs), .lst (SqL.of upd_same) (strs_dp ys), strs_shaped ho, strs_shaped fun z hz => ho z ((mem z).mp hz), ?_⟩
  have y := q _ n0
  rw [show PyData.eqv (.list (xs.map PyData.str)) (.list (ys.map PyData.str)) = decide (xs = ys) from strs_eqv xs ys]
  have e : decide (xs = ys) = asc xs := by
    cases c : asc xs with
    | true => exact decide_eq_true (asc_eq c ha fun z => (mem z).symm)
    | false => exact decide_eq_false fun e => by rw [e, ha] at c; cases c
  rw [e]; exact y
end
/-! k14, k17: each key once -/
abbrev s_law_once : Stmt := top 88
abbrev N_law_once : List Str := ["keys", "names", "key"]
theorem sc_law_once : FnScope N_law_once ["keys"] (defScope s_law_once) := ⟨rfl, rfl, rfl, by decide +kernel, rfl, by decide +kernel, by decide +kernel⟩
def spOnce (K : PySem.W.Frag) : Sp := fun vs H Q _ => ∃ (a : Addr) (xs : List Str), vs = [.ref a] ∧ SqL K H a (xs.map V.str) ∧ xs.length ≤ 1000 ∧ (∀ z ∈ xs, PyData.strOk z = true) ∧
  ∀ (ys : List Str) (p : Addr) (H' : Hp), asc ys = true → (∀ z, z ∈ ys ↔ z ∈ xs) → ys.length ≤ xs.length → H p = none → H' p = some (.lst (ys.map V.str)) → Kp [] H H' → Q (.ref p) H'
def lstS (l : List Str) : Str := l.getLast?.getD (Str.ofString "")
theorem asc_snocN {k : Str} : ∀ l : List Str, l ≠ [] → asc (l ++ [k]) = (asc l && lt (lstS l) k)
  | [], h => absurd rfl h
  | [x], _ => by
    show (lt x k && (true && true)) = ((true && true) && lt x k)
    cases lt x k <;> rfl
  | x :: y :: r, _ => by
    have ih := asc_snocN (k := k) (y :: r) (by simp)
    show (lt x y && asc ((y :: r) ++ [k])) = ((lt x y && asc (y :: r)) && lt (lstS (x :: y :: r)) k)
    rw [ih, show lstS (x :: y :: r) = lstS (y :: r) from rfl, Bool.and_assoc]
theorem rise_next : ∀ (p : Str) (l : List Str) (j : Nat) (x y : Str), PyProof.Rows.risingS p l = true → (p :: l)[j]? = some x → (p :: l)[j + 1]? = some y → lt y x = false
  | p, [], j, x, y, _, _, h => by cases j <;> cases h
  | p, z :: r, 0, x, y, h, hx, hy => by
    have h : (!PySem.Spec.ltCps z.cps.toList p.cps.toList && PyProof.Rows.risingS z r) = true := h
    rw [Bool.and_eq_true] at h
    cases hx; cases hy
    simpa [lt, TL.tl] using h.1
  | p, z :: r, j + 1, x, y, h, hx, hy => by
    have h : (!PySem.Spec.ltCps z.cps.toList p.cps.toList && PyProof.Rows.risingS z r) = true := h
    rw [Bool.and_eq_true] at h
    exact rise_next z r j x y h.2 hx hy
theorem sorted_next {l : List Str} {j : Nat} {x y : Str} (h : PyProof.Rows.sortedS l = true) (hx : l[j]? = some x) (hy : l[j + 1]? = some y) : lt y x = false := by
  cases l with
  | nil => cases hx
  | cons p r => exact rise_next p r j x y h hx hy
/-- what is kept of the first i -/
structure Kept (ys : List Str) (i : Nat) (zs : List Str) : Prop where
  a : asc zs = true
  m : ∀ z, z ∈ zs ↔ z ∈ ys.take i
  n : zs.length ≤ i
  l : (zs = [] ∧ i = 0) ∨ ∃ j, i = j + 1 ∧ zs ≠ [] ∧ ys[j]? = some (lstS zs)
theorem Kept.step {ys zs : List Str} {i : Nat} {y : Str} (k : Kept ys i zs) (s : PyProof.Rows.sortedS ys = true) (h : ys[i]? = some y) (d : zs = [] ∨ lstS zs ≠ y) : Kept ys (i + 1) (zs ++ [y]) := by
  have tk : ys.take (i + 1) = ys.take i ++ [y] := by rw [List.take_add_one, h]; rfl
  refine ⟨?_, fun z => ?_, by rw [List.length_append, List.length_singleton]; exact Nat.succ_le_succ k.n, .inr ⟨i, rfl, by simp, by unfold lstS; rw [List.getLast?_append]; simpa using h⟩⟩
  · rcases k.l with ⟨e, _⟩ | ⟨j, rfl, ne, hj⟩
    · rw [e]; rfl
    · rw [asc_snocN zs ne, k.a, Bool.true_and]
      rcases lt_tri (lstS zs) y with e | e | e
      · rcases d with d | d
        · exact absurd d ne
        · exact absurd e d
      · exact e
      · rw [sorted_next s hj h] at e; cases e
  · rw [tk, List.mem_append, List.mem_append, k.m]
theorem Kept.same {ys zs : List Str} {i : Nat} {y : Str} (k : Kept ys i zs) (h : ys[i]? = some y) (ne : zs ≠ []) (e : lstS zs = y) : Kept ys (i + 1) zs := by
  have tk : ys.take (i + 1) = ys.take i ++ [y] := by rw [List.take_add_one, h]; rfl
  have my : y ∈ zs := by
    rw [← e]
    unfold lstS
    cases hh : zs.getLast? with
    | none => exact absurd (List.getLast?_eq_none_iff.mp hh) ne
    | some q => exact List.mem_of_getLast? hh
  refine ⟨k.a, fun z => ?_, Nat.le_succ_of_le k.n, .inr ⟨i, rfl, ne, by rw [e]; exact h⟩⟩
  rw [tk, List.mem_append, ← k.m, List.mem_singleton]
  exact ⟨.inl, fun q => q.elim id fun q => by rw [q]; exact my⟩
section
variable {P : Program} {w : World} {K : PySem.W.Frag} {mg : Str → Option Value} {base : Heap} {f : Addr} {fd : FuncData}
theorem ok_once (F : Fun K "_law_once" "_law_once" s_law_once f fd) (B : Blt mg) (z1 : mg "sorted" = none) : FnOk P w K mg base CX0 1 f fd ["keys"] (spOnce K) := by
  refine F.ok sc_law_once (fun vs H Q E h => ?_) (fun cdv A outer s H vs Q E hr h => ?_)
  · obtain ⟨a, xs, rfl, _⟩ := h; rfl
  obtain ⟨a, xs, rfl, hS, hl, ho, q⟩ := h
  refine ⟨_, (pss_cons (ps_set (i := 1) sc_law_once.nd rfl (Or.inl rfl) (pe_lst pa_nil))
    (pss_cons (ps_for PassesOwn.never rfl (pi_list (pe_callB cr_sortedA rfl z1 (by decide +kernel) (pa_cons (pv 0) pa_nil))) (pg_name (i := 2) sc_law_once.nd rfl (Or.inl rfl)) (pss_one (ps_if (PW.pt (pw_or (pt_cmpR (op_eqD hr.units) (pv 1) (pe_lst pa_nil) (nomark _)) (pw_or1 (pt_cmpR op_ne (pe_ix ix_lM (pv 1) (pe_op op_sub (B.len_q (pa_cons (pv 1) pa_nil)) pe_int) (fun _ _ => rfl)) (pv 2) (nomark _))))) (pss_one (ps_expr (pe_bm PySem.F.plainAttrs_list PySem.F.slot_list_append PySem.F.type_list_append mt_append (pv 1) (pa_cons (pv 2) pa_nil)))) pss_nil)))
    (pss_one (ps_ret (pv 1))))), ?_⟩
  walk_at "wp"
  have lim : sizeLine = 16777216 := sizeLine_eq
  refine ⟨by omega, fun p hp => ?_⟩
  have hS1 : SqL K (upd H p (.lst [])) a (xs.map V.str) := (Kp.new hp _ : Kp [] _ _).seqL List.not_mem_nil hS
  refine ⟨_, rfl, a, xs, rfl, hS1, fun ys r perm srt hr2 => ⟨r, rfl, ⟨_, SqL.of upd_same⟩, ?_⟩⟩
  have hpr : p ≠ r := fun e => by rw [← e, upd_same] at hr2; cases hr2
  have lys : ys.length = xs.length := perm.length_eq
  refine for_list (K := K) (a := r) (xs := ys.map V.str) (fun i σ H' => ∃ zs : List Str, (∃ o : Option V, σ = [some (.ref a), some (.ref p), o]) ∧ Kept ys i zs ∧ H' p = some (.lst (zs.map V.str)) ∧ H' r = some (.lst (ys.map V.str)) ∧ Kp [] H H')
    ⟨[], ⟨_, rfl⟩, ⟨rfl, fun z => by simp, Nat.le_refl _, .inl ⟨rfl, rfl⟩⟩, by rw [upd_ne hpr]; exact upd_same, upd_same, (Kp.new hp _).trans (Kp.new hr2 _)⟩ (fun i σ H' _ ⟨_, _, _, _, e, _⟩ => SqL.of e) (fun i x σ H' hx ⟨zs, ⟨o, hσ⟩, kp, e1, e2, k⟩ => ?_) (fun σ H' ⟨zs, ⟨o, hσ⟩, kp, e1, e2, k⟩ => ?_)
  · subst hσ
    rw [List.getElem?_map] at hx
    obtain ⟨y, hy, rfl⟩ := Option.map_eq_some_iff.mp hx
    have li := (List.getElem?_eq_some_iff.mp hy).1
    have zn := kp.n
    walk_at "wp"
    have pn : p ∉ ([] : List Addr) := List.not_mem_nil
    have npr : p ≠ r := hpr
    have add : ∀ H2 : Hp, Kp [] H' H2 → (zs = [] ∨ lstS zs ≠ y) → tyV K "list" (V.ref p) H2 ∧ ∃ x, H2 p = some (HO.lst x) ∧ x.length < sizeLine ∧ (∃ o, some (V.str y) = o) ∧ ∃ x_1, Kept ys (i + 1) x_1 ∧ x ++ [V.str y] = List.map V.str x_1 ∧
        upd H2 p (HO.lst (x ++ [V.str y])) r = some (HO.lst (List.map V.str ys)) ∧ Kp [] H (upd H2 p (HO.lst (x ++ [V.str y]))) := fun H2 k2 d => by
      have f1 := k2.keep p _ pn e1
      have f2 := k2.keep r _ List.not_mem_nil e2
      exact ⟨.inl ⟨rfl, _, SqL.of f1⟩, _, f1, by rw [List.length_map]; omega, ⟨_, rfl⟩, _, kp.step srt hy d, by rw [List.map_append]; rfl, by rw [upd_ne (Ne.symm npr)]; exact f2, (k.trans k2).upd hp f1⟩
    refine ⟨by omega, fun p1 h1 => ?_⟩
    have k1 : Kp [] H' (upd H' p1 (.lst [])) := Kp.new h1 _
    have sok : ∀ z ∈ zs, PyData.strOk z = true := fun z hz => ho z (perm.mem_iff.mp (List.mem_of_mem_take ((kp.m z).mp hz)))
    refine ⟨.list (zs.map PyData.str), .list (([] : List Str).map PyData.str), .lst (SqL.of (k1.keep p _ pn e1)) (strs_dp zs), .lst (SqL.of upd_same) (strs_dp []), strs_shaped sok, strs_shaped (fun z hz => absurd hz List.not_mem_nil), _, rfl, ?_⟩
    rw [show PyData.eqv (.list (zs.map PyData.str)) (.list (([] : List Str).map PyData.str)) = decide (zs = []) from strs_eqv zs []]
    split
    · rename_i c
      exact add _ k1 (.inl (of_decide_eq_true c))
    · rename_i c
      have ne : zs ≠ [] := fun e => c (decide_eq_true e)
      have f1 := k1.keep p _ pn e1
      have lz : 0 < zs.length := List.length_pos_iff.mpr ne
      have ex : atI (zs.map V.str) (((zs.map V.str).length : Nat) - 1 : Int) = some (V.str (lstS zs)) := by
        rw [List.length_map, show ((zs.length : Nat) - 1 : Int) = ((zs.length - 1 : Nat) : Int) by omega]
        refine atI_nat ?_
        rw [List.getElem?_map]
        unfold lstS
        rw [List.getLast?_eq_getElem?, List.getElem?_eq_getElem (by omega)]
        rfl
      refine ⟨_, .inl (SqL.of f1), _, f1, _, ex, rfl, ?_⟩
      split
      · rename_i d
        exact add _ k1 (.inr fun e => d (by rw [e]))
      · rename_i d
        have d : V.str (lstS zs) = V.str y := Decidable.not_not.mp d
        exact ⟨⟨_, rfl⟩, zs, kp.same hy ne (V.str.inj d), f1, k1.keep r _ List.not_mem_nil e2, k.trans k1⟩
  · subst hσ
    walk_at "wp"
    rw [List.length_map] at kp
    have zn := kp.n
    exact q zs p H' kp.a (fun z => by rw [kp.m, List.take_length]; exact perm.mem_iff) (by omega) hp e1 k
end
/-! the law's own text and comparison -/
abbrev s_law_text : Stmt := top 90
abbrev N_law_text : List Str := ["value", "item"]
theorem sc_law_text : FnScope N_law_text ["value"] (defScope s_law_text) := ⟨rfl, rfl, rfl, by decide +kernel, rfl, by decide +kernel, by decide +kernel⟩
abbrev s_law_same : Stmt := top 91
abbrev N_law_same : List Str := ["actual", "expected", "k"]
theorem sc_law_same : FnScope N_law_same ["actual", "expected"] (defScope s_law_same) := ⟨rfl, rfl, rfl, by decide +kernel, rfl, by decide +kernel, by decide +kernel⟩
def spLText (n : Nat) : Sp := fun vs H Q _ => ∃ (v : V) (t : Tr), vs = [v] ∧ Rep H v t ∧ pl n t = true ∧ sml t = true ∧ (txt t).length ≤ 1000000 ∧ ∀ H', Kp [] H H' → Q (.str ⟨(txt t).toArray⟩) H'
def spLTextR : Nat → Sp
  | 0 => fun _ _ _ _ => False
  | n + 1 => spLText n
def spSame (n : Nat) : Sp := fun vs H Q _ => ∃ (u v : V) (a b : Tr), vs = [u, v] ∧ Rep H u a ∧ Rep H v b ∧ pl n b = true ∧ sml b = true ∧ (Q (.bl (same a b)) H)
def spSameR : Nat → Sp
  | 0 => fun _ _ _ _ => False
  | n + 1 => spSame n
section
variable {P : Program} {w : World} {K : PySem.W.Frag} {mg : Str → Option Value} {base : Heap} {f : Addr} {fd : FuncData}
theorem ok_ltext {n j : Nat} (F : Fun K "_law_text" "_law_text" s_law_text f fd) (B : Blt mg) (c_law_text : Cal P w K mg base CX0 j "_law_text" (spLTextR n)) : FnOk P w K mg base CX0 (j + 1) f fd ["value"] (spLText n) := by
  refine F.ok sc_law_text (fun vs H Q E h => ?_) (fun cdv A outer s H vs Q E hr h => ?_)
  · obtain ⟨_, _, rfl, _⟩ := h; rfl
  obtain ⟨v, t, rfl, hR, hp, hs, hl, q⟩ := h
  refine ⟨_, (pss_cons (ps_if (pt_val (B.isT (pv 0) B.v_tuple)) (pss_one (ps_ret (pe_op op_add_str (pe_op op_add_str pe_str (pe_join pe_str (pe_lc (own := [("item", 1)]) (g := gName 1) (tt := tYes) rfl sc_law_text.nd (pi_tup (pv 0)) (blkOk_by (own := [("item", 1)]) (N := N_law_text) (sc := defScope s_law_text) (by decide +kernel)) (fun _ _ _ _ _ => pg_name (i := 1) sc_law_text.nd rfl (Or.inl rfl)) (fun _ _ _ _ _ => pts_nil) (fun _ _ _ _ _ => (c_law_text.pe hr (pa_cons (pv 1) pa_nil)))))) pe_str))) pss_nil)
    (pss_cons (ps_if (pt_val (B.isT (pv 0) B.v_str)) (pss_one (ps_ret (pe_op op_add_str (pe_op op_add_str (B.str_i (pa_cons (B.len_s (pa_cons (pv 0) pa_nil)) pa_nil)) pe_str) (pv 0)))) pss_nil)
    (pss_one (ps_ret (pe_op op_add_str (B.str_i (pa_cons (pv 0) pa_nil)) pe_str))))), ?_⟩
  walk_at "wp"
  have lim : sizeLine = 16777216 := sizeLine_eq
  cases hR with
  | str z =>
    obtain ⟨a1, a2, a3, a4, a5⟩ := strT (of_decide_eq_true (show decide (z.length ≤ 10000000) = true from hs))
    refine ⟨_, rfl, ?_⟩
    rw [if_neg (by decide)]
    refine ⟨_, rfl, ?_⟩
    rw [if_pos (by decide)]
    refine ⟨z, rfl, a1, a2, a3, z, rfl, a4, ?_⟩
    rw [a5]
    exact q H (Kp.refl _ _)
  | int i =>
    have h : (decide (0 ≤ i) && decide (i ≤ 99999999999999999999)) = true := hp
    rw [Bool.and_eq_true, decide_eq_true_eq, decide_eq_true_eq] at h
    obtain ⟨a1, a2, a3⟩ := intT h.1 h.2
    refine ⟨_, rfl, ?_⟩
    rw [if_neg (by decide)]
    refine ⟨_, rfl, ?_⟩
    rw [if_neg (by decide)]
    refine ⟨i, rfl, a1, a2, ?_⟩
    rw [a3]
    exact q H (Kp.refl _ _)
  | oth _ _ _ _ => cases hp
  | tup e hA =>
    rename_i a xs ts
    cases n with
    | zero => cases hp
    | succ m =>
    have hp : pls m ts = true := hp
    have hs : (smls ts && decide (ts.length ≤ 1000000)) = true := hs
    rw [Bool.and_eq_true, decide_eq_true_eq] at hs
    have hl : (91 :: (txts ts ++ [93])).length ≤ 1000000 := hl
    rw [List.length_cons, List.length_append] at hl
    have hl : (txts ts).length + 1 + 1 ≤ 1000000 := hl
    have xl := hA.len
    refine ⟨_, tyN_tup e, ?_⟩
    rw [if_pos (by decide)]
    refine ⟨⟨_, rfl⟩, _, rfl, a, rfl, ⟨xs, SqT.of e⟩, fun D hD => ?_⟩
    refine lc_tup (K := K) (a := a) (xs := xs) (fun i H' => H' D = some (.lst ((tys (ts.take i)).map V.str)) ∧ Kp [] H H') ⟨upd_same, Kp.new hD _⟩ (fun i H' _ ⟨_, k⟩ => SqT.of (k.keep _ _ (by simp) e))
      (fun i x H' hx ⟨hD', k⟩ => ?_) (fun H' ⟨hD', k⟩ => ?_)
    · obtain ⟨t, ht, hRt⟩ := hA.get hx
      have hm := List.mem_of_getElem? ht
      have ml := mem_len hm
      refine ⟨rfl, ?_⟩
      simp only [tYes, if_true]
      refine ⟨_, rfl, x, t, rfl, hRt.kp0 k, pls_mem hp hm, smls_mem hs.1 hm, by omega, fun H5 k5 => ?_⟩
      have hD5 := k5.keep D _ (by simp) hD'
      have tl1 : (ts.take i).length ≤ 1000000 := by rw [List.length_take]; omega
      refine ⟨_, hD5, by rw [List.length_map]; unfold tys; rw [List.length_map]; omega, ?_, (k.trans k5).upd hD hD5⟩
      rw [upd_same, take_one ht, tys_app, List.map_append]
      rfl
    · rw [xl, List.take_length] at hD'
      obtain ⟨a1, a2, a3, a4⟩ := tupT ts (by omega)
      refine ⟨D, rfl, tys ts, .inl (SqL.of hD'), a1, a2, a3, ?_⟩
      rw [a4]
      exact q H' k
theorem ok_same {n j : Nat} (F : Fun K "_law_same" "_law_same" s_law_same f fd) (B : Blt mg) (c_law_same : Cal P w K mg base CX0 j "_law_same" (spSameR n)) : FnOk P w K mg base CX0 (j + 1) f fd ["actual", "expected"] (spSame n) := by
  refine F.ok sc_law_same (fun vs H Q E h => ?_) (fun cdv A outer s H vs Q E hr h => ?_)
  · obtain ⟨_, _, _, _, rfl, _⟩ := h; rfl
  obtain ⟨u, v, a, b, rfl, hA, hB, hp, hs, q⟩ := h
  refine ⟨_, (pss_cons (ps_if (pt_val (B.isT (pv 1) B.v_tuple)) (pss_cons (ps_if (PW.pt (pw_or (pt_not (pt_val (B.isT (pv 0) B.v_tuple))) (pw_or1 (pt_cmpR op_ne (B.len_t (pa_cons (pv 0) pa_nil)) (B.len_t (pa_cons (pv 1) pa_nil)) (nomark _))))) (pss_one (ps_ret pe_bl)) pss_nil)
    (pss_cons (ps_for PassesOwn.never rfl (B.range1 (pa_cons (B.len_t (pa_cons (pv 1) pa_nil)) pa_nil)) (pg_name (i := 2) sc_law_same.nd rfl (Or.inl rfl)) (pss_one (ps_if (pt_not (pt_val (c_law_same.pe hr (pa_cons (pe_ix ix_tM (pv 0) (pv 2) (fun _ _ => rfl)) (pa_cons (pe_ix ix_tM (pv 1) (pv 2) (fun _ _ => rfl)) pa_nil))))) (pss_one (ps_ret pe_bl)) pss_nil)))
    (pss_one (ps_ret pe_bl)))) pss_nil)
    (pss_cons (ps_if (pt_cmpR op_isN (pv 1) pe_non (nomark _)) (pss_one (ps_ret (pe_cmpR op_isN (pv 0) pe_non (nomark _)))) pss_nil)
    (pss_cons (ps_if (pt_val (B.isT (pv 1) B.v_str)) (pss_one (ps_ret (pe_and (B.isT (pv 0) B.v_str) (pe_one (pe_cmpR op_eq (pv 0) (pv 1) (nomark _)))))) pss_nil)
    (pss_one (ps_ret (pe_and (B.isT (pv 0) B.v_int) (pe_and (pe_not (B.isT (pv 0) B.v_bool)) (pe_one (pe_cmpR op_eq (pv 0) (pv 1) (nomark _)))))))))), ?_⟩
  walk_at "wp"
  have lim : sizeLine = 16777216 := sizeLine_eq
  obtain ⟨tu, hu⟩ := hA.ty
  cases hB with
  | oth _ _ _ _ => cases hp
  | tup e hBs =>
    rename_i ad ys ts
    cases n with
    | zero => cases hp
    | succ m =>
    have hp' : pls m ts = true := hp
    have hs : (smls ts && decide (ts.length ≤ 1000000)) = true := hs
    rw [Bool.and_eq_true, decide_eq_true_eq] at hs
    refine ⟨_, tyN_tup e, ?_⟩
    rw [if_pos (by decide)]
    refine ⟨tu, hu, ?_⟩
    cases c1 : isaB tu "tuple" with
    | false =>
      rw [if_pos rfl]
      have e0 : same a (.tup ts) = false := by
        cases a with
        | tup us => cases hA with | tup e2 _ => rw [tyN_tup e2] at hu; cases hu; exact absurd c1 (by decide)
        | _ => rfl
      rw [e0] at q
      exact q
    | true =>
      rw [if_neg (by decide)]
      obtain ⟨pu, xs, rfl, eu⟩ := isa_tuple hu c1
      obtain ⟨us, rfl, hAs⟩ : ∃ us, a = .tup us ∧ RepAll H xs us := by
        cases hA with
        | tup e2 h2 => rw [eu] at e2; cases e2; exact ⟨_, rfl, h2⟩
        | oth e1 n1 n2 n3 => rw [tyN_tup eu] at e1; cases e1; exact absurd rfl n3
      refine ⟨pu, rfl, xs, eu, ad, rfl, ys, e, ?_⟩
      have xl := hAs.len
      have yl := hBs.len
      by_cases c2 : xs.length = ys.length
      · rw [if_neg (by omega)]
        refine ⟨_, rfl, ad, rfl, ys, e, ys.length, rfl, by omega, by omega, ?_⟩
        refine for_range (lo := 0) (n := (ys.length : Int).toNat) (fun i σ H' => H' = H ∧ (∃ o, σ = [some (.ref pu), some (.ref ad), o]) ∧ sames (us.take i) (ts.take i) = true) ⟨rfl, ⟨_, rfl⟩, rfl⟩ (fun i σ H' hi ⟨hH, ⟨o, hσ⟩, sm⟩ => ?_) (fun σ H' ⟨hH, ⟨o, hσ⟩, sm⟩ => ?_)
        · subst hH
          subst hσ
          have hi : i < ys.length := by omega
          have gx : xs[i]? = some xs[i] := List.getElem?_eq_getElem (by omega)
          have gy : ys[i]? = some ys[i] := List.getElem?_eq_getElem hi
          obtain ⟨tu, ht, hRt⟩ := hAs.get gx
          obtain ⟨tv, hv, hRv⟩ := hBs.get gy
          have mv := List.mem_of_getElem? hv
          have ei : (0 : Int) + (i : Int) = ((i : Nat) : Int) := by omega
          refine ⟨_, rfl, _, rfl, pu, rfl, xs, eu, _, rfl, xs[i], ?_, _, rfl, _, rfl, ad, rfl, ys, e, _, rfl, ys[i], ?_, xs[i], ys[i], tu, tv, rfl, hRt, hRv, pls_mem hp' mv, smls_mem hs.1 mv, ?_⟩
          · rw [ei]; exact atI_nat gx
          · rw [ei]; exact atI_nat gy
          refine ⟨_, rfl, ?_⟩
          cases h : same tu tv with
          | false =>
            rw [if_pos (show (!false) = true from rfl)]
            have e0 : same (.tup us) (.tup ts) = false := by
              cases h2 : sames us ts with
              | false => exact h2
              | true =>
                have := sames_eq _ _ h2
                subst this
                rw [ht] at hv
                cases hv
                rw [same_refl m tu (pls_mem hp' mv)] at h
                cases h
            rw [e0] at q
            exact q
          | true =>
            rw [if_neg (by decide)]
            refine ⟨rfl, ⟨_, rfl⟩, ?_⟩
            rw [take_one ht, take_one hv]
            exact sames_cat h _ _ sm
        · subst hH
          subst hσ
          rw [Int.toNat_natCast, yl, List.take_length, List.take_of_length_le (by omega)] at sm
          have q : Q (.bl (sames us ts)) H' := q
          rw [sm] at q
          exact q
      · rw [if_pos (by omega)]
        have e0 : same (.tup us) (.tup ts) = false := by
          cases h : sames us ts with
          | false => exact h
          | true => exact absurd (sames_len h) (by omega)
        rw [e0] at q
        exact q
  | str z =>
    refine ⟨_, rfl, ?_⟩
    rw [if_neg (by decide), if_neg (by intro z; cases z)]
    refine ⟨_, rfl, ?_⟩
    rw [if_pos (by decide)]
    refine ⟨tu, hu, ?_⟩
    cases c1 : isaB tu "str" with
    | false =>
      rw [if_neg (by decide)]
      have e0 : same a (.str z) = false := by
        cases a with
        | str y => cases hA; cases hu; exact absurd c1 (by decide)
        | _ => rfl
      rw [e0] at q
      exact q
    | true =>
      rw [if_pos rfl]
      obtain ⟨y, rfl⟩ := isa_str hu c1
      have ea : a = .str y := by
        cases hA with
        | str => rfl
        | oth e1 n1 n2 n3 => cases e1; exact absurd rfl n2
      subst ea
      refine ⟨rfl, ?_⟩
      have e : decide (V.str y = V.str z) = decide (y = z) := by simp
      rw [e]
      exact q
  | int i =>
    refine ⟨_, rfl, ?_⟩
    rw [if_neg (by decide), if_neg (by intro z; cases z)]
    refine ⟨_, rfl, ?_⟩
    rw [if_neg (by decide)]
    refine ⟨tu, hu, ?_⟩
    cases c1 : isaB tu "int" with
    | false =>
      rw [if_neg (by decide)]
      have e0 : same a (.int i) = false := by
        cases a with
        | int y => cases hA; cases hu; exact absurd c1 (by decide)
        | _ => rfl
      rw [e0] at q
      exact q
    | true =>
      rw [if_pos rfl]
      refine ⟨tu, hu, ?_⟩
      rcases isa_int hu c1 with ⟨y, rfl⟩ | ⟨y, rfl⟩
      · have ea : a = .int y := by
          cases hA with
          | int => rfl
          | oth e1 n1 n2 n3 => cases e1; exact absurd rfl n1
        subst ea
        cases hu
        rw [if_pos (by decide)]
        refine ⟨rfl, ?_⟩
        have e : decide (V.int y = V.int i) = decide (y = i) := by simp
        rw [e]
        exact q
      · have e0 : same a (.int i) = false := by cases hA; rfl
        rw [e0] at q
        cases hu
        rw [if_neg (by decide)]
        exact q
end
/-! the laws' own keys, words, marks -/
abbrev s_law_counts : Stmt := top 92
abbrev N_law_counts : List Str := ["actual", "expected"]
theorem sc_law_counts : FnScope N_law_counts ["actual", "expected"] (defScope s_law_counts) := ⟨rfl, rfl, rfl, by decide +kernel, rfl, by decide +kernel, by decide +kernel⟩
def spLDig : Sp := fun vs H Q _ => ∃ z : Str, vs = [.str z] ∧ z.length ≤ 1000000 ∧ Q (.str (dgs z)) H
def spCounts : Sp := fun vs H Q _ => ∃ a b : Int, vs = [.int a, .int b] ∧ Q (.bl (decide (a = b))) H
/-- the lowest k hexadecimal signs of n -/
def ldx : Nat → Nat → List Nat
  | 0, _ => []
  | k + 1, n => (Nat.digitChar (n / 16 ^ k % 16)).toNat :: ldx k n
theorem ldx_snoc : ∀ (k n : Nat), ldx (k + 1) n = ldx k (n / 16) ++ [(Nat.digitChar (n % 16)).toNat]
  | 0, n => by
    show [(Nat.digitChar (n / 16 ^ 0 % 16)).toNat] = _
    rw [Nat.pow_zero, Nat.div_one]; rfl
  | k + 1, n => by
    show (Nat.digitChar (n / 16 ^ (k + 1) % 16)).toNat :: ldx (k + 1) n = _
    rw [ldx_snoc k n]
    show _ = (Nat.digitChar (n / 16 / 16 ^ k % 16)).toNat :: ldx k (n / 16) ++ _
    rw [Nat.div_div_eq_div_mul, ← Nat.pow_succ']
    rfl
theorem ldx_zero : ∀ k, ldx k 0 = List.replicate k 48
  | 0 => rfl
  | k + 1 => by
    show (Nat.digitChar (0 / 16 ^ k % 16)).toNat :: ldx k 0 = _
    rw [Nat.zero_div, ldx_zero k]; rfl
theorem ldx_hx : ∀ (k n : Nat), n < 16 ^ (k + 1) → List.replicate (k + 1 - (hxT n).length) 48 ++ hxT n = ldx (k + 1) n
  | 0, n, h => by
    have h : n < 16 := h
    rw [hxT_one h, ldx_snoc, Nat.mod_eq_of_lt h]; rfl
  | k + 1, n, h => by
    rw [ldx_snoc]
    by_cases c : n < 16
    · rw [hxT_one c, Nat.div_eq_of_lt c, ldx_zero, Nat.mod_eq_of_lt c]
      rfl
    · have ih := ldx_hx k (n / 16) (by rw [Nat.pow_succ] at h; exact Nat.div_lt_of_lt_mul (by omega))
      rw [← ih, hxT_snoc c, List.length_append, List.append_assoc]
      congr 2
      show k + 1 + 1 - ((hxT (n / 16)).length + 1) = _
      omega
theorem ldx_len : ∀ (k n : Nat), (ldx k n).length = k
  | 0, _ => rfl
  | k + 1, n => by show (ldx k n).length + 1 = _; rw [ldx_len k n]
theorem hx_at : ∀ d : Nat, d < 16 → (Str.ofString "0123456789abcdef").cps.toList[d]? = some (Nat.digitChar d).toNat := by decide +kernel
theorem hx18_ldx {n : Nat} (h : n < dgD) : hx18 n = ldx 18 n := ldx_hx 17 n (Nat.lt_trans h (by decide))
section
variable {P : Program} {w : World} {K : PySem.W.Frag} {mg : Str → Option Value} {base : Heap} {f : Addr} {fd : FuncData}
theorem ok_counts (F : Fun K "_law_counts" "_law_counts" s_law_counts f fd) (B : Blt mg) : FnOk P w K mg base CX0 1 f fd ["actual", "expected"] spCounts := by
  refine F.ok sc_law_counts (fun vs H Q E h => ?_) (fun cdv A outer s H vs Q E hr h => ?_)
  · obtain ⟨a, b, rfl, _⟩ := h; rfl
  obtain ⟨a, b, rfl, q⟩ := h
  refine ⟨_, (pss_one (ps_ret (pe_and (B.isT (pv 0) B.v_int) (pe_and (pe_not (B.isT (pv 0) B.v_bool)) (pe_one (pe_cmpR op_eq (pv 0) (pv 1) (nomark _))))))), ?_⟩
  walk_at "wp"
  exact q
end
/-! plain trees and their sizes -/
def okT (d : Nat) (t : Tr) (n : Nat) : Prop := pl d t = true ∧ sml t = true ∧ (txt t).length ≤ n
/-- a pair, near a seal, or whatever -/
def Fine (H : Hp) (x : V) (d n : Nat) : Prop := ∃ t, Rep H x t ∧ okT d t n
theorem Fine.any {S : List Addr} {H H' : Hp} {x : V} {d n : Nat} (k : Kp S H H') (g : Fine H x d n) : Fine H' x d n :=
  let ⟨t, a, b⟩ := g
  ⟨t, a.any k (pl_pure _ _ b.1), b⟩
/-! seal -/
abbrev s_different_keys : Stmt := top 74
abbrev N_different_keys : List Str := ["keys", "different"]
theorem sc_different_keys : FnScope N_different_keys ["keys"] (defScope s_different_keys) := ⟨rfl, rfl, rfl, by decide +kernel, rfl, by decide +kernel, by decide +kernel⟩
abbrev s_seal : Stmt := top 73
abbrev N_seal : List Str := ["office", "text", "keys", "different", "blank", "key"]
theorem sc_seal : FnScope N_seal ["office", "text", "keys"] (defScope s_seal) := ⟨rfl, rfl, rfl, by decide +kernel, rfl, by decide +kernel, by decide +kernel⟩
structure MsC (mg : Str → Option Value) : Prop where
  c_MOST_SEALS : ∃ t, mg "MOST_SEALS" = some (.int 32 t)
theorem if_no {p : Prop} [Decidable p] {A B : Prop} (h : ¬ p) (b : B) : if p then A else B := by rw [if_neg h]; exact b
theorem if_yes {p : Prop} [Decidable p] {A B : Prop} (h : p) (b : A) : if p then A else B := by rw [if_pos h]; exact b
/-- the tree of a sealed text -/
def rowT (z k : Str) : Tr := .tup [.str k, .str (mkS k z)]
def sealT (z : Str) (ys : List Str) : Tr := .tup [.str z, .tup (ys.map (rowT z))]
/-- what is made of the pairs of the keys with a text -/
def madeA (made : List (Str × Str)) (z : Str) (ys : List Str) : List (Str × Str) := ys.foldl (fun m k => addP m (k, z)) made
def blk : Str := ⟨(List.replicate 18 48).toArray⟩
def rowB (b k : Str) : Tr := .tup [.str k, .str b]
def sealB (z b : Str) (ys : List Str) : Tr := .tup [.str z, .tup (ys.map (rowB b))]
theorem kyl12 {k : Str} (h : kyS k = true) : k.length ≤ 12 := by
  unfold kyS at h
  simp only [Bool.and_eq_true, decide_eq_true_eq] at h
  exact h.1.1.2
theorem kyPrn {z : Str} (h : kyS z = true) : prn z = true := by
  unfold prn
  rw [List.all_eq_true]
  intro c hc
  unfold kyS at h
  simp only [Bool.and_eq_true, decide_eq_true_eq] at h
  obtain ⟨⟨⟨h1, h2⟩, h3⟩, h4⟩ := h
  have hl : z.cps.toList.length = z.length := cps_lenP z
  cases e : z.cps.toList with
  | nil => rw [e] at hl; simp at hl; omega
  | cons d r =>
    have hc : c ∈ d :: r := by rw [← e]; exact hc
    rw [e] at h3
    have h3 : d = 107 := Option.some.inj h3
    rcases List.mem_cons.mp hc with hc | hc
    · rw [hc, h3]; decide +kernel
    · unfold inT at h4
      rw [List.all_eq_true] at h4
      have e2 : (cutS z (some 1) none).cps.toList = r := by
        have := cut_from z 1
        rw [show TL.tl z = d :: r from e] at this
        exact this
      have := of_decide_eq_true (h4 c (by rw [e2]; exact hc))
      exact (by decide +kernel : ∀ c ∈ (Str.ofString "0123456789").cps.toList, prc c = true) c this
theorem rows_pure (b : Str) : ∀ ys : List Str, pures (ys.map (rowB b)) = true
  | [] => rfl
  | y :: ys => rows_pure b ys
theorem rowsT_pure (z : Str) : ∀ ys : List Str, pures (ys.map (rowT z)) = true
  | [] => rfl
  | y :: ys => rowsT_pure z ys
theorem mkS_len (k z : Str) : (mkS k z).length = 18 := by
  show (⟨(hx18 (dgN (k ++ Str.ofString " " ++ z).cps.toList)).toArray⟩ : Str).length = 18
  rw [S_len, hx18_ldx (dgN_lt _), ldx_len]
theorem pls_rowB {n : Nat} {b : Str} (hb : prn b = true) : ∀ {ys : List Str}, (∀ k ∈ ys, prn k = true) → pls (n + 1) (ys.map (rowB b)) = true
  | [], _ => rfl
  | y :: ys, h => by
    show ((prn y && (prn b && true)) && pls (n + 1) (ys.map (rowB b))) = true
    rw [h y List.mem_cons_self, hb, pls_rowB hb fun k m => h k (List.mem_cons_of_mem _ m)]; rfl
theorem pl_sealB {z b : Str} {ys : List Str} (hz : prn z = true) (hb : prn b = true) (hk : ∀ k ∈ ys, prn k = true) : pl 8 (sealB z b ys) = true := by
  show (prn z && (pls 6 (ys.map (rowB b)) && true)) = true
  rw [hz, pls_rowB hb hk]; rfl
theorem smls_rowB {b : Str} (hb : b.length ≤ 10000000) : ∀ {ys : List Str}, (∀ k ∈ ys, k.length ≤ 12) → smls (ys.map (rowB b)) = true
  | [], _ => rfl
  | y :: ys, h => by
    show (((decide (y.length ≤ 10000000) && (decide (b.length ≤ 10000000) && true)) && decide (2 ≤ 1000000)) && smls (ys.map (rowB b))) = true
    rw [decide_eq_true (show y.length ≤ 10000000 by have := h y List.mem_cons_self; omega), decide_eq_true hb, smls_rowB hb fun k m => h k (List.mem_cons_of_mem _ m)]; rfl
theorem sml_sealB {z b : Str} {ys : List Str} (hz : z.length ≤ 10000000) (hb : b.length ≤ 10000000) (ly : ys.length ≤ 32) (hk : ∀ k ∈ ys, k.length ≤ 12) : sml (sealB z b ys) = true := by
  show ((decide (z.length ≤ 10000000) && ((smls (ys.map (rowB b)) && decide ((ys.map (rowB b)).length ≤ 1000000)) && true)) && decide (2 ≤ 1000000)) = true
  rw [decide_eq_true hz, smls_rowB hb hk, List.length_map, decide_eq_true (show ys.length ≤ 1000000 by omega)]; rfl
theorem mkS_prn (k z : Str) : prn (mkS k z) = true := by
  unfold prn
  rw [List.all_eq_true]
  intro c hc
  have h := hx18_in _ c hc
  exact (by decide +kernel : ∀ c ∈ hxs, prc c = true) c h
theorem pls_rowT {n : Nat} {z : Str} (hz : prn z = true) : ∀ {ys : List Str}, (∀ k ∈ ys, prn k = true) → pls (n + 1) (ys.map (rowT z)) = true
  | [], _ => rfl
  | y :: ys, h => by
    show ((prn y && (prn (mkS y z) && true)) && pls (n + 1) (ys.map (rowT z))) = true
    rw [h y List.mem_cons_self, mkS_prn, pls_rowT hz fun k m => h k (List.mem_cons_of_mem _ m)]; rfl
theorem pl_sealT {z : Str} {ys : List Str} (hz : prn z = true) (hk : ∀ k ∈ ys, prn k = true) : pl 8 (sealT z ys) = true := by
  show (prn z && (pls 6 (ys.map (rowT z)) && true)) = true
  rw [hz, pls_rowT hz hk]; rfl
theorem rowsB_len (z : Str) : ∀ ys : List Str, (txts (ys.map (rowT z))).length = (txts (ys.map (rowB blk))).length
  | [] => rfl
  | y :: ys => by
    have e : ∀ m : Str, m.length = 18 → (txt (.tup [.str y, .str m])).length = (dig y.length).length + (y.length + 1) + ((dig 18).length + 19) + 2 := fun m hm => by
      show (91 :: (((dig y.length ++ 58 :: TL.tl y) ++ ((dig m.length ++ 58 :: TL.tl m) ++ [])) ++ [93])).length = _
      rw [hm]
      simp only [List.length_cons, List.length_append, List.length_nil, ← TL.len_tl, hm]
      try omega
    show (txt (.tup [.str y, .str (mkS y z)]) ++ txts (ys.map (rowT z))).length = (txt (.tup [.str y, .str blk]) ++ txts (ys.map (rowB blk))).length
    rw [List.length_append, List.length_append, rowsB_len z ys, e _ (mkS_len y z), e blk (by decide +kernel)]
theorem sealB_len (z : Str) (ys : List Str) : (txt (sealT z ys)).length = (txt (sealB z blk ys)).length := by
  have e : ∀ ts : List Tr, (txt (.tup [.str z, .tup ts])).length = (txt (.str z)).length + (txts ts).length + 4 := fun ts => by
    show (91 :: ((txt (.str z) ++ ((91 :: (txts ts ++ [93])) ++ [])) ++ [93])).length = _
    simp only [List.length_cons, List.length_append, List.length_nil]
    omega
  show (txt (.tup [.str z, .tup (ys.map (rowT z))])).length = (txt (.tup [.str z, .tup (ys.map (rowB blk))])).length
  rw [e, e, rowsB_len]
theorem madeA_len (made : List (Str × Str)) (z : Str) : ∀ ys : List Str, (madeA made z ys).length ≤ made.length + ys.length := by
  intro ys
  induction ys generalizing made with
  | nil => exact Nat.le_refl _
  | cons y ys ih =>
    have := ih (addP made (y, z))
    have := addP_len made (y, z)
    show (madeA (addP made (y, z)) z ys).length ≤ made.length + (ys.length + 1)
    omega
theorem madeA_snoc (made : List (Str × Str)) (z k : Str) (ys : List Str) : madeA made z (ys ++ [k]) = addP (madeA made z ys) (k, z) := by
  unfold madeA
  rw [List.foldl_append]; rfl
def spDiff (CK : Addr) (K : PySem.W.Frag) (Ts : List Addr) : Sp := fun vs H Q E => ∃ (a : Addr) (xs : List V), vs = [.ref a] ∧ SqL K H a xs ∧ xs.length ≤ 1000 ∧ (∀ x ∈ xs, (∃ t, tyN H x = some t) ∧ szV x) ∧ Tabs Ts H ∧
  (xs.all kyV = false → ∀ H', Kp Ts H H' → Tabs Ts H' → E (.ref CK) none H') ∧
  ∀ ks : List Str, xs = ks.map V.str → (∀ k ∈ ks, kyS k = true) → ∀ ys : List Str, asc ys = true → (∀ z, z ∈ ys ↔ z ∈ ks) → (32 < ys.length → ∀ H', Kp Ts H H' → Tabs Ts H' → E (.ref CK) none H') ∧
    (ys.length ≤ 32 → ∀ (p : Addr) (H' : Hp), Kp Ts H H' → Tabs Ts H' → H p = none → H' p = some (.lst (ys.map V.str)) → Q (.ref p) H')
section
variable {P : Program} {w : World} {K : PySem.W.Frag} {mg : Str → Option Value} {base : Heap} {f : Addr} {fd : FuncData} {C CK CT : Addr} {Ts : List Addr}
theorem kys_of : ∀ {xs : List V}, xs.all kyV = true → ∃ ks : List Str, xs = ks.map V.str ∧ ∀ k ∈ ks, kyS k = true
  | [], _ => ⟨[], rfl, fun _ m => absurd m List.not_mem_nil⟩
  | x :: xs, h => by
    rw [List.all_cons, Bool.and_eq_true] at h
    obtain ⟨ks, e, hk⟩ := kys_of h.2
    obtain ⟨k, rfl⟩ : ∃ k, x = .str k := by
      cases x with
      | str k => exact ⟨k, rfl⟩
      | _ => cases h.1
    refine ⟨k :: ks, by rw [e]; rfl, fun y m => ?_⟩
    rcases List.mem_cons.mp m with rfl | m
    · exact h.1
    · exact hk y m
theorem ok_diff {oc kV doc pm ct : Value} {od an : Option Addr} {osl : Array (Option Value)} {c Pt Pc : Addr} (B : Blt mg) (zsort : mg "sorted" = none) (zset : mg "set" = none) (TB : GxR.TabB base mg c Pt) (DO : MsC mg) (T : SlC K mg C CK CT) (mt : Pt ∈ Ts) (mc : Pc ∈ Ts)
    (lk : K.lookup f = some ⟨oc, od, .func (PySem.W.fnOf "_different_keys" "_different_keys" (defArgs s_different_keys) (defBody s_different_keys) (defScope s_different_keys) .none kV doc pm an (.ref c) ct), osl⟩) (hcd : PySem.W.codeIn K (.ref c) "_different_keys" = true)
    (c_is_key : Cal P w K mg base CX0 4 "is_key" (spNm kyV Pc)) :
    FnOk P w K mg base (L2.CX P w) 8 f (PySem.W.fnOf "_different_keys" "_different_keys" (defArgs s_different_keys) (defBody s_different_keys) (defScope s_different_keys) .none kV doc pm an (.ref c) ct) ["keys"] (spDiff CK K Ts) := by
  refine fn_of (CX := L2.CX P w) lk hcd sc_different_keys (fun vs H Q E h => ?_) (fun A outer s H vs Q E hr h => ?_)
  · obtain ⟨a, xs, rfl, _⟩ := h; rfl
  obtain ⟨a, xs, rfl, hS, hl, hx, hG, qe, q⟩ := h
  refine ⟨_, (pss_cons (ps_if (pt_not (pt_val (pe_allG (N := ["key"]) (nt := 1) (fr := []) rfl hr B TB rfl (gnOf (by decide +kernel)) (by show freeOk _ (defScope s_different_keys) = true; decide +kernel) (by show capOk _ _ _ N_different_keys _ (defScope s_different_keys) = true; decide +kernel)
      (pi_list (pv 0)) (fun _ _ _ _ _ hr => (pg_name (i := 0) (by show List.Nodup (["key"] : List Str); decide +kernel) rfl (Or.inl rfl))) (fun _ _ _ _ _ hr => pts_nil) (fun _ _ _ _ _ hr => (c_is_key.pe hr (pa_cons (pv 0) pa_nil))) (fun _ => rfl)))) (pss_one (T.BadKey.raise (takes_of rfl rfl rfl rfl))) pss_nil)
    (pss_cons (ps_set (i := 1) sc_different_keys.nd rfl (Or.inl rfl) (pe_sortSet rfl rfl zsort rfl zset (pv 0)))
    (pss_cons (ps_if (pt_cmpR op_gt (B.len_q (pa_cons (pv 1) pa_nil)) (pe_cE DO.c_MOST_SEALS) (nomark _)) (pss_one (T.BadKey.raise (takes_of rfl rfl rfl rfl))) pss_nil)
    (pss_one (ps_ret (pv 1)))))), ?_⟩
  walk_at "wp"
  refine ⟨_, rfl, a, rfl, ⟨xs, hS⟩, hG _ mt, fun H2 hT => ?_⟩
  have g2 := hG.tab hT mt
  have k2 : Kp Ts H H2 := Kp.tab (hG _ mt) hT mt
  refine for_list (K := K) (a := a) (xs := xs) (fun i σ H' => (∃ o : Option V, σ = [o]) ∧ Kp Ts H H' ∧ Tabs Ts H' ∧ (xs.take i).all kyV = true) ⟨⟨_, rfl⟩, k2, g2, rfl⟩ (fun i σ H' _ ⟨_, k, _⟩ => k.seqs hG hS) (fun i x σ H' hi ⟨⟨o, hσ⟩, k3, g3, ha⟩ => ?_) (fun σ H' ⟨⟨o, hσ⟩, k3, g3, ha⟩ => ?_)
  · subst hσ
    have mx := List.mem_of_getElem? hi
    have tk : xs.take (i + 1) = xs.take i ++ [x] := by rw [List.take_add_one, hi]; rfl
    unfold tbAll
    simp only [tYes, if_true, gName, List.set_cons_zero]
    obtain ⟨⟨ty, hty⟩, sz⟩ := hx x mx
    refine ⟨x, rfl, x, rfl, g3 _ mc, ⟨ty, k3.tys hG hty⟩, sz, fun H4 k4 g4 => ⟨_, rfl, ?_⟩⟩
    have K4 := k3.trans (k4.in1 mc)
    have G4 := g3.kp1 k4 g4
    cases hb : kyV x with
    | true => exact if_yes rfl ⟨⟨_, rfl⟩, K4, G4, by rw [tk, List.all_append, ha]; simp [hb]⟩
    | false =>
      refine if_no (by decide) ?_
      walk_at "wp"
      exact qe (List.all_eq_false.mpr ⟨x, mx, by rw [hb]; decide⟩) H4 K4 G4
  · rw [List.take_length] at ha
    obtain ⟨ks, rfl, hk⟩ := kys_of ha
    walk_at "wp"
    refine ⟨_, rfl, a, ks, rfl, k3.seqs hG hS, by rw [List.length_map] at hl; exact hl, fun ys p hy mem hp => ⟨p, rfl, _, .inl (SqL.of upd_same), ?_⟩⟩
    obtain ⟨q1, q2⟩ := q ks rfl hk ys hy mem
    have kn := Kp.new (S := []) hp (.lst (ys.map V.str))
    have KF : Kp Ts H (upd H' p (.lst (ys.map V.str))) := k3.trans kn.in0
    have GF := g3.kp0 kn
    rw [List.length_map]
    by_cases c : 32 < ys.length
    · exact if_yes (by omega) (q1 c _ KF GF)
    · refine if_no (by omega) (q2 (by omega) p _ KF GF ?_ upd_same)
      cases e : H p with
      | none => rfl
      | some o =>
        exfalso
        by_cases m : p ∈ Ts
        · exact g3.ne0 hp m
        · have := k3.keep p o m e
          rw [hp] at this; cases this
/-- seal(office, text, keys) -/
def spSeal2 (C CK CT : Addr) (K : PySem.W.Frag) (Ts : List Addr) : Sp := fun vs H Q E => ∃ (o dm a : Addr) (made : List (Str × Str)) (tv : V) (xs : List V), vs = [.ref o, tv, .ref a] ∧ Ofc C o dm made H ∧ made.length ≤ 900 ∧ SqL K H a xs ∧ xs.length ≤ 1000 ∧ (∀ x ∈ xs, (∃ t, tyN H x = some t) ∧ szV x) ∧
  (∃ t, tyN H tv = some t) ∧ (∀ z, tv = .str z → z.length ≤ 10000000) ∧ Tabs Ts H ∧ (xs.all kyV = false → ∀ H', Kp Ts H H' → Tabs Ts H' → E (.ref CK) none H') ∧
  ∀ ks ys : List Str, xs = ks.map V.str → (∀ k ∈ ks, kyS k = true) → asc ys = true → (∀ z, z ∈ ys ↔ z ∈ ks) → (32 < ys.length → ∀ H', Kp Ts H H' → Tabs Ts H' → E (.ref CK) none H') ∧
    (ys.length ≤ 32 → (prV tv = false → ∀ H', Kp Ts H H' → Tabs Ts H' → E (.ref CT) none H') ∧ ∀ z, tv = .str z → prn z = true → (100000 < (txt (sealT z ys)).length → ∀ H', Kp Ts H H' → Tabs Ts H' → E (.ref CT) none H') ∧
      ((txt (sealT z ys)).length ≤ 100000 → ∀ H', Kp (dm :: Ts) H H' → Tabs Ts H' → Ofc C o dm (madeA made z ys) H' → Q (.str ⟨(txt (sealT z ys)).toArray⟩) H'))
theorem ok_seal2 {Pp : Addr} (F : Fun K "seal" "seal" s_seal f fd) (B : Blt mg) (DG : DgC mg) (T : SlC K mg C CK CT) (mp : Pp ∈ Ts) (c_different_keys : Cal P w K mg base (L2.CX P w) 8 "_different_keys" (spDiff CK K Ts)) (c_is_printable : Cal P w K mg base CX0 3 "is_printable" (spPrn Pp))
    (c_encode : Cal P w K mg base (L2.CX P w) 23 "encode" (spEnc CT Pp)) (m_make : CalM P w K mg base (L2.CX P w) 5 C "make" (spMake C CK CT Ts)) :
    FnOk P w K mg base (L2.CX P w) 24 f fd ["office", "text", "keys"] (spSeal2 C CK CT K Ts) := by
  refine F.okX sc_seal (fun vs H Q E h => ?_) (fun cdv A outer s H vs Q E hr h => ?_)
  · obtain ⟨o, dm, a, made, tv, xs, rfl, _⟩ := h; rfl
  obtain ⟨o, dm, a, made, tv, xs, rfl, hO, lm, hS, hl, hx, ⟨tt, htt⟩, hz, hG, qe, q⟩ := h
  refine ⟨_, (pss_cons (ps_set (i := 3) sc_seal.nd rfl (Or.inl rfl) (c_different_keys.pex hr (passX (takes_of rfl rfl rfl rfl) fun _ _ _ _ h => h) (pa_cons (pv 2) pa_nil)))
    (pss_cons (ps_if (pt_not (pt_val (c_is_printable.pe hr (pa_cons (pv 1) pa_nil)))) (pss_one (T.bad.raise (takes_of rfl rfl rfl rfl))) pss_nil)
    (pss_cons (ps_set (i := 4) sc_seal.nd rfl (Or.inr rfl) (pe_op op_mulS pe_str (pe_cE DG.c_DIGEST_LENGTH)))
    (pss_cons (ps_expr (c_encode.pex hr (passX (takes_of rfl rfl rfl rfl) fun _ _ _ _ h => h) (pa_cons (pe_tup (pa_cons (pv 1) (pa_cons (B.tuple_l (pa_cons (pe_lc (own := [("key", 5)]) (g := gName 5) (tt := tYes) rfl sc_seal.nd (pi_list (pv 3)) (blkOk_by (own := [("key", 5)]) (N := N_seal) (sc := defScope s_seal) (by decide +kernel)) (fun _ _ _ _ _ => pg_name (i := 5) sc_seal.nd rfl (Or.inl rfl)) (fun _ _ _ _ _ => pts_nil) (fun _ _ _ _ _ => (pe_tup (pa_cons (pv 5) (pa_cons (pv 4) pa_nil))))) pa_nil)) pa_nil))) pa_nil)))
    (pss_one (ps_ret (c_encode.pex hr (passX (takes_of rfl rfl rfl rfl) fun _ _ _ _ h => h) (pa_cons (pe_tup (pa_cons (pv 1) (pa_cons (B.tuple_l (pa_cons (pe_lc (own := [("key", 5)]) (g := gName 5) (tt := tYes) rfl sc_seal.nd (pi_list (pv 3)) (blkOk_by (own := [("key", 5)]) (N := N_seal) (sc := defScope s_seal) (by decide +kernel)) (fun _ _ _ _ _ => pg_name (i := 5) sc_seal.nd rfl (Or.inl rfl)) (fun _ _ _ _ _ => pts_nil) (fun _ _ _ _ _ => (pe_tup (pa_cons (pv 5) (pa_cons (m_make.peL hr (pv 0) (pa_cons (pv 5) (pa_cons (pv 1) pa_nil))) pa_nil))))) pa_nil)) pa_nil))) pa_nil)))))))), ?_⟩
  walk_at "wp"
  refine ⟨a, xs, rfl, hS, hl, hx, hG, qe, fun ks e hk ys ha mem => ⟨fun h32 => (q ks ys e hk ha mem).1 h32, fun h32 p H1 k1 g1 hp e1 => ?_⟩⟩
  obtain ⟨q1, q2⟩ := (q ks ys e hk ha mem).2 h32
  refine ⟨tv, rfl, g1 _ mp, ⟨tt, k1.tys hG htt⟩, fun H2 k2 g2 => ⟨_, rfl, ?_⟩⟩
  have K2 : Kp Ts H H2 := k1.trans (k2.in1 mp)
  have G2 := g1.kp1 k2 g2
  cases hp2 : prV tv with
  | false => exact if_yes rfl (q1 hp2 H2 K2 G2)
  | true =>
  refine if_no (by decide) ?_
  obtain ⟨z, rfl, hpz⟩ : ∃ z, tv = .str z ∧ prn z = true := by
    cases tv with
    | str z => exact ⟨z, rfl, hp2⟩
    | _ => cases hp2
  obtain ⟨q3, q4⟩ := q2 z rfl hpz
  have lim : sizeLine = 16777216 := sizeLine_eq
  have e2 : H2 p = some (.lst (ys.map V.str)) := (k2.in1 mp).get g1 e1
  have kky : ∀ k ∈ ys, kyS k = true := fun k m => hk k ((mem k).mp m)
  have zl : z.length ≤ 10000000 := hz z rfl
  have O2 := hO.tabs K2 hG
  refine ⟨48, rfl, by decide, by decide, ?_⟩
  have eb : (⟨(List.replicate (Int.toNat 18) 48).toArray⟩ : Str) = blk := rfl
  rw [eb]
  refine ⟨_, rfl, p, rfl, ⟨_, SqL.of e2⟩, fun D hD => ?_⟩
  have nDp : p ≠ D := ne_of_none e2 hD
  refine lc_list (K := K) (a := p) (xs := ys.map V.str) (fun i H' => Kp [] H2 H' ∧ ∃ vs, H' D = some (.lst vs) ∧ RepAll H' vs ((ys.take i).map (rowB blk))) ⟨Kp.new hD _, [], upd_same, .nil⟩ (fun i H' _ ⟨k, _⟩ => SqL.of (k.keep _ _ List.not_mem_nil e2)) (fun i x H' hi ⟨k3, vs, eD, rD⟩ => ?_) (fun H' ⟨k3, vs, eD, rD⟩ => ?_)
  · rw [List.getElem?_map] at hi
    obtain ⟨k, hi2, rfl⟩ := Option.map_eq_some_iff.mp hi
    have tk : ys.take (i + 1) = ys.take i ++ [k] := by rw [List.take_add_one, hi2]; rfl
    have li := (List.getElem?_eq_some_iff.mp hi2).1
    have lv := rD.len
    rw [List.length_map, List.length_take] at lv
    refine ⟨rfl, ?_⟩
    simp only [tYes, if_true]
    walk_at "wp"
    refine ⟨_, rfl, _, rfl, by omega, fun r hr2 => ?_⟩
    have kr := Kp.new (S := []) hr2 (.tup [V.str k, V.str blk])
    have nrD : D ≠ r := ne_of_none eD hr2
    refine ⟨vs, by rw [upd_ne nrD]; exact eD, by omega, ?_, ?_⟩
    · exact (k3.trans kr).upd hD (by rw [upd_ne nrD]; exact eD)
    · have kl : Kp [D] (upd H' r (.tup [V.str k, V.str blk])) (upd (upd H' r (.tup [V.str k, V.str blk])) D (.lst (vs ++ [V.ref r]))) := Kp.lst (by rw [upd_ne nrD]; exact eD) (List.mem_singleton.mpr rfl)
      rw [tk, List.map_append]
      exact ((rD.kp0 kr).any kl (rows_pure _ _)).app (.cons (.tup (kl.tup _ _ upd_same) (.cons (.str _) (.cons (.str _) .nil))) .nil)
  rw [List.length_map, List.take_length] at rD
  refine ⟨D, rfl, vs, .inl ⟨SqL.of eD, fun l hl2 => ⟨by omega, fun p2 h2 => ?_⟩⟩⟩
  have kl := Kp.new (S := []) hl2 (.tup vs)
  have kp2 := Kp.new (S := []) h2 (.tup [V.str z, V.ref l])
  have K4 : Kp [] H2 (upd (upd H' l (.tup vs)) p2 (.tup [V.str z, V.ref l])) := (k3.trans kl).trans kp2
  have R4 : Rep (upd (upd H' l (.tup vs)) p2 (.tup [V.str z, V.ref l])) (.ref p2) (sealB z blk ys) := .tup upd_same (.cons (.str _) (.cons (.tup (kp2.tup _ _ upd_same) ((rD.kp0 kl).kp0 kp2)) .nil))
  have hpl : pl 8 (sealB z blk ys) = true := pl_sealB hpz (by decide +kernel) fun k m => kyPrn (kky k m)
  have hsm : sml (sealB z blk ys) = true := sml_sealB zl (by decide +kernel) (by omega) fun k m => kyl12 (kky k m)
  have lenE : (txt (sealT z ys)).length = (txt (sealB z blk ys)).length := sealB_len z ys
  generalize upd (upd H' l (.tup vs)) p2 (.tup [V.str z, V.ref l]) = H4 at K4 R4 ⊢
  have G4 := G2.kp0 K4
  refine ⟨.ref p2, sealB z blk ys, rfl, R4, hsm, G4 _ mp, fun _ lo H5 k5 g5 => ?_, fun no H5 k5 g5 => q3 (by
    have : ¬ (txt (sealB z blk ys)).length ≤ 100000 := fun z => no ⟨hpl, z⟩
    omega) H5 ((K2.trans K4.in0).trans (k5.in1 mp)) (G4.kp1 k5 g5)⟩
  have K5 : Kp Ts H2 H5 := (K4.in0 : Kp Ts H2 H4).trans (k5.in1 mp)
  have G5 := G4.kp1 k5 g5
  have O5 := (O2.tabs K5 G2)
  have e5 := K5.get G2 e2
  have tl0 : (txt (sealT z ys)).length ≤ 100000 := by omega
  clear R4 eD rD kl kp2 k3 nDp hD
  refine ⟨_, rfl, p, rfl, ⟨_, SqL.of e5⟩, fun D hD => ?_⟩
  have nDd : D ≠ dm := (ne_of_none O5.dc hD).symm
  have nDo : D ≠ o := let ⟨dx, ho⟩ := O5.ob; (ne_of_none ho hD).symm
  have nDT : D ∉ Ts := G5.ne0 hD
  have npd : p ≠ dm := ne_of e5 O5.dc (by intro z; cases z)
  refine lc_list (K := K) (a := p) (xs := ys.map V.str) (fun i H' => Kp (dm :: Ts) H5 H' ∧ Tabs Ts H' ∧ Ofc C o dm (madeA made z (ys.take i)) H' ∧ ∃ vs, H' D = some (.lst vs) ∧ RepAll H' vs ((ys.take i).map (rowT z)))
    ⟨Kp.new hD _, G5.new hD _, O5.kp (Kp.new hD _ : Kp [] _ _) List.not_mem_nil List.not_mem_nil, [], upd_same, .nil⟩ (fun i H' _ ⟨k, g, _⟩ => SqL.of (k.keep _ _ (fun m => (List.mem_cons.mp m).elim npd (G5.ne e5)) e5)) (fun i x H' hi ⟨k6, g6, O6, vs, eD, rD⟩ => ?_) (fun H' ⟨k6, g6, O6, vs, eD, rD⟩ => ?_)
  · rw [List.getElem?_map] at hi
    obtain ⟨k, hi2, rfl⟩ := Option.map_eq_some_iff.mp hi
    have tk : ys.take (i + 1) = ys.take i ++ [k] := by rw [List.take_add_one, hi2]; rfl
    have li := (List.getElem?_eq_some_iff.mp hi2).1
    have mk := List.mem_of_getElem? hi2
    have lv := rD.len
    rw [List.length_map, List.length_take] at lv
    have lmi := madeA_len made z (ys.take i)
    rw [List.length_take] at lmi
    refine ⟨rfl, ?_⟩
    simp only [tYes, if_true]
    walk_at "wp"
    obtain ⟨dx, ho⟩ := O6.ob
    refine ⟨_, rfl, _, rfl, o, rfl, dx, _, ho, rfl, _, rfl, _, rfl, o, dm, madeA made z (ys.take i), .str k, .str z, rfl, O6, by omega, g6, ⟨_, rfl⟩, ⟨_, rfl⟩, ?_, fun y e => by rw [← V.str.inj e]; exact zl, fun e => ?_, fun _ e => ?_, fun k' t' ek et _ _ H7 k7 g7 O7 => ⟨by omega, fun r hr2 => ?_⟩⟩
    · have := kyl12 (kky k mk)
      show k.length ≤ sizeLine
      omega
    · have : kyS k = false := e
      rw [kky k mk] at this; cases this
    · have : prn z = false := e
      rw [hpz] at this; cases this
    cases ek
    cases et
    have kr := Kp.new (S := []) hr2 (.tup [V.str k, V.str (mkS k z)])
    have nDS : D ∉ dm :: Ts := fun m => (List.mem_cons.mp m).elim nDd nDT
    have e7 := k7.keep D _ nDS eD
    have nrD : D ≠ r := ne_of_none e7 hr2
    have e8 : upd H7 r (.tup [V.str k, V.str (mkS k z)]) D = some (.lst vs) := by rw [upd_ne nrD]; exact e7
    have kl : Kp [D] (upd H7 r (.tup [V.str k, V.str (mkS k z)])) (upd (upd H7 r (.tup [V.str k, V.str (mkS k z)])) D (.lst (vs ++ [V.ref r]))) := Kp.lst e8 (List.mem_singleton.mpr rfl)
    refine ⟨vs, e8, by omega, ?_, ?_, ?_, ?_⟩
    · exact ((k6.trans k7).trans kr.in0).upd hD e8
    · exact (g7.kp0 kr).kp kl fun P m z => nDT (by rw [← List.mem_singleton.mp z]; exact m)
    · rw [tk, madeA_snoc]
      exact (O7.kp kr List.not_mem_nil List.not_mem_nil).kp kl (by simpa using nDo.symm) (by simpa using nDd.symm)
    · rw [tk, List.map_append]
      exact (((rD.any k7 (rowsT_pure _ _)).kp0 kr).any kl (rowsT_pure _ _)).app (.cons (.tup (kl.tup _ _ upd_same) (.cons (.str _) (.cons (.str _) .nil))) .nil)
  rw [List.length_map, List.take_length] at rD O6
  refine ⟨D, rfl, vs, .inl ⟨SqL.of eD, fun l hl2 => ⟨by omega, fun p2 h2 => ?_⟩⟩⟩
  have kl := Kp.new (S := []) hl2 (.tup vs)
  have kp2 := Kp.new (S := []) h2 (.tup [V.str z, V.ref l])
  have R9 : Rep (upd (upd H' l (.tup vs)) p2 (.tup [V.str z, V.ref l])) (.ref p2) (sealT z ys) := .tup upd_same (.cons (.str _) (.cons (.tup (kp2.tup _ _ upd_same) ((rD.kp0 kl).kp0 kp2)) .nil))
  have G9 := (g6.kp0 kl).kp0 kp2
  have O9 := (O6.kp kl List.not_mem_nil List.not_mem_nil).kp kp2 List.not_mem_nil List.not_mem_nil
  have K9 : Kp (dm :: Ts) H (upd (upd H' l (.tup vs)) p2 (.tup [V.str z, V.ref l])) := (((K2.trans K5).mono fun b hb => List.mem_cons_of_mem _ hb).trans k6).trans (kl.trans kp2).in0
  have hplT : pl 8 (sealT z ys) = true := pl_sealT hpz fun k m => kyPrn (kky k m)
  have hsmT : sml (sealT z ys) = true := sml_of 8 _ hplT (by omega)
  exact ⟨.ref p2, sealT z ys, rfl, R9, hsmT, G9 _ mp, fun _ lo H5 k5 g5 => q4 tl0 H5 (K9.trans ((k5.in1 mp).mono fun b hb => List.mem_cons_of_mem _ hb)) (G9.kp1 k5 g5) (O9.tabs (k5.in1 mp) G9), fun no => absurd ⟨hplT, tl0⟩ no⟩
end
/-! the state of a law with an office, and keys that it draws -/
structure SO (Ts : List Addr) (C : Addr) (H0 : Hp) (st o d : Addr) (mo : List (Str × Str)) (H : Hp) : Prop where
  L : LT Ts st H0 H
  O : Ofc C o d mo H
  f1 : H0 d = none
section
variable {Ts S : List Addr} {C : Addr} {H0 H H' : Hp} {st o d : Addr} {mo mo' : List (Str × Str)}
theorem SO.kp0 (h : SO Ts C H0 st o d mo H) (k : Kp [] H H') : SO Ts C H0 st o d mo H' := ⟨h.L.kp0 k, h.O.kp k List.not_mem_nil List.not_mem_nil, h.f1⟩
theorem SO.take (h : SO Ts C H0 st o d mo H) (k : Kp [st] H H') (s : Strm H' st) : SO Ts C H0 st o d mo H' := by
  obtain ⟨x, y, e⟩ := h.L.s
  obtain ⟨dx, e1⟩ := h.O.ob
  have one : ∀ {b : Addr}, b ≠ st → b ∉ [st] := fun h m => h (List.mem_singleton.mp m)
  exact ⟨h.L.take k s, h.O.kp k (one (ne_of e1 e (by intro z; cases z))) (one (ne_of h.O.dc e (by intro z; cases z))), h.f1⟩
theorem SO.tabs (h : SO Ts C H0 st o d mo H) (k : Kp Ts H H') (g : Tabs Ts H') : SO Ts C H0 st o d mo H' :=
  ⟨h.L.tabs k g, h.O.tabs k h.L.g, h.f1⟩
theorem SO.nd (h : SO Ts C H0 st o d mo H) {b : Addr} {u : HO} (e : H b = some u) (no : ∀ m, u ≠ .dT m := by intro m z; cases z) : b ≠ d := fun z => by
  rw [z, h.O.dc] at e
  exact no _ (Option.some.inj e).symm
/-- what is tracked stands through a seal -/
theorem SO.keep (h : SO Ts C H0 st o d mo H) (k : Kp (d :: Ts) H H') {b : Addr} {u : HO} (e : H b = some u) (no : ∀ m, u ≠ .dT m := by intro m z; cases z) (no2 : ∀ ps, u ≠ .tbl ps := by intro ps z; cases z) : H' b = some u :=
  k.keep _ _ (fun m => (List.mem_cons.mp m).elim (h.nd e no) (h.L.g.ne e no2)) e
theorem SO.made (h : SO Ts C H0 st o d mo H) (k : Kp (d :: Ts) H H') (g : Tabs Ts H') (O : Ofc C o d mo' H') : SO Ts C H0 st o d mo' H' := by
  have s' : Strm H' st := let ⟨x, y, e⟩ := h.L.s; ⟨x, y, h.keep k e⟩
  exact ⟨h.L.go k (fun b hb => by
    rcases List.mem_cons.mp hb with z | z
    · exact .inr (by rw [z]; exact h.f1)
    · exact .inl z) g s', O, h.f1⟩
end
def kS (step x : Int) : Str := Str.ofString "k" ++ Str.ofString (toString (step * x))
theorem ky_num {n : Int} (h0 : 0 ≤ n) (h1 : n < 100000000000) : kyS (Str.ofString "k" ++ Str.ofString (toString n)) = true ∧ (Str.ofString (toString n)).length ≤ 11 ∧ n.natAbs.log2 < 1920 := by
  obtain ⟨m, rfl⟩ : ∃ m : Nat, n = (m : Nat) := ⟨n.toNat, by omega⟩
  have hm : m < 10 ^ 11 := by have : (10 : Nat) ^ 11 = 100000000000 := by decide
                              omega
  have dl : (dig m).length ≤ 11 := TL.numL_len (by decide) hm
  obtain ⟨a, r, e, _⟩ := dig_first m
  have e1 : TL.tl (Str.ofString (toString ((m : Nat) : Int))) = dig m := TL.tl_num m
  have e2 : TL.tl (Str.ofString "k" ++ Str.ofString (toString ((m : Nat) : Int))) = 107 :: dig m := by rw [TL.tl_append, e1]; rfl
  have l1 := TL.len_tl (Str.ofString (toString ((m : Nat) : Int)))
  have l2 := TL.len_tl (Str.ofString "k" ++ Str.ofString (toString ((m : Nat) : Int)))
  rw [e1] at l1
  rw [e2, List.length_cons] at l2
  have d1 : 1 ≤ (dig m).length := by rw [e]; simp
  refine ⟨?_, by omega, (intT h0 (by omega)).1⟩
  unfold kyS
  rw [decide_eq_true (by omega), decide_eq_true (by omega), Bool.true_and, Bool.true_and, Bool.and_eq_true]
  refine ⟨decide_eq_true ?_, ?_⟩
  · rw [show (Str.ofString "k" ++ Str.ofString (toString ((m : Nat) : Int))).cps.toList = 107 :: dig m from e2]; rfl
  · unfold inT
    have e3 : TL.tl (cutS (Str.ofString "k" ++ Str.ofString (toString ((m : Nat) : Int))) (some 1) none) = dig m := by
      have := cut_from (Str.ofString "k" ++ Str.ofString (toString ((m : Nat) : Int))) 1
      rw [e2] at this
      exact this
    rw [show (cutS (Str.ofString "k" ++ Str.ofString (toString ((m : Nat) : Int))) (some 1) none).cps.toList = dig m from e3]
    refine List.all_eq_true.mpr fun c hc => ?_
    have := dig_isD m c hc
    unfold isD at this
    rw [Bool.and_eq_true, decide_eq_true_eq, decide_eq_true_eq] at this
    exact (by decide +kernel : ∀ c < 58, 48 ≤ c → decide (c ∈ (Str.ofString "0123456789").cps.toList) = true) c (by omega) this.1
/-- 'k' + str(step * n) for n below 32 -/
structure StepOk (step : Int) : Prop where
  b : ∀ x : Int, 0 ≤ x → x < 32 → 0 ≤ step * x ∧ step * x < 100000000000
  m : ∀ x : Int, 0 ≤ x → x < 32 → CMul step x
def KeyOf (step : Int) (k : Str) : Prop := ∃ x : Int, 0 ≤ x ∧ x < 32 ∧ k = kS step x
theorem KeyOf.ky {step : Int} (h : StepOk step) {k : Str} (hk : KeyOf step k) : kyS k = true := by
  obtain ⟨x, x0, x1, rfl⟩ := hk
  obtain ⟨a, b⟩ := h.b x x0 x1
  exact (ky_num a b).1
/-! the text of a seal is small, and opened reads it back -/
section
variable {K : PySem.W.Frag} {C CK CT o dm l : Addr} {Ts : List Addr} {made : List (Str × Str)} {H : Hp} {Q : VK} {E : XK} {z : Str} {ls ys : List Str} {tv : V} {xs : List V}
/-- a call of seal that signs, or whose text is too long -/
theorem seal_at (O : Ofc C o dm made H) (lm : made.length ≤ 900) (e1 : H l = some (.lst (ls.map V.str))) (ll : ls.length ≤ 1000) (lk : ∀ k ∈ ls, kyS k = true) (pz : prn z = true) (lz : z.length ≤ 10000000) (G : Tabs Ts H)
    (h : ∀ ys, asc ys = true → (∀ x, x ∈ ys ↔ x ∈ ls) → ys.length ≤ 32 ∧ (100000 < (txt (sealT z ys)).length → ∀ H', Kp Ts H H' → Tabs Ts H' → E (.ref CT) none H') ∧ ((txt (sealT z ys)).length ≤ 100000 → ∀ H', Kp (dm :: Ts) H H' → Tabs Ts H' → Ofc C o dm (madeA made z ys) H' → Q (.str ⟨(txt (sealT z ys)).toArray⟩) H')) :
    spSeal2 C CK CT K Ts [.ref o, .str z, .ref l] H Q E := by
  have lim : sizeLine = 16777216 := sizeLine_eq
  refine ⟨o, dm, l, made, .str z, _, rfl, O, lm, SqL.of e1, by rw [List.length_map]; omega, fun x mx => ?_, ⟨_, rfl⟩, fun y e => (by rw [← V.str.inj e]; omega), G, fun hb => ?_, fun ks2 ys2 ek hk2 ha2 m2 => ?_⟩
  · obtain ⟨k, mk, rfl⟩ := List.mem_map.mp mx
    have := kyl12 (lk k mk)
    exact ⟨⟨_, rfl⟩, by show k.length ≤ sizeLine; omega⟩
  · obtain ⟨x, mx, hx⟩ := List.all_eq_false.mp hb
    obtain ⟨k, mk, rfl⟩ := List.mem_map.mp mx
    exact absurd (show kyV (.str k) = true from lk k mk) hx
  · have ek2 : ks2 = ls := (List.map_inj_right (fun _ _ h => V.str.inj h)).mp ek.symm
    subst ek2
    obtain ⟨l32, big, q⟩ := h ys2 ha2 m2
    refine ⟨fun h => absurd l32 (by omega), fun _ => ⟨fun h => ?_, fun z2 ez _ => ?_⟩⟩
    · rw [show prV (.str z) = true from pz] at h; cases h
    · cases V.str.inj ez
      exact ⟨big, q⟩
end
theorem seal_len (z : Str) (ys : List Str) : (txt (sealT z ys)).length = (dig z.length).length + z.length + 5 + (txts (ys.map (rowT z))).length := by
  show (91 :: ((txt (.str z) ++ ((91 :: (txts (ys.map (rowT z)) ++ [93])) ++ [])) ++ [93])).length = _
  have e : (txt (.str z)).length = (dig z.length).length + (z.length + 1) := by
    show (dig z.length ++ 58 :: TL.tl z).length = _
    rw [List.length_append, List.length_cons, ← TL.len_tl]
  simp only [List.length_cons, List.length_append, List.length_nil, e]
  omega
/-! documents: tuples, roles -/
abbrev s_is_tuple_of : Stmt := top 61
abbrev N_is_tuple_of : List Str := ["value", "many"]
theorem sc_is_tuple_of : FnScope N_is_tuple_of ["value", "many"] (defScope s_is_tuple_of) := ⟨rfl, rfl, rfl, by decide +kernel, rfl, by decide +kernel, by decide +kernel⟩
abbrev s_is_tuple_within : Stmt := top 62
abbrev N_is_tuple_within : List Str := ["value", "least", "most"]
theorem sc_is_tuple_within : FnScope N_is_tuple_within ["value", "least", "most"] (defScope s_is_tuple_within) := ⟨rfl, rfl, rfl, by decide +kernel, rfl, by decide +kernel, by decide +kernel⟩
abbrev s_is_role : Stmt := top 48
abbrev N_is_role : List Str := ["value", "threshold", "keys"]
theorem sc_is_role : FnScope N_is_role ["value"] (defScope s_is_role) := ⟨rfl, rfl, rfl, by decide +kernel, rfl, by decide +kernel, by decide +kernel⟩
def kyD : PyData → Bool
  | .str z => kyS z
  | _ => false
/-- a role -/
def isRole (d : PyData) : Bool := tupB 2 2 d && (tupB 1 16 (ixD d 1) && ((itD (ixD d 1)).all kyD && (asc ((itD (ixD d 1)).map strD) && numB 1 ((itD (ixD d 1)).length : Nat) (ixD d 0))))
def spTOf : Sp := fun vs H Q _ => ∃ (v : V) (d : PyData) (m : Nat), vs = [v, .int m] ∧ Rq H v d ∧ Q (.bl (tupB m m d)) H
def spTIn : Sp := fun vs H Q _ => ∃ (v : V) (d : PyData) (a b : Nat), vs = [v, .int a, .int b] ∧ Rq H v d ∧ Q (.bl (tupB a b d)) H
def spDoc (f : PyData → Bool) (Ts : List Addr) : Sp := fun vs H Q _ => ∃ (v : V) (d : PyData), vs = [v] ∧ Rq H v d ∧ okD 12 d = true ∧ Tabs Ts H ∧ ∀ H', Kp Ts H H' → Tabs Ts H' → Q (.bl (f d)) H'
structure DcC (mg : Str → Option Value) : Prop where
  c_MOST_KEYS : ∃ t, mg "MOST_KEYS" = some (.int 16 t)
theorem kyD_of {H : Hp} {v : V} {d : PyData} (r : Rq H v d) : kyV v = kyD d := by cases r <;> rfl
theorem ok_szV {n : Nat} {H : Hp} {v : V} {d : PyData} (r : Rq H v d) (h : okD n d = true) : szV v := by
  cases r with
  | str z =>
    have := (okD_str.mp h).1
    show z.length ≤ sizeLine
    rw [sizeLine_eq]; omega
  | _ => exact True.intro
theorem kyD_s {d : PyData} (h : kyD d = true) : isS d = true := by cases d <;> first | rfl | cases h
theorem strOk_kyD {d : PyData} (h : kyD d = true) : PyData.strOk (strD d) = true := by
  cases d with
  | str z => exact strOk_ky h
  | _ => cases h
theorem inV_rq {lo hi : Int} {H : Hp} {v : V} {d : PyData} (r : Rq H v d) : inV lo hi v = numB lo hi d := by cases r <;> rfl
section
variable {P : Program} {w : World} {K : PySem.W.Frag} {mg : Str → Option Value} {base : Heap} {f : Addr} {fd : FuncData}
theorem ok_tof (F : Fun K "_is_tuple_of" "_is_tuple_of" s_is_tuple_of f fd) (B : Blt mg) : FnOk P w K mg base CX0 1 f fd ["value", "many"] spTOf := by
  refine F.ok sc_is_tuple_of (fun vs H Q E h => ?_) (fun cdv A outer s H vs Q E hr h => ?_)
  · obtain ⟨v, d, m, rfl, _⟩ := h; rfl
  obtain ⟨v, d, m, rfl, hR, q⟩ := h
  refine ⟨_, (pss_one (ps_ret (pe_and (B.isT (pv 0) B.v_tuple) (pe_one (pe_cmpR op_eq (B.len_q (pa_cons (pv 0) pa_nil)) (pv 1) (nomark _)))))), ?_⟩
  walk_at "wp"
  refine ⟨_, hR.ty, ?_⟩
  cases hR with
  | tup e r =>
    rename_i a xs ds
    dsimp only [tyD]
    walk_at "wp"
    refine ⟨xs, .inr (SqT.of e), ?_⟩
    rw [show decide ((xs.length : Int) = (m : Int)) = tupB m m (.tuple ds) by
      rw [r.len]
      show _ = (decide (m ≤ ds.length) && decide (ds.length ≤ m))
      rw [Bool.eq_iff_iff, Bool.and_eq_true, decide_eq_true_eq, decide_eq_true_eq, decide_eq_true_eq]
      omega]
    exact q
  | _ => dsimp only [tyD]; walk_at "wp"; exact q
theorem ok_tin (F : Fun K "_is_tuple_within" "_is_tuple_within" s_is_tuple_within f fd) (B : Blt mg) : FnOk P w K mg base CX0 1 f fd ["value", "least", "most"] spTIn := by
  refine F.ok sc_is_tuple_within (fun vs H Q E h => ?_) (fun cdv A outer s H vs Q E hr h => ?_)
  · obtain ⟨v, d, a, b, rfl, _⟩ := h; rfl
  obtain ⟨v, d, a, b, rfl, hR, q⟩ := h
  refine ⟨_, (pss_one (ps_ret (pe_and (B.isT (pv 0) B.v_tuple) (pe_one (pe_chain op_le op_le (pv 1) (B.len_q (pa_cons (pv 0) pa_nil)) (pv 2)))))), ?_⟩
  walk_at "wp"
  refine ⟨_, hR.ty, ?_⟩
  cases hR with
  | tup e r =>
    rename_i p xs ds
    dsimp only [tyD]
    walk_at "wp"
    refine ⟨xs, .inr (SqT.of e), ?_⟩
    rw [r.len]
    have y : Q (.bl (decide (a ≤ ds.length) && decide (ds.length ≤ b))) H := q
    split
    · rename_i c
      rw [decide_eq_true (by omega), Bool.true_and] at y
      rw [show decide ((ds.length : Int) ≤ (b : Int)) = decide (ds.length ≤ b) from decide_eq_decide.mpr (by omega)]
      exact y
    · rename_i c
      rw [decide_eq_false (by omega), Bool.false_and] at y
      exact y
  | _ => dsimp only [tyD]; walk_at "wp"; exact q
theorem ok_role {oc kV doc pm ct : Value} {od an : Option Addr} {osl : Array (Option Value)} {c Pt Pc : Addr} {Ts : List Addr} (B : Blt mg) (TB : GxR.TabB base mg c Pt) (D : DcC mg) (mt : Pt ∈ Ts) (mc : Pc ∈ Ts)
    (lk : K.lookup f = some ⟨oc, od, .func (PySem.W.fnOf "is_role" "is_role" (defArgs s_is_role) (defBody s_is_role) (defScope s_is_role) .none kV doc pm an (.ref c) ct), osl⟩) (hcd : PySem.W.codeIn K (.ref c) "is_role" = true)
    (c_is_tuple_of : Cal P w K mg base CX0 1 "_is_tuple_of" spTOf) (c_is_tuple_within : Cal P w K mg base CX0 1 "_is_tuple_within" spTIn) (c_is_key : Cal P w K mg base CX0 4 "is_key" (spNm kyV Pc)) (c_ascends : Cal P w K mg base CX0 1 "ascends" (spAsc K)) (c_is_integer : Cal P w K mg base CX0 1 "is_integer" spIntg) :
    FnOk P w K mg base CX0 8 f (PySem.W.fnOf "is_role" "is_role" (defArgs s_is_role) (defBody s_is_role) (defScope s_is_role) .none kV doc pm an (.ref c) ct) ["value"] (spDoc isRole Ts) := by
  refine fn_of lk hcd sc_is_role (fun vs H Q E h => ?_) (fun A outer s H vs Q E hr h => ?_)
  · obtain ⟨v, d, rfl, _⟩ := h; rfl
  obtain ⟨v, d, rfl, hR, ho, hG, q⟩ := h
  refine ⟨_, PSs.nox (pss_cons (ps_if (pt_not (pt_val (c_is_tuple_of.pe hr (pa_cons (pv 0) (pa_cons pe_int pa_nil))))) (pss_one (ps_ret pe_bl)) pss_nil)
    (pss_cons (ps_asg (pv 0) (pg_tup rfl (pgs_cons (pg_name (i := 1) sc_is_role.nd rfl (Or.inl rfl)) (pgs_cons (pg_name (i := 2) sc_is_role.nd rfl (Or.inl rfl)) pgs_nil))))
    (pss_cons (ps_if (PW.pt (pw_or (pt_not (pt_val (c_is_tuple_within.pe hr (pa_cons (pv 2) (pa_cons pe_int (pa_cons (pe_cE D.c_MOST_KEYS) pa_nil)))))) (pw_or1 (pt_not (pt_val (pe_allG (N := ["key"]) (nt := 1) (fr := []) rfl hr B TB rfl (gnOf (by decide +kernel)) (by show freeOk _ (defScope s_is_role) = true; decide +kernel) (by show capOk _ _ _ N_is_role _ (defScope s_is_role) = true; decide +kernel)
      (pi_tup (pv 2)) (fun _ _ _ _ _ hr => (pg_name (i := 0) (by show List.Nodup (["key"] : List Str); decide +kernel) rfl (Or.inl rfl))) (fun _ _ _ _ _ hr => pts_nil) (fun _ _ _ _ _ hr => (c_is_key.pe hr (pa_cons (pv 0) pa_nil))) (fun _ => rfl))))))) (pss_one (ps_ret pe_bl)) pss_nil)
    (pss_one (ps_ret (pe_and (c_ascends.pe hr (pa_cons (B.list_q (pa_cons (pv 2) pa_nil)) pa_nil)) (pe_one (c_is_integer.pe hr (pa_cons (pv 1) (pa_cons pe_int (pa_cons (B.len_q (pa_cons (pv 2) pa_nil)) pa_nil))))))))))), ?_⟩
  walk_at "wp"
  have off : isRole d = false → ∀ H', Kp Ts H H' → Tabs Ts H' → Q (.bl false) H' := fun h H' k g => by have y := q H' k g; rw [h] at y; exact y
  refine ⟨v, d, 2, rfl, hR, _, rfl, ?_⟩
  cases h1 : tupB 2 2 d with
  | false =>
    rw [if_pos rfl]
    exact off (by unfold isRole; rw [h1]; rfl) H (Kp.refl _ _) hG
  | true =>
  obtain ⟨p, xs, ds, rfl, ep, rfl, r, l1, l2⟩ := tupB_of hR h1
  obtain ⟨x0, x1, d0, d1, rfl, rfl, R0, R1⟩ := rq2 r (by omega)
  rw [if_neg (by decide)]
  obtain ⟨o1, o2⟩ := okD_tup.mp ho
  have ok0 := o2 d0 List.mem_cons_self
  have ok1 := o2 d1 (List.mem_cons_of_mem _ List.mem_cons_self)
  refine ⟨p, _, rfl, SqT.of ep, rfl, x0, _, rfl, x1, _, rfl, rfl, ?_⟩
  walk_at "wp"
  have e1 : isRole (.tuple [d0, d1]) = (tupB 1 16 d1 && ((itD d1).all kyD && (asc ((itD d1).map strD) && numB 1 ((itD d1).length : Nat) d0))) := rfl
  rw [e1] at off q
  refine ⟨x1, d1, 1, 16, rfl, R1, _, rfl, ?_⟩
  cases h2 : tupB 1 16 d1 with
  | false =>
    rw [if_pos rfl]
    exact off (by rw [h2]; rfl) H (Kp.refl _ _) hG
  | true =>
  obtain ⟨b, ys, es, rfl, eb, rfl, rr, l3, l4⟩ := tupB_of R1 h2
  rw [h2, Bool.true_and, show itD (.tuple es) = es from rfl] at off q
  obtain ⟨o3, o4⟩ := okD_tup.mp ok1
  rw [if_neg (by decide)]
  refine ⟨_, rfl, b, rfl, ⟨ys, SqT.of eb⟩, hG _ mt, fun H2 hT => ?_⟩
  have g2 := hG.tab hT mt
  have k2 : Kp Ts H H2 := Kp.tab (hG _ mt) hT mt
  refine all_rq (K := K) (o := none) (cap := []) (f := kyD) (k2.get hG eb) (rr.tabs k2 hG) g2 (fun x d H' R hx md k3 g3 hq => ?_) (fun H3 k3 g3 h3 => ?_) (fun σ H3 k3 g3 h3 => ?_)
  · exact ⟨x, rfl, x, rfl, g3 _ mc, hx.tyx, ok_szV hx (o4 d md), fun H4 k4 g4 => by rw [kyD_of hx]; exact hq H4 (k4.in1 mc) (g3.kp1 k4 g4)⟩
  · refine ⟨_, rfl, ?_⟩
    rw [if_pos rfl]
    exact off (by rw [h3]; rfl) H3 (k2.trans k3) g3
  refine ⟨_, rfl, ?_⟩
  rw [if_neg (by decide)]
  have K3 := k2.trans k3
  rw [h3, Bool.true_and] at off q
  have al := List.all_eq_true.mp h3
  have ey : ys = (es.map strD).map V.str := rqa_strs rr fun d m => kyD_s (al d m)
  have e3 := K3.get hG eb
  refine ⟨b, rfl, ys, .inr (SqT.of e3), fun l hl => ⟨l, es.map strD, rfl, by rw [← ey]; exact SqL.of upd_same, by rw [List.length_map]; omega, fun z hz => ?_, fun H4 k4 => ⟨_, rfl, ?_⟩⟩⟩
  · obtain ⟨d, m, rfl⟩ := List.mem_map.mp hz
    exact strOk_kyD (al d m)
  have k5 : Kp [] H3 H4 := (Kp.new hl _).trans k4
  have g4 := g3.kp0 k5
  cases h4 : asc (es.map strD) with
  | false =>
    rw [if_neg (by decide)]
    exact off (by rw [h4]; rfl) H4 (K3.trans k5.in0) g4
  | true =>
  rw [if_pos rfl]
  rw [h4, Bool.true_and] at off q
  refine ⟨b, rfl, ys, .inr (SqT.of (k5.tup _ _ e3)), x0, _, _, rfl, ((R0.tabs K3 hG).kp0 k5).tyx, ?_⟩
  rw [inV_rq R0, rr.len]
  exact q H4 (K3.trans k5.in0) g4
end
/-! what a law asks of a value: numbers, tuples, texts that rise, roles -/
abbrev s_law_all : Stmt := top 93
abbrev N_law_all : List Str := ["text", "chars", "char"]
theorem sc_law_all : FnScope N_law_all ["text", "chars"] (defScope s_law_all) := ⟨rfl, rfl, rfl, by decide +kernel, rfl, by decide +kernel, by decide +kernel⟩
abbrev s_law_number : Stmt := top 94
abbrev N_law_number : List Str := ["value", "least"]
theorem sc_law_number : FnScope N_law_number ["value", "least"] (defScope s_law_number) := ⟨rfl, rfl, rfl, by decide +kernel, rfl, by decide +kernel, by decide +kernel⟩
abbrev s_law_tuple : Stmt := top 95
abbrev N_law_tuple : List Str := ["value", "least", "most"]
theorem sc_law_tuple : FnScope N_law_tuple ["value", "least", "most"] (defScope s_law_tuple) := ⟨rfl, rfl, rfl, by decide +kernel, rfl, by decide +kernel, by decide +kernel⟩
abbrev s_law_rising : Stmt := top 96
abbrev N_law_rising : List Str := ["texts", "k"]
theorem sc_law_rising : FnScope N_law_rising ["texts"] (defScope s_law_rising) := ⟨rfl, rfl, rfl, by decide +kernel, rfl, by decide +kernel, by decide +kernel⟩
abbrev s_law_is_key : Stmt := top 97
abbrev N_law_is_key : List Str := ["value"]
theorem sc_law_is_key : FnScope N_law_is_key ["value"] (defScope s_law_is_key) := ⟨rfl, rfl, rfl, by decide +kernel, rfl, by decide +kernel, by decide +kernel⟩
abbrev s_law_is_role : Stmt := top 98
abbrev N_law_is_role : List Str := ["value", "key"]
theorem sc_law_is_role : FnScope N_law_is_role ["value"] (defScope s_law_is_role) := ⟨rfl, rfl, rfl, by decide +kernel, rfl, by decide +kernel, by decide +kernel⟩
def spLAll0 : Sp := fun vs H Q _ => ∃ z m : Str, vs = [.str z, .str m] ∧ Q (.bl (inT m z)) H
def spLAll : Sp := fun vs H Q _ => ∃ z m : Str, vs = [.str z, .str m] ∧ z.length ≤ 10000000 ∧ Q (.bl (inT m z)) H
def spLNum : Sp := fun vs H Q _ => ∃ (v : V) (d : PyData) (lo : Int), vs = [v, .int lo] ∧ Rq H v d ∧ Q (.bl (numB lo 1000000000000 d)) H
def spRise (K : PySem.W.Frag) : Sp := fun vs H Q _ => ∃ (p : Addr) (xs : List Str), vs = [.ref p] ∧ (SqL K H p (xs.map V.str) ∨ SqT K H p (xs.map V.str)) ∧ xs.length ≤ 1000 ∧ Q (.bl (asc xs)) H
def spAsk (f : PyData → Bool) : Sp := fun vs H Q _ => ∃ (v : V) (d : PyData), vs = [v] ∧ Rq H v d ∧ okD 12 d = true ∧ Q (.bl (f d)) H
section
variable {P : Program} {w : World} {K : PySem.W.Frag} {mg : Str → Option Value} {base : Heap} {f : Addr} {fd : FuncData}
theorem asc_takeN : ∀ (n : Nat) {l : List Str}, asc l = true → asc (l.take n) = true
  | 0, _, _ => rfl
  | _ + 1, [], _ => rfl
  | n + 1, x :: r, h => by
    obtain ⟨h1, h2⟩ := asc_cons.mp h
    exact asc_cons.mpr ⟨fun y m => h1 y (List.mem_of_mem_take m), asc_takeN n h2⟩
theorem ok_lall0 (F : Fun K "_law_all" "_law_all" s_law_all f fd) (B : Blt mg) : FnOk P w K mg base CX0 1 f fd ["text", "chars"] spLAll0 := by
  refine F.ok sc_law_all (fun vs H Q E h => ?_) (fun cdv A outer s H vs Q E hr h => ?_)
  · obtain ⟨z, m, rfl, _⟩ := h; rfl
  obtain ⟨y, m, rfl, q⟩ := h
  refine ⟨_, (pss_cons (ps_for PassesOwn.never rfl (pi_str (pv 0)) (pg_name (i := 2) sc_law_all.nd rfl (Or.inl rfl)) (pss_one (ps_if (pt_cmpR op_notIn_sign (pv 2) (pv 1) (by rfl)) (pss_one (ps_ret pe_bl)) pss_nil)))
    (pss_one (ps_ret pe_bl))), ?_⟩
  walk_at "wp"
  refine ⟨_, rfl, y, rfl, ?_⟩
  refine for_it walk_str (fun i σ H' => H' = H ∧ ((y.cps.toList.take i).all fun c => decide (c ∈ m.cps.toList)) = true ∧ ∃ o : Option V, σ = [some (.str y), some (.str m), o]) ⟨rfl, rfl, _, rfl⟩ (fun _ _ _ _ _ => True.intro) (fun i x σ H1 H2 hi ⟨hH, ha, o, hσ⟩ ⟨h2, c, hc, hx⟩ => ?_) (fun σ H1 ⟨hH, ha, o, hσ⟩ => ?_)
  · subst hσ
    subst hx
    subst h2
    subst hH
    walk_at "wp"
    refine ⟨c, rfl, ?_⟩
    have hci : y.cps.toList[i]? = some c := by rw [Array.getElem?_toList]; exact hc
    by_cases h : c ∈ m.cps.toList
    · rw [if_neg (fun q => q h)]
      refine ⟨?_, _, rfl⟩
      rw [List.take_add_one, hci, List.all_append, ha]
      rw [Bool.true_and]
      show (decide (c ∈ m.cps.toList) && true) = true
      rw [decide_eq_true h]; rfl
    · rw [if_pos h]
      have e : inT m y = false := by
        unfold inT
        rw [List.all_eq_false]
        exact ⟨c, List.mem_of_getElem? hci, by simpa using h⟩
      rw [e] at q
      exact q
  · subst hσ
    subst hH
    walk_at "wp"
    have e : inT m y = true := by
      unfold inT
      rw [List.take_of_length_le (by rw [Array.length_toList]; exact Nat.le_refl _)] at ha
      exact ha
    rw [e] at q
    exact q
theorem ok_lall (F : Fun K "_law_all" "_law_all" s_law_all f fd) (B : Blt mg) : FnOk P w K mg base CX0 1 f fd ["text", "chars"] spLAll := (ok_lall0 F B).imp fun _ _ _ _ ⟨z, m, e, _, q⟩ => ⟨z, m, e, q⟩
theorem ok_lnum (F : Fun K "_law_number" "_law_number" s_law_number f fd) (B : Blt mg) : FnOk P w K mg base CX0 1 f fd ["value", "least"] spLNum := by
  refine F.ok sc_law_number (fun vs H Q E h => ?_) (fun cdv A outer s H vs Q E hr h => ?_)
  · obtain ⟨v, d, lo, rfl, _⟩ := h; rfl
  obtain ⟨v, d, lo, rfl, hR, q⟩ := h
  refine ⟨_, (pss_one (ps_ret (pe_and (B.isT (pv 0) B.v_int) (pe_and (pe_not (B.isT (pv 0) B.v_bool)) (pe_and (pe_cmpR op_le (pv 1) (pv 0) (nomark _)) (pe_one (pe_cmpR op_le (pv 0) (pe_op op_pow pe_int pe_int) (nomark _)))))))), ?_⟩
  walk_at "wp"
  refine ⟨_, hR.ty, ?_⟩
  cases hR with
  | int i =>
    dsimp only [tyD]
    walk_at "wp"
    have y : Q (.bl (decide (lo ≤ i) && decide (i ≤ 1000000000000))) H := q
    split
    · rename_i c
      rw [decide_eq_true c, Bool.true_and] at y
      exact ⟨by refine ⟨?_, ?_, ?_⟩ <;> decide, y⟩
    · rename_i c
      rw [decide_eq_false c, Bool.false_and] at y
      exact y
  | bl b => dsimp only [tyD]; walk_at "wp"; exact q
  | _ => dsimp only [tyD]; walk_at "wp"; exact q
theorem ok_ltup (F : Fun K "_law_tuple" "_law_tuple" s_law_tuple f fd) (B : Blt mg) : FnOk P w K mg base CX0 1 f fd ["value", "least", "most"] spTIn := by
  refine F.ok sc_law_tuple (fun vs H Q E h => ?_) (fun cdv A outer s H vs Q E hr h => ?_)
  · obtain ⟨v, d, a, b, rfl, _⟩ := h; rfl
  obtain ⟨v, d, a, b, rfl, hR, q⟩ := h
  refine ⟨_, (pss_one (ps_ret (pe_and (B.isT (pv 0) B.v_tuple) (pe_and (pe_cmpR op_le (pv 1) (B.len_q (pa_cons (pv 0) pa_nil)) (nomark _)) (pe_one (pe_cmpR op_le (B.len_q (pa_cons (pv 0) pa_nil)) (pv 2) (nomark _))))))), ?_⟩
  walk_at "wp"
  refine ⟨_, hR.ty, ?_⟩
  cases hR with
  | tup e r =>
    rename_i p xs ds
    dsimp only [tyD]
    walk_at "wp"
    refine ⟨xs, .inr (SqT.of e), ?_⟩
    rw [r.len]
    have y : Q (.bl (decide (a ≤ ds.length) && decide (ds.length ≤ b))) H := q
    split
    · rename_i c
      rw [decide_eq_true (by omega), Bool.true_and] at y
      refine ⟨xs, .inr (SqT.of e), ?_⟩
      rw [r.len, show decide ((ds.length : Int) ≤ (b : Int)) = decide (ds.length ≤ b) from decide_eq_decide.mpr (by omega)]
      exact y
    · rename_i c
      rw [decide_eq_false (by omega), Bool.false_and] at y
      exact y
  | _ => dsimp only [tyD]; walk_at "wp"; exact q
theorem ok_rise (F : Fun K "_law_rising" "_law_rising" s_law_rising f fd) (B : Blt mg) : FnOk P w K mg base CX0 1 f fd ["texts"] (spRise K) := by
  refine F.ok sc_law_rising (fun vs H Q E h => ?_) (fun cdv A outer s H vs Q E hr h => ?_)
  · obtain ⟨p, xs, rfl, _⟩ := h; rfl
  obtain ⟨p, xs, rfl, hS, hl, q⟩ := h
  refine ⟨_, (pss_cons (ps_for PassesOwn.never rfl (B.range1 (pa_cons (pe_op op_sub (B.len_q (pa_cons (pv 0) pa_nil)) pe_int) pa_nil)) (pg_name (i := 1) sc_law_rising.nd rfl (Or.inl rfl)) (pss_one (ps_if (pt_not (pt_cmpR op_lt_str (pe_ix ix_seq (pv 0) (pv 1) (fun _ _ => rfl)) (pe_ix ix_seq (pv 0) (pe_op op_add (pv 1) pe_int) (fun _ _ => rfl)) (nomark _))) (pss_one (ps_ret pe_bl)) pss_nil)))
    (pss_one (ps_ret pe_bl))), ?_⟩
  walk_at "wp"
  have ll : (xs.map V.str).length = xs.length := List.length_map _
  have lim : sizeLine = 16777216 := sizeLine_eq
  refine ⟨_, rfl, p, rfl, _, hS, _, _, rfl, rfl, _, rfl, by omega, by omega, ?_⟩
  refine for_range (lo := 0) (n := (((xs.map V.str).length : Nat) - 1 : Int).toNat) (fun i σ H' => H' = H ∧ asc (xs.take (i + 1)) = true ∧ ∃ o : Option V, σ = [some (.ref p), o]) ⟨rfl, ?_, _, rfl⟩ (fun i σ H' hi ⟨hH, ha, o, hσ⟩ => ?_) (fun σ H' ⟨hH, ha, o, hσ⟩ => ?_)
  · cases xs <;> rfl
  · subst hσ
    subst hH
    walk_at "wp"
    have hi1 : i + 1 < xs.length := by omega
    have x0 : (xs.map V.str)[i]? = some (.str (xs[i]'(by omega))) := by rw [List.getElem?_map, List.getElem?_eq_getElem (by omega)]; rfl
    have x1 : (xs.map V.str)[i + 1]? = some (.str (xs[i + 1])) := by rw [List.getElem?_map, List.getElem?_eq_getElem hi1]; rfl
    have ix : ∀ {j : Nat} {z : Str} {R : VK}, (xs.map V.str)[j]? = some (.str z) → R (.str z) H' → rIx K (.ref p) (.int (j : Nat)) H' R := fun {j z R} e r => by
      rcases hS with hS | hS
      · exact .inl ⟨p, _, _, _, rfl, rfl, hS, atI_nat e, r⟩
      · exact .inr (.inl ⟨p, _, _, _, rfl, rfl, hS, atI_nat e, r⟩)
    rw [show (0 : Int) + (i : Nat) = ((i : Nat) : Int) by omega, show ((i : Nat) : Int) + 1 = ((i + 1 : Nat) : Int) by omega]
    refine ix x0 (ix x1 ⟨_, rfl, _, rfl, ?_⟩)
    have tk : xs.take (i + 1 + 1) = xs.take (i + 1) ++ [xs[i + 1]] := by rw [List.take_add_one, List.getElem?_eq_getElem hi1]; rfl
    have la : lstS (xs.take (i + 1)) = xs[i] := by
      unfold lstS
      rw [show xs.take (i + 1) = xs.take i ++ [xs[i]] by rw [List.take_add_one, List.getElem?_eq_getElem (show i < xs.length by omega)]; rfl, List.getLast?_append]
      rfl
    have ae : asc (xs.take (i + 1 + 1)) = lt xs[i] xs[i + 1] := by
      rw [tk, asc_snocN _ (fun e => by have := congrArg List.length e; rw [List.length_take, List.length_nil] at this; omega), ha, la, Bool.true_and]
    split
    · rename_i c
      have e : asc xs = false := by
        cases h : asc xs with
        | false => rfl
        | true =>
          have h2 := asc_takeN (i + 1 + 1) h
          rw [ae] at h2
          exact absurd (of_decide_eq_true (by rw [PyProof.Rows.lt_meets]; exact h2)) c
      rw [e] at q; exact q
    · rename_i c
      refine ⟨rfl, ?_, _, rfl⟩
      rw [ae]
      have := decide_eq_true (Decidable.not_not.mp c)
      rw [PyProof.Rows.lt_meets] at this
      exact this
  · subst hσ
    subst hH
    walk_at "wp"
    rw [List.take_of_length_le (by omega)] at ha
    rw [ha] at q; exact q
theorem ok_liskey (F : Fun K "_law_is_key" "_law_is_key" s_law_is_key f fd) (B : Blt mg) (c_law_all : Cal P w K mg base CX0 1 "_law_all" spLAll) : FnOk P w K mg base CX0 2 f fd ["value"] (spAsk kyD) := by
  refine F.ok sc_law_is_key (fun vs H Q E h => ?_) (fun cdv A outer s H vs Q E hr h => ?_)
  · obtain ⟨v, d, rfl, _⟩ := h; rfl
  obtain ⟨v, d, rfl, hR, ho, q⟩ := h
  refine ⟨_, (pss_cons (ps_if (PW.pt (pw_or (pt_not (pt_val (B.isT (pv 0) B.v_str))) (pw_or (pt_cmpR op_lt (B.len_s (pa_cons (pv 0) pa_nil)) pe_int (nomark _)) (pw_or1 (pt_cmpR op_gt (B.len_s (pa_cons (pv 0) pa_nil)) pe_int (nomark _)))))) (pss_one (ps_ret pe_bl)) pss_nil)
    (pss_one (ps_ret (pe_and (pe_cmpR op_eq (pe_ix ix_str (pv 0) pe_int (fun _ _ => rfl)) pe_str (nomark _)) (pe_one (c_law_all.pe hr (pa_cons (pe_slice sl_str (pv 0) (po_some pe_int) po_none) (pa_cons pe_str pa_nil)))))))), ?_⟩
  walk_at "wp"
  refine ⟨_, hR.ty, ?_⟩
  cases hR with
  | str z =>
    have lz := (okD_str.mp ho).1
    have lim : sizeLine = 16777216 := sizeLine_eq
    dsimp only [tyD]
    walk_at "wp"
    have q : Q (.bl (kyS z)) H := q
    have off : kyS z = false → Q (.bl false) H := fun h => by rw [h] at q; exact q
    refine ⟨by omega, ?_⟩
    split
    · refine off ?_
      unfold kyS
      rw [decide_eq_false (show ¬ 2 ≤ z.length by omega), Bool.false_and, Bool.false_and, Bool.false_and]
    refine ⟨by omega, ?_⟩
    split
    · refine off ?_
      unfold kyS
      rw [decide_eq_false (show ¬ z.length ≤ 12 by omega), Bool.and_false, Bool.false_and, Bool.false_and]
    rename_i h1 h2
    have hl : z.cps.toList.length = z.length := cps_lenP z
    obtain ⟨c, r, ez⟩ : ∃ c r, z.cps.toList = c :: r := by
      cases e : z.cps.toList with
      | nil => rw [e] at hl; simp at hl; omega
      | cons c r => exact ⟨c, r, rfl⟩
    have eh : z.cps.toList.head? = some c := by rw [ez]; rfl
    have ek : (V.str ⟨#[c]⟩ = V.str (Str.ofString "k")) ↔ c = 107 := by
      constructor
      · intro h
        have h := congrArg (fun s : Str => s.cps.toList) (V.str.inj h)
        have h : [c] = [107] := h
        exact (List.cons.inj h).1
      · rintro rfl; rfl
    refine ⟨z, 0, c, rfl, rfl, by omega, by rw [ez]; exact at0, rfl, ?_⟩
    split
    · rename_i h3
      have c1 := cutS_length z (some 1) none
      refine ⟨by omega, _, _, rfl, by omega, ?_⟩
      rw [show kyS z = inT (Str.ofString "0123456789") (cutS z (some 1) none) by
        unfold kyS
        rw [decide_eq_true (show 2 ≤ z.length by omega), decide_eq_true (show z.length ≤ 12 by omega), eh, decide_eq_true (by rw [ek.mp h3]), Bool.true_and, Bool.true_and, Bool.true_and]] at q
      exact q
    · rename_i h3
      refine off ?_
      unfold kyS
      rw [eh, decide_eq_false (fun h => h3 (ek.mpr (Option.some.inj h))), Bool.and_false, Bool.false_and]
  | _ => dsimp only [tyD]; walk_at "wp"; exact q
theorem ok_lisrole (F : Fun K "_law_is_role" "_law_is_role" s_law_is_role f fd) (B : Blt mg) (c_law_tuple : Cal P w K mg base CX0 1 "_law_tuple" spTIn) (c_law_number : Cal P w K mg base CX0 1 "_law_number" spLNum) (c_law_is_key : Cal P w K mg base CX0 2 "_law_is_key" (spAsk kyD)) (c_law_rising : Cal P w K mg base CX0 1 "_law_rising" (spRise K)) :
    FnOk P w K mg base CX0 3 f fd ["value"] (spAsk isRole) := by
  refine F.ok sc_law_is_role (fun vs H Q E h => ?_) (fun cdv A outer s H vs Q E hr h => ?_)
  · obtain ⟨v, d, rfl, _⟩ := h; rfl
  obtain ⟨v, d, rfl, hR, ho, q⟩ := h
  refine ⟨_, (pss_cons (ps_if (PW.pt (pw_or (pt_not (pt_val (c_law_tuple.pe hr (pa_cons (pv 0) (pa_cons pe_int (pa_cons pe_int pa_nil)))))) (pw_or (pt_not (pt_val (c_law_tuple.pe hr (pa_cons (pe_ix ix_tM (pv 0) pe_int (fun _ _ => rfl)) (pa_cons pe_int (pa_cons pe_int pa_nil)))))) (pw_or1 (pt_not (pt_val (c_law_number.pe hr (pa_cons (pe_ix ix_tM (pv 0) pe_int (fun _ _ => rfl)) (pa_cons pe_int pa_nil))))))))) (pss_one (ps_ret pe_bl)) pss_nil)
    (pss_cons (ps_for PassesOwn.never rfl (pi_tup (pe_ix ix_tM (pv 0) pe_int (fun _ _ => rfl))) (pg_name (i := 1) sc_law_is_role.nd rfl (Or.inl rfl)) (pss_one (ps_if (pt_not (pt_val (c_law_is_key.pe hr (pa_cons (pv 1) pa_nil)))) (pss_one (ps_ret pe_bl)) pss_nil)))
    (pss_one (ps_ret (pe_and (c_law_rising.pe hr (pa_cons (pe_ix ix_tM (pv 0) pe_int (fun _ _ => rfl)) pa_nil)) (pe_one (pe_cmpR op_le (pe_ix ix_tM (pv 0) pe_int (fun _ _ => rfl)) (B.len_q (pa_cons (pe_ix ix_tM (pv 0) pe_int (fun _ _ => rfl)) pa_nil)) (nomark _)))))))), ?_⟩
  walk_at "wp"
  have off : isRole d = false → Q (.bl false) H := fun h => by rw [h] at q; exact q
  refine ⟨v, d, 2, 2, rfl, hR, _, rfl, ?_⟩
  cases h1 : tupB 2 2 d with
  | false =>
    rw [if_pos rfl]
    exact off (by unfold isRole; rw [h1]; rfl)
  | true =>
  obtain ⟨p, xs, ds, rfl, ep, rfl, r, l1, l2⟩ := tupB_of hR h1
  obtain ⟨x0, x1, d0, d1, rfl, rfl, R0, R1⟩ := rq2 r (by omega)
  rw [if_neg (by decide)]
  obtain ⟨o1, o2⟩ := okD_tup.mp ho
  have ok0 := o2 d0 List.mem_cons_self
  have ok1 := o2 d1 (List.mem_cons_of_mem _ List.mem_cons_self)
  have e1 : isRole (.tuple [d0, d1]) = (tupB 1 16 d1 && ((itD d1).all kyD && (asc ((itD d1).map strD) && numB 1 ((itD d1).length : Nat) d0))) := rfl
  rw [e1] at off q
  refine ⟨p, rfl, _, ep, x1, rfl, x1, d1, 1, 16, rfl, R1, _, rfl, ?_⟩
  cases h2 : tupB 1 16 d1 with
  | false =>
    rw [if_pos rfl]
    exact off (by rw [h2]; rfl)
  | true =>
  obtain ⟨b, ys, es, rfl, eb, rfl, rr, l3, l4⟩ := tupB_of R1 h2
  rw [h2, Bool.true_and, show itD (.tuple es) = es from rfl] at off q
  obtain ⟨o3, o4⟩ := okD_tup.mp ok1
  rw [if_neg (by decide)]
  refine ⟨p, rfl, _, ep, x0, rfl, x0, d0, 1, rfl, R0, _, rfl, ?_⟩
  cases h0 : numB 1 1000000000000 d0 with
  | false =>
    rw [if_pos rfl]
    refine off ?_
    rw [show numB 1 ((es.length : Nat) : Int) d0 = false by
      cases d0 with
      | int i =>
        have h0 : (decide (1 ≤ i) && decide (i ≤ 1000000000000)) = false := h0
        show (decide (1 ≤ i) && decide (i ≤ ((es.length : Nat) : Int))) = false
        by_cases c : 1 ≤ i
        · rw [decide_eq_true c, Bool.true_and, decide_eq_false_iff_not] at h0
          rw [decide_eq_false (p := i ≤ _) (by omega), Bool.and_false]
        · rw [decide_eq_false c, Bool.false_and]
      | _ => rfl, Bool.and_false, Bool.and_false]
  | true =>
  obtain ⟨i0, rfl, rfl, i1, i2⟩ := numB_of R0 h0
  rw [if_neg (by decide)]
  refine ⟨_, rfl, p, rfl, _, ep, 1, rfl, _, rfl, b, rfl, ⟨ys, SqT.of eb⟩, ?_⟩
  refine for_tup (K := K) (a := b) (xs := ys) (fun i σ H' => H' = H ∧ (es.take i).all kyD = true ∧ ∃ o : Option V, σ = [some (.ref p), o]) ⟨rfl, rfl, _, rfl⟩ (fun i σ H' _ ⟨e, _⟩ => by rw [e]; exact SqT.of eb) (fun i x σ H' hx ⟨hH, ha, o, hσ⟩ => ?_) (fun σ H' ⟨hH, ha, o, hσ⟩ => ?_)
  · subst hσ
    subst hH
    obtain ⟨e, he, Re⟩ := rr.get hx
    have me := List.mem_of_getElem? he
    walk_at "wp"
    refine ⟨x, e, rfl, Re, ok_mono _ 12 e (by decide) (o4 e me), _, rfl, ?_⟩
    cases hk : kyD e with
    | false =>
      rw [if_pos rfl]
      exact off (by rw [show es.all kyD = false from List.all_eq_false.mpr ⟨e, me, by rw [hk]; decide⟩]; rfl)
    | true =>
      rw [if_neg (by decide)]
      exact ⟨rfl, by rw [List.take_add_one, he, List.all_append, ha]; simp [hk], _, rfl⟩
  · subst hσ
    subst hH
    walk_at "wp"
    rw [rr.len, List.take_length] at ha
    rw [ha, Bool.true_and] at off q
    have al := List.all_eq_true.mp ha
    have ey : ys = (es.map strD).map V.str := rqa_strs rr fun d m => kyD_s (al d m)
    refine ⟨_, ep, _, rfl, b, es.map strD, rfl, .inr (by rw [← ey]; exact SqT.of eb), by rw [List.length_map]; omega, _, rfl, ?_⟩
    cases h4 : asc (es.map strD) with
    | false =>
      rw [if_neg (by decide)]
      exact off (by rw [h4]; rfl)
    | true =>
    rw [if_pos rfl]
    rw [h4, Bool.true_and] at q
    refine ⟨_, ep, _, rfl, _, ep, _, rfl, b, rfl, ys, .inr (SqT.of eb), _, rfl, ?_⟩
    rw [rr.len]
    rw [show numB 1 ((es.length : Nat) : Int) (.int i0) = decide (i0 ≤ ((es.length : Nat) : Int)) by
      show (decide (1 ≤ i0) && _) = _
      rw [decide_eq_true i1, Bool.true_and]] at q
    exact q
end
/-! documents as trees, and their texts -/
mutual
def trD : PyData → Tr
  | .int i => .int i
  | .str z => .str z
  | .tuple ds => .tup (trDs ds)
  | _ => .oth .non
def trDs : List PyData → List Tr
  | [] => []
  | d :: ds => trD d :: trDs ds
end
mutual
def dT : Tr → PyData
  | .int i => .int i
  | .str z => .str z
  | .tup ts => .tuple (dTs ts)
  | .oth _ => .none
def dTs : List Tr → List PyData
  | [] => []
  | t :: ts => dT t :: dTs ts
end
/-- the length of the text -/
def szT (d : PyData) : Nat := (txt (trD d)).length
/-! a value spoilt in one place -/
abbrev s_law_odd : Stmt := top 99
abbrev N_law_odd : List Str := ["stream", "value", "odd"]
theorem sc_law_odd : FnScope N_law_odd ["stream", "value"] (defScope s_law_odd) := ⟨rfl, rfl, rfl, by decide +kernel, rfl, by decide +kernel, by decide +kernel⟩
abbrev s_law_spoilt : Stmt := top 100
abbrev N_law_spoilt : List Str := ["stream", "value", "k"]
theorem sc_law_spoilt : FnScope N_law_spoilt ["stream", "value"] (defScope s_law_spoilt) := ⟨rfl, rfl, rfl, by decide +kernel, rfl, by decide +kernel, by decide +kernel⟩
/-- a value that stands whatever becomes of the stream -/
def Rs (s : Addr) (H : Hp) (v : V) (d : PyData) : Prop := ∀ Hx, Kp [s] H Hx → Rq Hx v d
theorem Rs.rq {s : Addr} {H : Hp} {v : V} {d : PyData} (r : Rs s H v d) : Rq H v d := r H (Kp.refl _ _)
theorem Rs.kp {s : Addr} {H H2 : Hp} {v : V} {d : PyData} (r : Rs s H v d) (k : Kp [s] H H2) : Rs s H2 v d := fun Hx kx => r Hx (k.trans kx)
theorem Rs.kp0 {s : Addr} {H H2 : Hp} {v : V} {d : PyData} (r : Rs s H v d) (k : Kp [] H H2) : Rs s H2 v d := r.kp k.in0
theorem Rq.rs {s : Addr} {H : Hp} {v : V} {d : PyData} (r : Rq H v d) (p : purD d = true) : Rs s H v d := fun Hx kx => r.pure kx p
def spOddS (n : Nat) : Sp := fun vs H Q _ => ∃ (s : Addr) (v : V) (d : PyData), vs = [.ref s, v] ∧ Strm H s ∧ Rq H v d ∧ inD n d = true ∧ ∀ (x : V) (e : PyData) (H' : Hp), Rs s H' x e → okD (n + 2) e = true → Kp [s] H H' → Strm H' s → Q x H'
/-- of what may be picked each is fine, whatever becomes of the stream -/
theorem pick_goodS {st p : Addr} {H Hf : Hp} {items : List V} {Q : VK} {N : Nat} {m : Int} (k : Kp [st] H Hf) (s : Strm Hf st) (e : Hf p = some (.lst items)) (np : p ≠ st) (hm : m = (items.length : Nat)) (h0 : 0 < items.length) (h1 : items.length ≤ 100)
    (good : ∀ x ∈ items, ∃ d, okD N d = true ∧ ∀ Hx, Kp [st] Hf Hx → Rq Hx x d) (q : ∀ (x : V) (d : PyData) (H' : Hp), Rs st H' x d → okD N d = true → Kp [st] H H' → Strm H' st → Q x H') :
    spTake [.ref st, .int m] Hf (fun y H2 => ∃ x, H2 p = some (.lst x) ∧ ∃ i, y = .int i ∧ ∃ z, atI x i = some z ∧ Q z H2) E0 := by
  subst hm
  refine ⟨st, _, rfl, s, ⟨by omega, by omega⟩, fun v H' v0 v1 k' s' => ?_⟩
  obtain ⟨x, ex, mx⟩ := atI_memQ v0 v1
  obtain ⟨d, od, rd⟩ := good x mx
  exact ⟨items, k'.keep p _ (by simpa using np) e, v, rfl, x, ex, q x d H' (fun Hx kx => rd Hx (k'.trans kx)) od (k.trans k') s'⟩
section
variable {P : Program} {w : World} {K : PySem.W.Frag} {mg : Str → Option Value} {base : Heap} {f : Addr} {fd : FuncData}
theorem ok_odds {n : Nat} (F : Fun K "_law_odd" "_law_odd" s_law_odd f fd) (B : Blt mg) (c_law_take : Cal P w K mg base CX0 1 "_law_take" spTake) : FnOk P w K mg base CX0 2 f fd ["stream", "value"] (spOddS n) := by
  refine F.ok sc_law_odd (fun vs H Q E h => ?_) (fun cdv A outer s H vs Q E hr h => ?_)
  · obtain ⟨st, v, d, rfl, _⟩ := h; rfl
  obtain ⟨st, v, d, rfl, hs, hR, hi, q⟩ := h
  refine ⟨_, (C8.pss_cut (ps_if (PW.pt (pw_and (pt_val (B.isT (pv 1) B.v_tuple)) (pw_and1 (pt_cmpR op_eq (c_law_take.pe hr (pa_cons (pv 0) (pa_cons pe_int pa_nil))) pe_int (nomark _))))) (pss_cons (ps_set (i := 2) sc_law_odd.nd rfl (Or.inl rfl) (pe_lst (pa_cons (pe_op op_catA (pv 1) (pv 1)) (pa_cons (pe_slice sl_tupA (pv 1) po_none (po_some (pe_un un_neg pe_int))) (pa_cons (pe_slice sl_tupA (pv 1) (po_some pe_int) po_none) (pa_cons (pe_revT (pv 1)) (pa_cons (B.list_q (pa_cons (pv 1) pa_nil)) (pa_cons (pe_op op_catA (pv 1) (pe_slice sl_tupA (pv 1) po_none (po_some pe_int))) (pa_cons (pe_tup (pa_cons (pv 1) pa_nil)) pa_nil)))))))))
    (pss_one (ps_ret (pe_ix ix_lM (pv 2) (c_law_take.pe hr (pa_cons (pv 0) (pa_cons pe_int pa_nil))) (fun _ _ => rfl))))) pss_nil)
    (C8.pss_cut (ps_if (PW.pt (pw_and (pt_val (B.isT (pv 1) B.v_str)) (pw_and1 (pt_cmpR op_eq (c_law_take.pe hr (pa_cons (pv 0) (pa_cons pe_int pa_nil))) pe_int (nomark _))))) (pss_cons (ps_set (i := 2) sc_law_odd.nd rfl (Or.inl rfl) (pe_lst (pa_cons (pe_op op_add_str (pv 1) pe_str) (pa_cons (pe_slice sl_str (pv 1) po_none (po_some (pe_un un_neg pe_int))) (pa_cons (pe_slice sl_str (pv 1) (po_some pe_int) po_none) (pa_cons (pe_op op_add_str (pv 1) pe_str) (pa_cons (pe_upper (pv 1)) (pa_cons (pe_op op_add_str (pv 1) pe_str) (pa_cons (pe_op op_add_str (pv 1) pe_str) (pa_cons (pe_op op_mulN8 (pv 1) pe_int) pa_nil))))))))))
    (pss_one (ps_ret (pe_ix ix_lM (pv 2) (c_law_take.pe hr (pa_cons (pv 0) (pa_cons pe_int pa_nil))) (fun _ _ => rfl))))) pss_nil)
    (C8.pss_cut (ps_if (PW.pt (pw_and (pt_val (B.isT (pv 1) B.v_int)) (pw_and1 (pt_cmpR op_eq (c_law_take.pe hr (pa_cons (pv 0) (pa_cons pe_int pa_nil))) pe_int (nomark _))))) (pss_one (ps_ret (pe_ix ix_lM (pe_lst (pa_cons (pe_op op_add (pv 1) pe_int) (pa_cons (pe_op op_sub (pv 1) pe_int) (pa_cons (pe_op op_sub (pe_un un_neg pe_int) (pv 1)) (pa_cons (B.str_i (pa_cons (B.int_i (pa_cons (pv 1) pa_nil)) pa_nil)) (pa_cons (pe_tup (pa_cons (pv 1) pa_nil)) (pa_cons (pe_op op_add (pe_op op_mul (pv 1) pe_int) pe_int) pa_nil))))))) (c_law_take.pe hr (pa_cons (pv 0) (pa_cons pe_int pa_nil))) (fun _ _ => rfl)))) pss_nil)
    (pss_cons (ps_set (i := 2) sc_law_odd.nd rfl (Or.inl rfl) (pe_lst (pa_cons pe_non (pa_cons pe_bl (pa_cons pe_bl (pa_cons pe_int (pa_cons pe_int (pa_cons pe_int (pa_cons pe_int (pa_cons (pe_op op_pow pe_int pe_int) (pa_cons (pe_op op_add (pe_op op_pow pe_int pe_int) pe_int) (pa_cons pe_str (pa_cons pe_str (pa_cons pe_str (pa_cons pe_str (pa_cons (pe_op op_mulS pe_str pe_int) (pa_cons (pe_op op_mulS pe_str pe_int) (pa_cons (pe_tup pa_nil) (pa_cons (pe_lst (pa_cons pe_int pa_nil)) pa_nil)))))))))))))))))))
    (pss_one (ps_ret (pe_ix ix_lM (pv 2) (c_law_take.pe hr (pa_cons (pv 0) (pa_cons pe_int pa_nil))) (fun _ _ => rfl)))))))), ?_⟩
  walk_at "wp"
  have lim : sizeLine = 16777216 := sizeLine_eq
  have hp : purD d = true := in_pur _ _ hi
  let M : L2.St → Hp → Prop := fun σ H' => σ = [some (.ref st), some v, none] ∧ Kp [st] H H' ∧ Strm H' st
  have la : ∀ x y : Str, (x ++ y).length = x.length + y.length := fun x y => by rw [TL.len_tl, TL.tl_append, List.length_append, ← TL.len_tl, ← TL.len_tl]
  have nst : ∀ {Hx : Hp} {p : Addr}, Strm Hx st → Hx p = none → p ≠ st := fun s hp z => by
    obtain ⟨x, y, e⟩ := s
    rw [z, e] at hp; cases hp
  refine ⟨M, ?_, ?_⟩
  · walk_at "wp"
    refine ⟨_, hR.ty, ?_⟩
    cases hR with
    | @tup a xs ds e r =>
      dsimp only [tyD]
      walk_at "wp"
      refine ⟨st, 2, rfl, hs, ⟨by decide, by decide⟩, fun v H1 v0 v1 k1 s1 => ⟨rfl, ?_⟩⟩
      split
      · obtain ⟨m, rfl⟩ : ∃ m, n = m + 1 := by
          cases n with
          | zero => cases hi
          | succ m => exact ⟨m, rfl⟩
        obtain ⟨l1, i1⟩ := inD_tup.mp hi
        have p1 := purD_tup.mp hp
        have o1 : ∀ x ∈ ds, okD (m + 2) x = true := fun x h => ok_mono m (m + 2) x (by omega) (in_ok m x (i1 x h))
        have lx := r.len
        have e1 := k1.tup _ _ e
        have r1 := r.pure k1 (purDs_all.mpr p1)
        refine cat_q e1 e1 (by omega) fun z1 H2 k2 f1 => ?_
        refine sl_q (k2.tup _ _ e1) fun z2 H3 k3 f2 => ?_
        refine sl_q ((k2.trans k3).tup _ _ e1) fun z3 H4 k4 f3 => ?_
        have k14 := (k2.trans k3).trans k4
        refine ⟨_, rfl, a, xs, rfl, SqT.of (k14.tup _ _ e1), fun z4 h4 => ⟨xs, .inr (SqT.of ((k14.trans (Kp.new h4 _)).tup _ _ e1)), fun l hl => ?_⟩⟩
        have k15 := (k14.trans (Kp.new h4 (.tup xs.reverse))).trans (Kp.new hl (.lst xs))
        have nl := nst (s1.kp (k14.trans (Kp.new h4 (.tup xs.reverse))) List.not_mem_nil) hl
        have fl : upd (upd H4 z4 (.tup xs.reverse)) l (.lst xs) l = some (.lst xs) := upd_same
        have f4 : upd (upd H4 z4 (.tup xs.reverse)) l (.lst xs) z4 = some (.tup xs.reverse) := (Kp.new hl _ : Kp [] _ _).tup _ _ upd_same
        have k45 : Kp [] H4 (upd (upd H4 z4 (.tup xs.reverse)) l (.lst xs)) := (Kp.new h4 (.tup xs.reverse)).trans (Kp.new hl (.lst xs))
        generalize upd (upd H4 z4 (.tup xs.reverse)) l (.lst xs) = H5 at k15 k45 fl f4 ⊢
        refine sl_q (k15.tup _ _ e1) fun z5 H6 k6 f5 => ?_
        have k16 := k15.trans k6
        have c5 := (cutD_len ds none (some 1))
        have c5' := (r1.cut none (some 1)).len
        refine cat_q (k16.tup _ _ e1) f5 (by omega) fun z6 H7 k7 f6 => ⟨by omega, fun z7 h7 => ⟨by omega, fun p hp2 => ?_⟩⟩
        have kA := (k16.trans k7).trans (Kp.new h7 (.tup [.ref a]))
        have sA := s1.kp kA List.not_mem_nil
        have kB := kA.trans (Kp.new hp2 (.lst [.ref z1, .ref z2, .ref z3, .ref z4, .ref l, .ref z6, .ref z7]))
        refine pick_goodS (H := H) (N := m + 1 + 2) (k1.trans kB.in0) (s1.kp kB List.not_mem_nil) upd_same (nst sA hp2) rfl (Nat.succ_pos _) (by show 7 ≤ 100; decide) (fun x hx => ?_) q
        have tg : ∀ {z : Addr} {ys : List V} {es : List PyData} {Hy : Hp}, Hy z = some (.tup ys) → RqA Hy ys es → (∀ e ∈ es, e ∈ ds) → es.length ≤ 300 → Kp [] Hy (upd (upd H7 z7 (.tup [.ref a])) p (.lst [.ref z1, .ref z2, .ref z3, .ref z4, .ref l, .ref z6, .ref z7])) →
            ∃ d, okD (m + 1 + 2) d = true ∧ ∀ Hx, Kp [st] (upd (upd H7 z7 (.tup [.ref a])) p (.lst [.ref z1, .ref z2, .ref z3, .ref z4, .ref l, .ref z6, .ref z7])) Hx → Rq Hx (.ref z) d :=
          fun {z ys es Hy} e r sub le kF => ⟨.tuple es, okD_tup.mpr ⟨by omega, fun x h => o1 x (sub x h)⟩, fun Hx k => (Rq.tup (kF.tup _ _ e) (r.kp0 kF)).pure k (purD_tup.mpr fun x h => p1 x (sub x h))⟩
        have kC : Kp [] H7 (upd (upd H7 z7 (.tup [.ref a])) p (.lst [.ref z1, .ref z2, .ref z3, .ref z4, .ref l, .ref z6, .ref z7])) := (Kp.new h7 (.tup [.ref a])).trans (Kp.new hp2 _)
        have k67 := k6.trans k7
        simp only [List.mem_cons, List.not_mem_nil, or_false] at hx
        rcases hx with rfl | rfl | rfl | rfl | rfl | rfl | rfl
        · exact tg f1 ((r1.app r1).kp0 k2) (fun e h => (List.mem_append.mp h).elim id id) (by rw [List.length_append]; omega) (k3.trans (k4.trans (k45.trans (k67.trans kC))))
        · exact tg f2 (((r1.cut _ _).kp0 k2).kp0 k3) (fun e h => cutD_mem h) (by have := cutD_len ds none (some (-1)); omega) (k4.trans (k45.trans (k67.trans kC)))
        · exact tg f3 ((r1.cut _ _).kp0 k14) (fun e h => cutD_mem h) (by have := cutD_len ds (some 1) none; omega) (k45.trans (k67.trans kC))
        · exact tg f4 (r1.rev.kp0 k15) (fun e h => List.mem_reverse.mp h) (by rw [List.length_reverse]; omega) (k67.trans kC)
        · exact ⟨.list ds, okD_lst.mpr ⟨by omega, o1⟩, fun Hx k => .lst (k.keep l _ (by simpa using nl) ((k67.trans kC).keep l _ List.not_mem_nil fl)) ((r1.kp0 (k15.trans (k67.trans kC))).pure k (purDs_all.mpr p1))⟩
        · exact tg f6 ((r1.app (r1.cut _ _)).kp0 (k16.trans k7)) (fun e h => (List.mem_append.mp h).elim id cutD_mem) (by rw [List.length_append]; omega) kC
        · have f7 := (Kp.new (S := []) hp2 (.lst [.ref z1, .ref z2, .ref z3, .ref z4, .ref l, .ref z6, .ref z7])).tup z7 _ upd_same
          refine ⟨.tuple [.tuple ds], okD_tup.mpr ⟨by show 1 ≤ 200000; decide, fun x hx => by rw [List.mem_singleton.mp hx]; exact okD_tup.mpr ⟨by omega, fun y h => ok_mono m (m + 1) y (by omega) (in_ok m y (i1 y h))⟩⟩, fun Hx k => ?_⟩
          exact (Rq.tup f7 (.cons (.tup (kB.tup _ _ e1) (r1.kp0 kB)) .nil)).pure k (purD_tup.mpr fun x hx => by rw [List.mem_singleton.mp hx]; exact hp)
      · exact ⟨rfl, k1, s1⟩
    | _ => dsimp only [tyD]; walk_at "wp"; exact ⟨rfl, Kp.refl _ _, hs⟩
  rintro σ H1 ⟨rfl, k1, s1⟩
  have hR1 := hR.pure k1 hp
  refine ⟨M, ?_, ?_⟩
  · walk_at "wp"
    refine ⟨_, hR1.ty, ?_⟩
    cases hR1 with
    | str z =>
      dsimp only [tyD]
      walk_at "wp"
      refine ⟨st, 2, rfl, s1, ⟨by decide, by decide⟩, fun v H2 v0 v1 k2 s2 => ⟨rfl, ?_⟩⟩
      split
      · obtain ⟨lz, cz⟩ := inD_str.mp hi
        have so := strOk_low cz
        have c1 : (Str.ofString "a").length = 1 := by decide +kernel
        have c2 : (Str.ofString " ").length = 1 := by decide +kernel
        have c3 : (Str.ofString "0").length = 1 := by decide +kernel
        have c4 : (Str.ofString "/").length = 1 := by decide +kernel
        refine ⟨by omega, by omega, by omega, by omega, _, rfl, ⟨z, rfl⟩, z, rfl, rfl, by omega, by omega, by omega, by omega, by decide, by decide, fun u lu mu => ⟨by omega, fun p hp2 => ?_⟩⟩
        have kB := Kp.new (S := []) hp2 (.lst [V.str (z ++ Str.ofString "a"), V.str (cutS z none (some (-1))), V.str (cutS z (some 1) none), V.str (z ++ Str.ofString " "), V.str (Txt.upper z), V.str (z ++ Str.ofString "0"), V.str (z ++ Str.ofString "/"), V.str u])
        refine pick_goodS (H := H) (N := n + 2) ((k1.trans k2).trans kB.in0) (s2.kp kB List.not_mem_nil) upd_same (nst s2 hp2) rfl (Nat.succ_pos _) (by show 8 ≤ 100; decide) (fun x hx => ?_) q
        have gs : ∀ y : Str, y.length ≤ 200000 → PyData.strOk y = true → ∀ F : Hp, ∃ d, okD (n + 2) d = true ∧ ∀ Hx, Kp [st] F Hx → Rq Hx (.str y) d := fun y l o F => ⟨.str y, okD_str.mpr ⟨l, o⟩, fun _ _ => .str y⟩
        have cu : ∀ lo hi, PyData.strOk (cutS z lo hi) = true := fun lo hi => strOk_low fun c hc => cz c (List.mem_of_mem_drop (List.mem_of_mem_take hc))
        have cl : ∀ lo hi, (cutS z lo hi).length ≤ 200000 := fun lo hi => by have := cutS_length z lo hi; omega
        have up := PyProof.Rows.len_upper z
        have lu : u.length ≤ z.length * 8 := lu
        simp only [List.mem_cons, List.not_mem_nil, or_false] at hx
        rcases hx with rfl | rfl | rfl | rfl | rfl | rfl | rfl | rfl
        · exact gs _ (by rw [la]; omega) (strOk_app so (by decide +kernel)) _
        · exact gs _ (cl _ _) (cu _ _) _
        · exact gs _ (cl _ _) (cu _ _) _
        · exact gs _ (by rw [la]; omega) (strOk_app so (by decide +kernel)) _
        · exact gs _ (by omega) (strOk_up cz) _
        · exact gs _ (by rw [la]; omega) (strOk_app so (by decide +kernel)) _
        · exact gs _ (by rw [la]; omega) (strOk_app so (by decide +kernel)) _
        · exact gs _ (by omega) (strOk_low fun c hc => cz c (mu c hc)) _
      · exact ⟨rfl, k1.trans k2, s2⟩
    | _ => dsimp only [tyD]; walk_at "wp"; exact ⟨rfl, k1, s1⟩
  rintro σ H2 ⟨rfl, k2, s2⟩
  have hR2 := hR.pure k2 hp
  refine ⟨M, ?_, ?_⟩
  · walk_at "wp"
    refine ⟨_, hR2.ty, ?_⟩
    cases hR2 with
    | int z =>
      dsimp only [tyD]
      walk_at "wp"
      refine ⟨st, 2, rfl, s2, ⟨by decide, by decide⟩, fun v H3 v0 v1 k3 s3 => ⟨rfl, ?_⟩⟩
      split
      · obtain ⟨i0, i1⟩ := inD_int.mp hi
        refine ⟨log_small i0 (by omega), by omega, fun p1 h1 => ⟨.inr (by decide), by omega, fun p hp2 => ?_⟩⟩
        have kA := Kp.new (S := []) h1 (.tup [.int z])
        have kB := Kp.new (S := []) hp2 (.lst [V.int (z + 1), V.int (z - 1), V.int (-1 - z), V.str (Str.ofString (toString z)), V.ref p1, V.int (z * 10 + 17)])
        have f1 := kB.tup p1 _ upd_same
        refine pick_goodS (H := H) (N := n + 2) (((k2.trans k3).trans kA.in0).trans kB.in0) ((s3.kp kA List.not_mem_nil).kp kB List.not_mem_nil) upd_same (nst (s3.kp kA List.not_mem_nil) hp2) rfl (Nat.succ_pos _) (by show 6 ≤ 100; decide) (fun x hx => ?_) q
        have gi : ∀ y : Int, -99999999999999999999 ≤ y ∧ y ≤ 99999999999999999999 → ∀ F : Hp, ∃ d, okD (n + 2) d = true ∧ ∀ Hx, Kp [st] F Hx → Rq Hx (.int y) d := fun y h F => ⟨.int y, okD_int.mpr h, fun _ _ => .int y⟩
        simp only [List.mem_cons, List.not_mem_nil, or_false] at hx
        rcases hx with rfl | rfl | rfl | rfl | rfl | rfl
        · exact gi _ (by omega) _
        · exact gi _ (by omega) _
        · exact gi _ (by omega) _
        · refine ⟨.str _, okD_str.mpr ?_, fun _ _ => .str _⟩
          rw [show z = ((z.toNat : Nat) : Int) by omega, toString_S, S_len]
          have := dig_len (n := z.toNat) (by omega)
          refine ⟨by omega, strOk_prn ?_⟩
          unfold prn
          exact List.all_eq_true.mpr fun c hc => dig_prc _ c (by simpa using hc)
        · exact ⟨.tuple [.int z], okD_tup.mpr ⟨by show 1 ≤ 200000; decide, fun x hx => by rw [List.mem_singleton.mp hx]; exact okD_int.mpr (by omega)⟩, fun Hx k => .tup (k.tup _ _ f1) (.cons (.int z) .nil)⟩
        · exact gi _ (by omega) _
      · exact ⟨rfl, k2.trans k3, s3⟩
    | bl z => cases n <;> cases hi
    | _ => dsimp only [tyD]; walk_at "wp"; exact ⟨rfl, k2, s2⟩
  rintro σ H3 ⟨rfl, k3, s3⟩
  walk_at "wp"
  have cp : CPow 10 12 := by refine ⟨?_, ?_, ?_⟩ <;> decide
  refine ⟨cp, cp, 103, rfl, by decide, by decide, 48, rfl, by decide, by decide, by omega, fun p1 h1 => ⟨by omega, fun p2 h2 => ⟨by omega, fun p hp2 => ?_⟩⟩⟩
  have kA := Kp.new (S := []) h1 (.tup [])
  have kA2 := Kp.new (S := []) h2 (.lst [.int 1])
  have sA := (s3.kp kA List.not_mem_nil)
  have sA2 := sA.kp kA2 List.not_mem_nil
  have n2 := nst sA h2
  generalize eo : (HO.lst [V.non, V.bl true, V.bl false, V.int 0, V.int 1, V.int 2, V.int 17, V.int (10 ^ Int.toNat 12), V.int (10 ^ Int.toNat 12 + 1), V.str (Str.ofString ""), V.str (Str.ofString "k1"), V.str (Str.ofString "list"), V.str (Str.ofString "stamp"), V.str { cps := (List.replicate (Int.toNat 18) 103).toArray }, V.str { cps := (List.replicate (Int.toNat 18) 48).toArray }, V.ref p1, V.ref p2]) = o
  have kB := Kp.new (S := []) hp2 o
  have f1 := kB.tup p1 _ (kA2.tup p1 _ upd_same)
  have f2 := kB.keep p2 _ List.not_mem_nil upd_same
  have f3 : upd (upd (upd H3 p1 (.tup [])) p2 (.lst [.int 1])) p o p = some o := upd_same
  generalize upd (upd (upd H3 p1 (.tup [])) p2 (.lst [.int 1])) p o = F at kB f1 f2 f3 ⊢
  subst eo
  refine pick_goodS (H := H) (N := n + 2) (((k3.trans kA.in0).trans kA2.in0).trans kB.in0) (sA2.kp kB List.not_mem_nil) f3 (nst sA2 hp2) rfl (Nat.succ_pos _) (by show 17 ≤ 100; decide) (fun x hx => ?_) q
  have gi : ∀ y : Int, -99999999999999999999 ≤ y ∧ y ≤ 99999999999999999999 → ∃ d, okD (n + 2) d = true ∧ ∀ Hx, Kp [st] F Hx → Rq Hx (.int y) d := fun y h => ⟨.int y, okD_int.mpr h, fun _ _ => .int y⟩
  have gs : ∀ y : Str, (decide (y.length ≤ 200000) && PyData.strOk y) = true → ∃ d, okD (n + 2) d = true ∧ ∀ Hx, Kp [st] F Hx → Rq Hx (.str y) d := fun y h => ⟨.str y, okD_str.mpr (by rw [Bool.and_eq_true, decide_eq_true_eq] at h; exact h), fun _ _ => .str y⟩
  simp only [List.mem_cons, List.not_mem_nil, or_false] at hx
  rcases hx with rfl | rfl | rfl | rfl | rfl | rfl | rfl | rfl | rfl | rfl | rfl | rfl | rfl | rfl | rfl | rfl | rfl
  · exact ⟨.none, rfl, fun _ _ => .non⟩
  · exact ⟨.bool true, rfl, fun _ _ => .bl _⟩
  · exact ⟨.bool false, rfl, fun _ _ => .bl _⟩
  iterate 6 exact gi _ (by decide)
  iterate 6 exact gs _ (by decide +kernel)
  · exact ⟨.tuple [], rfl, fun Hx k => .tup (k.tup _ _ f1) .nil⟩
  · exact ⟨.list [.int 1], okD_lst.mpr ⟨by decide, fun x hx => by rw [List.mem_singleton.mp hx]; exact okD_int.mpr (by decide)⟩, fun Hx k => .lst (k.keep _ _ (by simpa using n2) f2) (.cons (.int 1) .nil)⟩
theorem ok_spoilts {n j : Nat} (F : Fun K "_law_spoilt" "_law_spoilt" s_law_spoilt f fd) (B : Blt mg) (hj : 2 ≤ j) (c_law_take : Cal P w K mg base CX0 1 "_law_take" spTake) (c_law_odd : Cal P w K mg base CX0 2 "_law_odd" (spOddS (n + 1))) (c_law_spoilt : Cal P w K mg base CX0 j "_law_spoilt" (spOddS n)) (hn : n ≤ 60) : FnOk P w K mg base CX0 (j + 1) f fd ["stream", "value"] (spOddS (n + 1)) := by
  refine F.ok sc_law_spoilt (fun vs H Q E h => ?_) (fun cdv A outer s H vs Q E hr h => ?_)
  · obtain ⟨st, v, d, rfl, _⟩ := h; rfl
  obtain ⟨st, v, d, rfl, hs, hR, hi, q⟩ := h
  refine ⟨_, (pss_cons (ps_if (PW.pt (pw_and (pt_val (B.isT (pv 1) B.v_tuple)) (pw_and (pt_cmpR (op_neD hr.units) (pv 1) (pe_tup pa_nil) (nomark _)) (pw_and1 (pt_cmpR op_gt (c_law_take.pe hr (pa_cons (pv 0) (pa_cons pe_int pa_nil))) pe_int (nomark _)))))) (pss_cons (ps_set (i := 2) sc_law_spoilt.nd rfl (Or.inl rfl) (c_law_take.pe hr (pa_cons (pv 0) (pa_cons (B.len_q (pa_cons (pv 1) pa_nil)) pa_nil))))
    (pss_one (ps_ret (pe_op op_catA (pe_op op_catA (pe_slice sl_tupA (pv 1) po_none (po_some (pv 2))) (pe_tup (pa_cons (c_law_spoilt.pe hr (pa_cons (pv 0) (pa_cons (pe_ix ix_tM (pv 1) (pv 2) (fun _ _ => rfl)) pa_nil))) pa_nil))) (pe_slice sl_tupA (pv 1) (po_some (pe_op op_add (pv 2) pe_int)) po_none))))) pss_nil)
    (pss_one (ps_ret (c_law_odd.pe hr (pa_cons (pv 0) (pa_cons (pv 1) pa_nil)))))), ?_⟩
  walk_at "wp"
  have lim : sizeLine = 16777216 := sizeLine_eq
  have hp : purD d = true := in_pur _ _ hi
  have odd : ∀ Hx, Kp [st] H Hx → Strm Hx st → spOddS (n + 1) [.ref st, v] Hx Q E0 := fun Hx kx sx => ⟨st, v, d, rfl, sx, hR.pure kx hp, hi, fun x e H' r o k s => q x e H' r o (kx.trans k) s⟩
  refine ⟨_, hR.ty, ?_⟩
  split
  · rename_i c0
    obtain ⟨a, xs, ds, rfl, e, rfl, r⟩ : ∃ a xs ds, v = .ref a ∧ H a = some (.tup xs) ∧ d = .tuple ds ∧ RqA H xs ds := by
      cases hR with
      | tup e r => exact ⟨_, _, _, rfl, e, rfl, r⟩
      | _ => exact absurd c0 (by simp [tyD, isaB_all])
    obtain ⟨l1, i1⟩ := inD_tup.mp hi
    have lx := r.len
    refine ⟨by omega, fun p0 h0 => ?_⟩
    have k0 := Kp.new (S := []) h0 (.tup [])
    have s0 := hs.kp k0 List.not_mem_nil
    refine ⟨.tuple ds, .tuple [], (hR.kp0 k0).dp, .tup (SqT.of upd_same) .nil, ok_shaped (in_ok _ _ hi) (by omega), by decide, _, rfl, ?_⟩
    split
    · rename_i c1
      have dn : ds ≠ [] := fun z => by rw [z] at c1; exact absurd c1 (by decide)
      have d0 : 0 < ds.length := List.length_pos_iff.mpr dn
      refine ⟨st, 5, rfl, s0, ⟨by decide, by decide⟩, fun v1 H1 v10 v11 k1 s1 => ⟨v1, rfl, ?_⟩⟩
      have K1 : Kp [st] H H1 := k0.in0.trans k1
      split
      · have e1 := K1.tup _ _ e
        refine ⟨a, rfl, xs, .inr (SqT.of e1), st, _, rfl, s1, ⟨by omega, by omega⟩, fun v2 H2 v20 v21 k2 s2 => ⟨v2, rfl, ?_⟩⟩
        have K2 := K1.trans k2
        have e2 := K2.tup _ _ e
        refine sl_q e2 fun z1 H3 k3 f1 => ?_
        have K3 := K2.trans (k3.in0 : Kp [st] H2 H3)
        have s3 := s2.kp k3 List.not_mem_nil
        obtain ⟨x, ex, mx⟩ := atI_memQ v20 v21
        have vi : v2 = ((v2.toNat : Nat) : Int) := by omega
        have hlt : v2.toNat < ds.length := by omega
        obtain ⟨x', ex', Rx⟩ := r.at hlt
        have exx : x = x' := by
          have z := atI_nat ex'
          rw [← vi, ex] at z
          exact Option.some.inj z
        subst exx
        have md := getD_mem hlt
        have hpe := purD_tup.mp hp
        refine ⟨a, rfl, xs, K3.tup _ _ e, v2, rfl, x, ex, st, x, ds.getD v2.toNat .none, rfl, s3, Rx.pure K3 (hpe _ md), i1 _ md, fun y e5 H4 r5 o5 k4 s4 => ⟨by omega, fun p5 h5 => ?_⟩⟩
        have k5 := Kp.new (S := []) h5 (.tup [y])
        have c1 := cutD_len ds none (some v2)
        have c1' := (r.cut none (some v2)).len
        have K4 := K3.trans k4
        have rc := (r.cut none (some v2)).pure K3 (purDs_all.mpr fun x h => hpe x (cutD_mem h))
        have f4 := k5.tup _ _ (k4.tup _ _ (show H3 z1 = _ from f1))
        refine cat_q f4 upd_same (by rw [List.length_singleton]; omega) fun z6 H6 k6 f6 => ⟨v2, rfl, ?_⟩
        have K6 : Kp [st] H H6 := (K4.trans k5.in0).trans k6.in0
        refine sl_q (K6.tup _ _ e) fun z7 H7 k7 f7 => ?_
        have c2 := cutD_len ds (some (v2 + 1)) none
        have c2' := (r.cut (some (v2 + 1)) none).len
        refine cat_q (k7.tup _ _ f6) f7 (by rw [List.length_append, List.length_singleton]; omega) fun z8 H8 k8 f8 => ?_
        have ks : Kp [] H4 H8 := ((k5.trans k6).trans k7).trans k8
        have k38 : Kp [st] H3 H8 := k4.trans ks.in0
        have K8 : Kp [st] H H8 := K3.trans k38
        have fin : ∀ Hx, Kp [st] H8 Hx → RqA Hx (cutV xs none (some v2) ++ [y] ++ cutV xs (some (v2 + 1)) none) (cutD ds none (some v2) ++ [e5] ++ cutD ds (some (v2 + 1)) none) :=
          fun Hx kx => ((rc.pure (k38.trans kx) (purDs_all.mpr fun x h => hpe x (cutD_mem h))).app (.cons (r5 Hx (ks.in0.trans kx)) .nil)).app ((r.cut _ _).pure (K8.trans kx) (purDs_all.mpr fun x h => hpe x (cutD_mem h)))
        refine q (.ref z8) _ H8 (fun Hx kx => .tup (kx.tup _ _ f8) (fin Hx kx)) (okD_tup.mpr ⟨by rw [List.length_append, List.length_append, List.length_singleton]; omega, fun x h => ?_⟩) K8 (s4.kp ks List.not_mem_nil)
        have ind : ∀ x ∈ ds, okD (n + 2) x = true := fun x h => ok_mono n (n + 2) x (by omega) (in_ok n x (i1 x h))
        rcases List.mem_append.mp h with h | h
        · rcases List.mem_append.mp h with h | h
          · exact ind x (cutD_mem h)
          · rw [List.mem_singleton.mp h]; exact o5
        · exact ind x (cutD_mem h)
      · exact odd _ K1 s1
    · exact odd _ k0.in0 s0
  · exact odd _ (Kp.refl _ _) hs
theorem ok_spoilts0 {j : Nat} (F : Fun K "_law_spoilt" "_law_spoilt" s_law_spoilt f fd) (B : Blt mg) (hj : 2 ≤ j) (c_law_take : Cal P w K mg base CX0 1 "_law_take" spTake) (c_law_odd : Cal P w K mg base CX0 2 "_law_odd" (spOddS 0)) (c_law_spoilt : Cal P w K mg base CX0 j "_law_spoilt" (fun _ _ _ _ => False)) : FnOk P w K mg base CX0 (j + 1) f fd ["stream", "value"] (spOddS 0) := by
  refine F.ok sc_law_spoilt (fun vs H Q E h => ?_) (fun cdv A outer s H vs Q E hr h => ?_)
  · obtain ⟨st, v, d, rfl, _⟩ := h; rfl
  obtain ⟨st, v, d, rfl, hs, hR, hi, q⟩ := h
  refine ⟨_, (pss_cons (ps_if (PW.pt (pw_and (pt_val (B.isT (pv 1) B.v_tuple)) (pw_and (pt_cmpR (op_neD hr.units) (pv 1) (pe_tup pa_nil) (nomark _)) (pw_and1 (pt_cmpR op_gt (c_law_take.pe hr (pa_cons (pv 0) (pa_cons pe_int pa_nil))) pe_int (nomark _)))))) (pss_cons (ps_set (i := 2) sc_law_spoilt.nd rfl (Or.inl rfl) (c_law_take.pe hr (pa_cons (pv 0) (pa_cons (B.len_q (pa_cons (pv 1) pa_nil)) pa_nil))))
    (pss_one (ps_ret (pe_op op_catA (pe_op op_catA (pe_slice sl_tupA (pv 1) po_none (po_some (pv 2))) (pe_tup (pa_cons (c_law_spoilt.pe hr (pa_cons (pv 0) (pa_cons (pe_ix ix_tM (pv 1) (pv 2) (fun _ _ => rfl)) pa_nil))) pa_nil))) (pe_slice sl_tupA (pv 1) (po_some (pe_op op_add (pv 2) pe_int)) po_none))))) pss_nil)
    (pss_one (ps_ret (c_law_odd.pe hr (pa_cons (pv 0) (pa_cons (pv 1) pa_nil)))))), ?_⟩
  walk_at "wp"
  refine ⟨_, hR.ty, ?_⟩
  split
  · rename_i c0
    cases d with
    | tuple ds => cases hi
    | _ => exact absurd c0 (by simp [tyD, isaB_all])
  · exact ⟨st, v, d, rfl, hs, hR, hi, q⟩
end
/-! a role that a law draws -/
/-- a role's keys -/
structure RoleOk (t : Int) (ks : List Str) : Prop where
  t1 : 1 ≤ t
  t2 : t ≤ (ks.length : Nat)
  n : ks.length ≤ 16
  ky : ∀ k ∈ ks, kyS k = true
  a : asc ks = true
def roleD (t : Int) (ks : List Str) : PyData := .tuple [.int t, .tuple (ks.map .str)]
theorem strs_rq {H : Hp} : ∀ ks : List Str, RqA H (ks.map V.str) (ks.map PyData.str)
  | [] => .nil
  | k :: r => .cons (.str k) (strs_rq r)
theorem ky_low {k : Str} (h : kyS k = true) : ∀ c ∈ k.cps.toList, c < 128 := fun c hc => by
  have hl : k.cps.toList.length = k.length := cps_lenP k
  unfold kyS at h
  simp only [Bool.and_eq_true, decide_eq_true_eq] at h
  obtain ⟨⟨⟨h1, h2⟩, h3⟩, h4⟩ := h
  cases e : k.cps.toList with
  | nil => rw [e] at hc; cases hc
  | cons d r =>
    have hc : c ∈ d :: r := by rw [← e]; exact hc
    rw [e] at h3
    have h3 : d = 107 := Option.some.inj h3
    rcases List.mem_cons.mp hc with hc | hc
    · omega
    · unfold inT at h4
      rw [List.all_eq_true] at h4
      have hm : c ∈ (cutS k (some 1) none).cps.toList := by
        show c ∈ (k.cps.toList.drop (HT.sIx k.length 0 (some ((1 : Nat) : Int)))).take (HT.sIx k.length k.length none - HT.sIx k.length 0 (some ((1 : Nat) : Int)))
        rw [HT.sIx_nat, HT.sIx_none, e, show min 1 k.length = 1 by omega, List.take_of_length_le (by rw [List.length_drop, ← e, hl]; exact Nat.le_refl _)]
        exact hc
      have := of_decide_eq_true (h4 c hm)
      exact (by decide +kernel : ∀ c ∈ (Str.ofString "0123456789").cps.toList, c < 128) c this
theorem RoleOk.rq {t : Int} {ks : List Str} {H : Hp} {p b : Addr} (e : H p = some (.tup [.int t, .ref b])) (e2 : H b = some (.tup (ks.map V.str))) : Rq H (.ref p) (roleD t ks) := .tup e (.cons (.int t) (.cons (.tup e2 (strs_rq ks)) .nil))
theorem RoleOk.inD {t : Int} {ks : List Str} (h : RoleOk t ks) (n : Nat) : inD (n + 2) (roleD t ks) = true := by
  refine inD_tup.mpr ⟨by show 2 ≤ 100; decide, fun d m => ?_⟩
  have := h.n
  have := h.t1
  have := h.t2
  rcases List.mem_cons.mp m with rfl | m
  · exact inD_int.mpr (by omega)
  · rw [List.mem_singleton.mp m]
    refine inD_tup.mpr ⟨by rw [List.length_map]; omega, fun d m => ?_⟩
    obtain ⟨k, mk, rfl⟩ := List.mem_map.mp m
    exact inD_str.mpr ⟨by have := ky_len (h.ky k mk); omega, ky_low (h.ky k mk)⟩
theorem strD_map (ks : List Str) : (ks.map PyData.str).map strD = ks := by
  rw [List.map_map]
  exact List.map_id ks
theorem RoleOk.is {t : Int} {ks : List Str} (h : RoleOk t ks) : isRole (roleD t ks) = true := by
  have h1 := h.t1
  have h2 := h.t2
  have h3 := h.n
  show (true && (tupB 1 16 (.tuple (ks.map .str)) && ((ks.map PyData.str).all kyD && (asc ((ks.map PyData.str).map strD) && numB 1 ((ks.map PyData.str).length : Nat) (.int t))))) = true
  rw [show tupB 1 16 (.tuple (ks.map .str)) = true by
    show (decide (1 ≤ (ks.map PyData.str).length) && decide ((ks.map PyData.str).length ≤ 16)) = true
    rw [List.length_map, decide_eq_true (by omega), decide_eq_true (by omega)]; rfl]
  rw [show (ks.map PyData.str).all kyD = true by
    rw [List.all_map, List.all_eq_true]
    exact fun k m => h.ky k m]
  rw [strD_map, h.a, List.length_map]
  show (decide (1 ≤ t) && decide (t ≤ (ks.length : Nat))) = true
  rw [decide_eq_true h1, decide_eq_true h2]; rfl
def spLRole : Sp := fun vs H Q _ => ∃ s : Addr, vs = [.ref s] ∧ Strm H s ∧ ∀ (p b : Addr) (t : Int) (ks : List Str) (H' : Hp), H' p = some (.tup [.int t, .ref b]) → H' b = some (.tup (ks.map V.str)) → RoleOk t ks → Kp [s] H H' → Strm H' s → Q (.ref p) H'
/-! list names that a law draws -/
def lnD : PyData → Bool
  | .str z => lnS z
  | _ => false
theorem lnD_of {H : Hp} {v : V} {d : PyData} (r : Rq H v d) : lnV v = lnD d := by cases r <;> rfl
theorem ln_low {z : Str} (h : lnS z = true) : z.length ≤ 12 ∧ ∀ c ∈ z.cps.toList, c < 128 := by
  unfold lnS at h
  simp only [Bool.and_eq_true, decide_eq_true_eq] at h
  refine ⟨h.1.2, fun c hc => ?_⟩
  have h2 := h.2
  unfold inT at h2
  rw [List.all_eq_true] at h2
  exact (by decide +kernel : ∀ c ∈ (Str.ofString "abcdefghijklmnopqrstuvwxyz").cps.toList, c < 128) c (of_decide_eq_true (h2 c hc))
/-! [f(stream, k) for k in a list of texts] -/
inductive Al (P : Str → PyData → Prop) : List Str → List PyData → Prop
  | nil : Al P [] []
  | cons {k : Str} {ks : List Str} {d : PyData} {ds : List PyData} : P k d → Al P ks ds → Al P (k :: ks) (d :: ds)
theorem Al.app {P : Str → PyData → Prop} : ∀ {ks js : List Str} {ds es : List PyData}, Al P ks ds → Al P js es → Al P (ks ++ js) (ds ++ es)
  | _, _, _, _, .nil, h => h
  | _, _, _, _, .cons a b, h => .cons a (b.app h)
theorem Al.len {P : Str → PyData → Prop} : ∀ {ks : List Str} {ds : List PyData}, Al P ks ds → ks.length = ds.length
  | _, _, .nil => rfl
  | _, _, .cons _ b => congrArg (· + 1) b.len
theorem Al.mem {P : Str → PyData → Prop} : ∀ {ks : List Str} {ds : List PyData}, Al P ks ds → ∀ d ∈ ds, ∃ k ∈ ks, P k d
  | _, _, .nil, _, h => absurd h List.not_mem_nil
  | _, _, .cons a b, d, h => by
    rcases List.mem_cons.mp h with rfl | h
    · exact ⟨_, List.mem_cons_self, a⟩
    · obtain ⟨k, m, p⟩ := b.mem d h
      exact ⟨k, List.mem_cons_of_mem _ m, p⟩
theorem Al.map {P : Str → PyData → Prop} {f : PyData → Str} (hf : ∀ k d, P k d → f d = k) : ∀ {ks : List Str} {ds : List PyData}, Al P ks ds → ds.map f = ks
  | _, _, .nil => rfl
  | _, _, .cons a b => by rw [List.map_cons, hf _ _ a, b.map hf]
theorem flat_strsQ : ∀ keys : List Str, (keys.map V.str).all flatV = true
  | [] => rfl
  | _ :: r => flat_strsQ r
theorem inV_strsQ (k : Str) : ∀ keys : List Str, L2.inV (V.str k) (keys.map V.str) = decide (k ∈ keys)
  | [] => rfl
  | y :: r => by
    show (eqV (.str y) (.str k) || L2.inV (V.str k) (r.map V.str)) = _
    rw [inV_strsQ k r, Bool.eq_iff_iff, Bool.or_eq_true, decide_eq_true_eq, decide_eq_true_eq, List.mem_cons, show eqV (V.str y) (.str k) = (y == k) from rfl, beq_iff_eq]
    exact or_congr_left eq_comm
theorem cutD_tl (d : PyData) (ds : List PyData) : cutD (d :: ds) (some 1) none = ds := by
  unfold cutD
  rw [show (some (1 : Int)) = some ((1 : Nat) : Int) from rfl, HT.sIx_nat, HT.sIx_none, List.length_cons, show min 1 (ds.length + 1) = 1 by omega]
  show ds.take (ds.length + 1 - 1) = ds
  simp
/-! the heads of documents -/
abbrev s_is_headed : Stmt := top 63
abbrev N_is_headed : List Str := ["value", "word", "many"]
theorem sc_is_headed : FnScope N_is_headed ["value", "word", "many"] (defScope s_is_headed) := ⟨rfl, rfl, rfl, by decide +kernel, rfl, by decide +kernel, by decide +kernel⟩
abbrev s_is_version : Stmt := top 64
abbrev N_is_version : List Str := ["value"]
theorem sc_is_version : FnScope N_is_version ["value"] (defScope s_is_version) := ⟨rfl, rfl, rfl, by decide +kernel, rfl, by decide +kernel, by decide +kernel⟩
abbrev s_is_amount : Stmt := top 55
abbrev N_is_amount : List Str := ["value"]
theorem sc_is_amount : FnScope N_is_amount ["value"] (defScope s_is_amount) := ⟨rfl, rfl, rfl, by decide +kernel, rfl, by decide +kernel, by decide +kernel⟩
def headB (w : Str) (n : Nat) (d : PyData) : Bool := tupB n n d && eqS w (ixD d 0)
def spHead : Sp := fun vs H Q _ => ∃ (v : V) (d : PyData) (w : Str) (n : Nat), vs = [v, .str w, .int n] ∧ Rq H v d ∧ 1 ≤ n ∧ Q (.bl (headB w n d)) H
def spNumP (lo : Int) : Sp := fun vs H Q _ => ∃ (v : V) (d : PyData), vs = [v] ∧ Rq H v d ∧ Q (.bl (numB lo 1000000000000 d)) H
structure DhC (mg : Str → Option Value) : Prop where
  c_MOST_NUMBER : ∃ t, mg "MOST_NUMBER" = some (.int 1000000000000 t)
section
variable {P : Program} {w : World} {K : PySem.W.Frag} {mg : Str → Option Value} {base : Heap} {f : Addr} {fd : FuncData}
theorem ok_headed (F : Fun K "_is_headed" "_is_headed" s_is_headed f fd) (B : Blt mg) (c_is_tuple_of : Cal P w K mg base CX0 1 "_is_tuple_of" spTOf) : FnOk P w K mg base CX0 2 f fd ["value", "word", "many"] spHead := by
  refine F.ok sc_is_headed (fun vs H Q E h => ?_) (fun cdv A outer s H vs Q E hr h => ?_)
  · obtain ⟨v, d, w, n, rfl, _⟩ := h; rfl
  obtain ⟨v, d, wd, n, rfl, hR, hn, q⟩ := h
  refine ⟨_, (pss_cons (ps_if (pt_not (pt_val (c_is_tuple_of.pe hr (pa_cons (pv 0) (pa_cons (pv 2) pa_nil))))) (pss_one (ps_ret pe_bl)) pss_nil)
    (pss_one (ps_ret (pe_and (B.isT (pe_ix ix_tM (pv 0) pe_int (fun _ _ => rfl)) B.v_str) (pe_one (pe_cmpR op_eq (pe_ix ix_tM (pv 0) pe_int (fun _ _ => rfl)) (pv 1) (nomark _))))))), ?_⟩
  walk_at "wp"
  refine ⟨v, d, n, rfl, hR, _, rfl, ?_⟩
  cases h1 : tupB n n d with
  | false =>
    rw [if_pos rfl]
    rw [show headB wd n d = false by unfold headB; rw [h1]; rfl] at q
    exact q
  | true =>
  obtain ⟨p, xs, ds, rfl, ep, rfl, r, l1, l2⟩ := tupB_of hR h1
  rw [if_neg (by decide)]
  obtain ⟨x0, e0, R0⟩ := r.ix (i := 0) (by omega)
  rw [show headB wd n (.tuple ds) = eqS wd (ds.getD 0 .none) by unfold headB; rw [h1, Bool.true_and]; rfl] at q
  refine ⟨p, rfl, _, ep, _, e0, _, R0.ty, ?_⟩
  generalize ds.getD 0 .none = d0 at R0 q
  cases R0 with
  | str z =>
    dsimp only [tyD]
    walk_at "wp"
    refine ⟨_, ep, _, e0, rfl, ?_⟩
    rw [show decide (V.str z = V.str wd) = eqS wd (.str z) from decide_eq_decide.mpr ⟨V.str.inj, congrArg _⟩]
    exact q
  | _ => dsimp only [tyD]; walk_at "wp"; exact q
theorem ok_version (F : Fun K "_is_version" "_is_version" s_is_version f fd) (B : Blt mg) (D : DhC mg) (c_is_integer : Cal P w K mg base CX0 1 "is_integer" spIntg) : FnOk P w K mg base CX0 2 f fd ["value"] (spNumP 1) := by
  refine F.ok sc_is_version (fun vs H Q E h => ?_) (fun cdv A outer s H vs Q E hr h => ?_)
  · obtain ⟨v, d, rfl, _⟩ := h; rfl
  obtain ⟨v, d, rfl, hR, q⟩ := h
  refine ⟨_, (pss_one (ps_ret (c_is_integer.pe hr (pa_cons (pv 0) (pa_cons pe_int (pa_cons (pe_cE D.c_MOST_NUMBER) pa_nil)))))), ?_⟩
  walk_at "wp"
  refine ⟨v, 1, 1000000000000, rfl, hR.tyx, ?_⟩
  rw [inV_rq hR]
  exact q
theorem ok_amount (F : Fun K "is_amount" "is_amount" s_is_amount f fd) (B : Blt mg) (D : DhC mg) (c_is_integer : Cal P w K mg base CX0 1 "is_integer" spIntg) : FnOk P w K mg base CX0 2 f fd ["value"] (spNumP 0) := by
  refine F.ok sc_is_amount (fun vs H Q E h => ?_) (fun cdv A outer s H vs Q E hr h => ?_)
  · obtain ⟨v, d, rfl, _⟩ := h; rfl
  obtain ⟨v, d, rfl, hR, q⟩ := h
  refine ⟨_, (pss_one (ps_ret (c_is_integer.pe hr (pa_cons (pv 0) (pa_cons pe_int (pa_cons (pe_cE D.c_MOST_NUMBER) pa_nil)))))), ?_⟩
  walk_at "wp"
  refine ⟨v, 0, 1000000000000, rfl, hR.tyx, ?_⟩
  rw [inV_rq hR]
  exact q
end
/-! amounts; [f(stream) for k in range(n)], f draws a value -/
theorem draw_rq {σ : St} {H0 : Hp} {R : VK} {ta : TA} {te : TE} {ks : Nat} {st : Addr} (Pn : Int → Hp → Prop) (Pd : PyData → Prop) (Pp : ∀ d, Pd d → purD d = true)
    (ha : ∀ R, (∀ n H, Pn n H → R [V.int n] H) → ta σ H0 R) (hP : ∀ n H, Pn n H → 0 ≤ n ∧ n ≤ 1000 ∧ Strm H st)
    (hw : ∀ x : V, wipe ((wipe σ [ks]).set ks (some x)) [ks] = wipe σ [ks])
    (he : ∀ (x : V) (H2 : Hp) (R : VK), Strm H2 st → (∀ (v : V) (d : PyData) (H3 : Hp), Rq H3 v d → Pd d → Kp [st] H2 H3 → Strm H3 st → R v H3) → te ((wipe σ [ks]).set ks (some x)) H2 R)
    (q : ∀ (n : Int) (H : Hp) (D : Addr) (vs : List V) (ds : List PyData) (H' : Hp), Pn n H → H' D = some (.lst vs) → RqA H' vs ds → ds.length = n.toNat → (∀ d ∈ ds, Pd d) → Kp [st] H H' → Strm H' st → H D = none → R (.ref D) H') :
    tLc (iRng1 ta) (gName ks) tYes te [ks] σ H0 R := by
  refine ha _ fun n H hn => ?_
  obtain ⟨n0, n1, hst⟩ := hP n H hn
  refine ⟨n, rfl, by omega, by omega, fun D hD => ?_⟩
  have lim : sizeLine = 16777216 := sizeLine_eq
  have nD : D ≠ st := by obtain ⟨a, b, e⟩ := hst; exact (ne_of_none e hD).symm
  refine lc_range (lo := 0) (n := n.toNat) (fun i H' => ∃ (vs : List V) (ds : List PyData), H' D = some (.lst vs) ∧ RqA H' vs ds ∧ ds.length = i ∧ (∀ c ∈ ds, Pd c) ∧ Kp [st] H H' ∧ Strm H' st)
    ⟨[], [], upd_same, .nil, rfl, fun c h => absurd h (by simp), Kp.new hD _, hst.kp (Kp.new hD _ : Kp [] _ _) (by simp)⟩ (fun i H2 hi ⟨cs, ds, hcD, hr, hcl, hca, k2, s2⟩ => ?_) (fun H2 ⟨cs, ds, hcD, hr, hcl, hca, k2, s2⟩ => ?_)
  · refine ⟨hw _, ?_⟩
    simp only [tYes, if_true]
    refine he _ _ _ s2 fun k d H3 rk pk k3 s3 => ?_
    have hcD3 := k3.keep D _ (by simpa using nD) hcD
    have lc := hr.len
    have kl : Kp [D] H3 (upd H3 D (.lst (cs ++ [k]))) := Kp.lst hcD3 (List.mem_singleton.mpr rfl)
    refine ⟨cs, hcD3, by omega, cs ++ [k], ds ++ [d], upd_same, ((hr.pure k3 (purDs_all.mpr fun x h => Pp x (hca x h))).pure kl (purDs_all.mpr fun x h => Pp x (hca x h))).app (.cons (rk.pure kl (Pp d pk)) .nil), by rw [List.length_append, hcl]; rfl, fun c h => ?_, (k2.trans k3).upd hD hcD3, ?_⟩
    · rcases List.mem_append.mp h with h | h
      · exact hca c h
      · rw [List.mem_singleton.mp h]; exact pk
    · obtain ⟨a, b, e⟩ := s3
      exact ⟨a, b, by rw [upd_ne (Ne.symm nD)]; exact e⟩
  · exact q n H D cs ds H2 hn hcD hr hcl hca k2 s2 hD
/-! [row[0] for row in a tuple]; [f(stream, k) for k in texts if ..] -/
theorem lc_nm {K : PySem.W.Frag} {σ : St} {H : Hp} {R : VK} {tl te : TE} {ks : Nat} {b : Addr} {xs : List V} {ds : List PyData} {nm : PyData → Str} (eb : H b = some (.tup xs)) (r : RqA H xs ds) (ln : ds.length ≤ 200000)
    (hl : ∀ R : VK, R (.ref b) H → tl σ H R) (hw : ∀ x : V, wipe ((wipe σ [ks]).set ks (some x)) [ks] = wipe σ [ks])
    (he : ∀ (x : V) (d : PyData) (H' : Hp) (R : VK), Rq H' x d → d ∈ ds → R (.str (nm d)) H' → te ((wipe σ [ks]).set ks (some x)) H' R)
    (q : ∀ (D : Addr) (Hx : Hp), Kp [] H Hx → Hx D = some (.lst ((ds.map nm).map V.str)) → H D = none → R (.ref D) Hx) :
    tLc (iTup K tl) (gName ks) tYes te [ks] σ H R := by
  refine hl _ ⟨b, rfl, ⟨xs, SqT.of eb⟩, fun D hD => ?_⟩
  have lim : sizeLine = 16777216 := sizeLine_eq
  refine lc_tup (K := K) (a := b) (xs := xs) (fun i Hx => Kp [] H Hx ∧ Hx D = some (.lst (((ds.take i).map nm).map V.str))) ⟨Kp.new hD _, upd_same⟩ (fun i Hx _ ⟨k, _⟩ => SqT.of (k.tup _ _ eb)) (fun i x Hx hx ⟨k4, a4⟩ => ?_) (fun Hx ⟨k4, a4⟩ => ?_)
  · obtain ⟨u, hu, Ru⟩ := r.get hx
    refine ⟨hw _, ?_⟩
    simp only [tYes, if_true]
    refine he x u _ _ (Ru.kp0 k4) (List.mem_of_getElem? hu) ⟨_, a4, by rw [List.length_map, List.length_map, List.length_take]; omega, Kp.upd k4 hD a4, ?_⟩
    rw [upd_same, List.take_add_one, hu]
    simp
  · rw [r.len, List.take_length] at a4
    exact q D Hx k4 a4 hD
/-! digests and entries -/
abbrev s_is_digest : Stmt := top 49
abbrev N_is_digest : List Str := ["value"]
theorem sc_is_digest : FnScope N_is_digest ["value"] (defScope s_is_digest) := ⟨rfl, rfl, rfl, by decide +kernel, rfl, by decide +kernel, by decide +kernel⟩
abbrev s_is_entry : Stmt := top 65
abbrev N_is_entry : List Str := ["value"]
theorem sc_is_entry : FnScope N_is_entry ["value"] (defScope s_is_entry) := ⟨rfl, rfl, rfl, by decide +kernel, rfl, by decide +kernel, by decide +kernel⟩
def hexM : Str := Str.ofString "0123456789abcdef"
def isDig : PyData → Bool
  | .str z => decide (z.length = 18) && inT hexM z
  | _ => false
def isEntry (d : PyData) : Bool := tupB 3 3 d && (numB 1 1000000000000 (ixD d 0) && (numB 0 1000000000000 (ixD d 1) && isDig (ixD d 2)))
structure DdC (mg : Str → Option Value) : Prop where
  c_DIGEST_LENGTH : ∃ t, mg "DIGEST_LENGTH" = some (.int 18 t)
  c_DIGEST_MARKS : ∃ t, mg "_DIGEST_MARKS" = some (.str "0123456789abcdef" t)
/-- all(p(x) for x in a text) -/
theorem all_chars {y : Str} {pb : Nat → Bool} {te : TE} {D : Ends} {H2 : Hp} {o : Option V} {cap : L2.St}
    (step : ∀ (c : Nat) (R : VK), R (.bl (pb c)) H2 → te (some (.str ⟨#[c]⟩) :: cap) H2 R)
    (qf : y.cps.toList.all pb = false → D.rt (.bl false) H2) (qt : ∀ σ, y.cps.toList.all pb = true → D.nx σ H2) :
    tForB (Its y) (gName 0) (tbAll tYes te) D (o :: cap) H2 := by
  refine for_it walk_str (fun i σ H' => H' = H2 ∧ (y.cps.toList.take i).all pb = true ∧ ∃ o : Option V, σ = o :: cap) ⟨rfl, rfl, _, rfl⟩ (fun _ _ _ _ _ => True.intro) (fun i x σ H1 H3 hi ⟨hH, ha, o, hσ⟩ ⟨h2, c, hc, hx⟩ => ?_) (fun σ H1 ⟨hH, ha, o, hσ⟩ => ?_)
  · subst hσ
    subst hx
    subst h2
    subst hH
    have hci : y.cps.toList[i]? = some c := by rw [Array.getElem?_toList]; exact hc
    unfold tbAll
    simp only [tYes, if_true, gName, List.set_cons_zero]
    refine step c _ ⟨_, rfl, ?_⟩
    cases hb : pb c with
    | true =>
      rw [if_pos rfl]
      exact ⟨rfl, by rw [List.take_add_one, hci, List.all_append, ha]; simp [hb], _, rfl⟩
    | false =>
      rw [if_neg (by decide)]
      exact qf (List.all_eq_false.mpr ⟨c, List.mem_of_getElem? hci, by rw [hb]; decide⟩)
  · subst hH
    rw [List.take_of_length_le (by rw [Array.length_toList]; exact Nat.le_refl _)] at ha
    exact qt _ ha
section
variable {P : Program} {w : World} {K : PySem.W.Frag} {mg : Str → Option Value} {base : Heap} {f : Addr} {fd : FuncData}
theorem ok_digestD {oc kV doc pm ct : Value} {od an : Option Addr} {osl : Array (Option Value)} {c Pt : Addr} {Ts : List Addr} (B : Blt mg) (TB : GxR.TabB base mg c Pt) (D : DdC mg) (mt : Pt ∈ Ts)
    (lk : K.lookup f = some ⟨oc, od, .func (PySem.W.fnOf "is_digest" "is_digest" (defArgs s_is_digest) (defBody s_is_digest) (defScope s_is_digest) .none kV doc pm an (.ref c) ct), osl⟩) (hcd : PySem.W.codeIn K (.ref c) "is_digest" = true) :
    FnOk P w K mg base CX0 3 f (PySem.W.fnOf "is_digest" "is_digest" (defArgs s_is_digest) (defBody s_is_digest) (defScope s_is_digest) .none kV doc pm an (.ref c) ct) ["value"] (spDoc isDig Ts) := by
  refine fn_of lk hcd sc_is_digest (fun vs H Q E h => ?_) (fun A outer s H vs Q E hr h => ?_)
  · obtain ⟨v, d, rfl, _⟩ := h; rfl
  obtain ⟨v, d, rfl, hR, ho, hG, q⟩ := h
  refine ⟨_, PSs.nox (pss_cons (ps_if (PW.pt (pw_or (pt_not (pt_val (B.isT (pv 0) B.v_str))) (pw_or1 (pt_cmpR op_ne (B.len_s (pa_cons (pv 0) pa_nil)) (pe_cE D.c_DIGEST_LENGTH) (nomark _))))) (pss_one (ps_ret pe_bl)) pss_nil)
    (pss_one (ps_ret (pe_allG (N := ["mark"]) (nt := 1) (fr := []) rfl hr B TB rfl (gnOf (by decide +kernel)) (by show freeOk _ (defScope s_is_digest) = true; decide +kernel) (by show capOk _ _ _ N_is_digest _ (defScope s_is_digest) = true; decide +kernel)
      (pi_str (pv 0)) (fun _ _ _ _ _ hr => (pg_name (i := 0) (by show List.Nodup (["mark"] : List Str); decide +kernel) rfl (Or.inl rfl))) (fun _ _ _ _ _ hr => pts_nil) (fun _ _ _ _ _ hr => (pe_cmpR op_in_sign (pv 0) (pe_cSE D.c_DIGEST_MARKS) (by rfl))) (fun _ => rfl))))), ?_⟩
  walk_at "wp"
  refine ⟨_, hR.ty, ?_⟩
  have q0 := q H (Kp.refl _ _) hG
  cases hR with
  | str z =>
    have lz := (okD_str.mp ho).1
    have lim : sizeLine = 16777216 := sizeLine_eq
    dsimp only [tyD]
    walk_at "wp"
    refine ⟨by omega, ?_⟩
    have q1 : ∀ H', Kp Ts H H' → Tabs Ts H' → Q (.bl (decide (z.length = 18) && inT hexM z)) H' := q
    split
    · rename_i c1
      have y := q1 H (Kp.refl _ _) hG
      rw [decide_eq_false (by omega), Bool.false_and] at y
      exact y
    · rename_i c1
      rw [decide_eq_true (show z.length = 18 by omega)] at q1
      refine ⟨_, rfl, z, rfl, hG _ mt, fun H2 hT => ?_⟩
      have g2 := hG.tab hT mt
      have k2 : Kp Ts H H2 := Kp.tab (hG _ mt) hT mt
      have y := q1 H2 k2 g2
      rw [Bool.true_and] at y
      refine all_chars (o := none) (cap := []) (pb := fun c => decide (c ∈ hexM.cps.toList)) (fun c R h => ⟨_, rfl, c, rfl, _, rfl, h⟩) (fun h => ?_) (fun σ h => ?_)
      · rw [show inT hexM z = false from h] at y; exact y
      · rw [show inT hexM z = true from h] at y; exact y
  | _ => dsimp only [tyD]; walk_at "wp"; exact q0
theorem ok_entry {Ts : List Addr} (F : Fun K "_is_entry" "_is_entry" s_is_entry f fd) (B : Blt mg) (c_is_tuple_of : Cal P w K mg base CX0 1 "_is_tuple_of" spTOf) (c_is_version : Cal P w K mg base CX0 2 "_is_version" (spNumP 1)) (c_is_amount : Cal P w K mg base CX0 2 "is_amount" (spNumP 0)) (c_is_digest : Cal P w K mg base CX0 3 "is_digest" (spDoc isDig Ts)) : FnOk P w K mg base CX0 4 f fd ["value"] (spDoc isEntry Ts) := by
  refine F.ok sc_is_entry (fun vs H Q E h => ?_) (fun cdv A outer s H vs Q E hr h => ?_)
  · obtain ⟨v, d, rfl, _⟩ := h; rfl
  obtain ⟨v, d, rfl, hR, ho, hG, q⟩ := h
  refine ⟨_, (pss_one (ps_ret (pe_and (c_is_tuple_of.pe hr (pa_cons (pv 0) (pa_cons pe_int pa_nil))) (pe_and (c_is_version.pe hr (pa_cons (pe_ix ix_tM (pv 0) pe_int (fun _ _ => rfl)) pa_nil)) (pe_and (c_is_amount.pe hr (pa_cons (pe_ix ix_tM (pv 0) pe_int (fun _ _ => rfl)) pa_nil)) (pe_one (c_is_digest.pe hr (pa_cons (pe_ix ix_tM (pv 0) pe_int (fun _ _ => rfl)) pa_nil)))))))), ?_⟩
  walk_at "wp"
  have off : isEntry d = false → Q (.bl false) H := fun h => by have y := q H (Kp.refl _ _) hG; rw [h] at y; exact y
  refine ⟨v, d, 3, rfl, hR, _, rfl, ?_⟩
  cases h1 : tupB 3 3 d with
  | false =>
    rw [if_neg (by decide)]
    exact off (by unfold isEntry; rw [h1]; rfl)
  | true =>
  obtain ⟨p, xs, ds, rfl, ep, rfl, r, l1, l2⟩ := tupB_of hR h1
  obtain ⟨x0, x1, x2, d0, d1, d2, rfl, rfl, R0, R1, R2⟩ := rq3 r (by omega)
  rw [if_pos rfl]
  obtain ⟨o1, o2⟩ := okD_tup.mp ho
  have e1 : isEntry (.tuple [d0, d1, d2]) = (numB 1 1000000000000 d0 && (numB 0 1000000000000 d1 && isDig d2)) := rfl
  rw [e1] at off q
  refine ⟨p, rfl, _, ep, _, rfl, x0, d0, rfl, R0, _, rfl, ?_⟩
  cases h2 : numB 1 1000000000000 d0 with
  | false =>
    rw [if_neg (by decide)]
    exact off (by rw [h2]; rfl)
  | true =>
  rw [if_pos rfl]
  rw [h2, Bool.true_and] at off q
  refine ⟨p, rfl, _, ep, _, rfl, x1, d1, rfl, R1, _, rfl, ?_⟩
  cases h3 : numB 0 1000000000000 d1 with
  | false =>
    rw [if_neg (by decide)]
    exact off (by rw [h3]; rfl)
  | true =>
  rw [if_pos rfl]
  rw [h3, Bool.true_and] at q
  exact ⟨p, rfl, _, ep, _, rfl, x2, d2, rfl, R2, ok_mono _ 12 d2 (by decide) (o2 d2 (by simp)), hG, q⟩
end
/-! paths that a law draws, and what it asks of them -/
def paD (m : Str) : PyData → Bool
  | .str z => hpS m z
  | _ => false
theorem paD_of {m : Str} {H : Hp} {v : V} {d : PyData} (r : Rq H v d) : hpV m v = paD m d := by cases r <;> rfl
/-! grants -/
abbrev s_is_grant : Stmt := top 50
abbrev N_is_grant : List Str := ["value", "name", "role", "patterns", "last"]
theorem sc_is_grant : FnScope N_is_grant ["value"] (defScope s_is_grant) := ⟨rfl, rfl, rfl, by decide +kernel, rfl, by decide +kernel, by decide +kernel⟩
def isGrant (d : PyData) : Bool := tupB 4 4 d && (lnD (ixD d 0) && (!eqS (Str.ofString "list") (ixD d 0) && (isRole (ixD d 1) && (tupB 1 8 (ixD d 2) && ((itD (ixD d 2)).all (paD ptM) && numB 0 1 (ixD d 3))))))
def nmG (d : PyData) : Str := strD (ixD d 0)
structure DgrC (mg : Str → Option Value) : Prop where
  c_MOST_PATTERNS : ∃ t, mg "_MOST_PATTERNS" = some (.int 8 t)
  c_TOP_LIST : ∃ t, mg "TOP_LIST" = some (.str "list" t)
theorem isGrant_of {H : Hp} {v : V} {d : PyData} (r : Rq H v d) (h : isGrant d = true) : ∃ (p : Addr) (xs : List V) (z : Str) (es : List PyData), v = .ref p ∧ H p = some (.tup (.str z :: xs)) ∧ d = .tuple (.str z :: es) ∧ RqA H xs es ∧ lnS z = true ∧ z ≠ Str.ofString "list" ∧ es.length = 3 := by
  unfold isGrant at h
  simp only [Bool.and_eq_true, Bool.not_eq_true'] at h
  obtain ⟨h1, h2, h3, _⟩ := h
  obtain ⟨p, xs, ds, rfl, ep, rfl, rr, l1, l2⟩ := tupB_of r h1
  cases rr with
  | nil => exact absurd l1 (by decide)
  | @cons v vs d ds a b =>
    have h2 : lnD d = true := h2
    have h3 : eqS (Str.ofString "list") d = false := h3
    cases a with
    | str z => exact ⟨p, vs, z, ds, rfl, ep, rfl, b, h2, of_decide_eq_false h3, by rw [List.length_cons] at l1 l2; omega⟩
    | _ => cases h2
section
variable {P : Program} {w : World} {K : PySem.W.Frag} {mg : Str → Option Value} {base : Heap} {f : Addr} {fd : FuncData}
theorem ok_grant {oc kV doc pm ct : Value} {od an : Option Addr} {osl : Array (Option Value)} {c Pt Pc : Addr} {Ts : List Addr} (B : Blt mg) (TB : GxR.TabB base mg c Pt) (D : DgrC mg) (mt : Pt ∈ Ts) (mc : Pc ∈ Ts)
    (lk : K.lookup f = some ⟨oc, od, .func (PySem.W.fnOf "is_grant" "is_grant" (defArgs s_is_grant) (defBody s_is_grant) (defScope s_is_grant) .none kV doc pm an (.ref c) ct), osl⟩) (hcd : PySem.W.codeIn K (.ref c) "is_grant" = true)
    (c_is_tuple_of : Cal P w K mg base CX0 1 "_is_tuple_of" spTOf) (c_is_tuple_within : Cal P w K mg base CX0 1 "_is_tuple_within" spTIn) (c_is_list_name : Cal P w K mg base CX0 4 "is_list_name" (spNm lnV Pc)) (c_is_role : Cal P w K mg base CX0 8 "is_role" (spDoc isRole Ts)) (c_is_pattern : Cal P w K mg base CX0 7 "is_pattern" (spPa ptM Ts)) (c_is_integer : Cal P w K mg base CX0 1 "is_integer" spIntg) :
    FnOk P w K mg base CX0 11 f (PySem.W.fnOf "is_grant" "is_grant" (defArgs s_is_grant) (defBody s_is_grant) (defScope s_is_grant) .none kV doc pm an (.ref c) ct) ["value"] (spDoc isGrant Ts) := by
  refine fn_of lk hcd sc_is_grant (fun vs H Q E h => ?_) (fun A outer s H vs Q E hr h => ?_)
  · obtain ⟨v, d, rfl, _⟩ := h; rfl
  obtain ⟨v, d, rfl, hR, ho, hG, q⟩ := h
  refine ⟨_, PSs.nox (pss_cons (ps_if (pt_not (pt_val (c_is_tuple_of.pe hr (pa_cons (pv 0) (pa_cons pe_int pa_nil))))) (pss_one (ps_ret pe_bl)) pss_nil)
    (pss_cons (ps_asg (pv 0) (pg_tup rfl (pgs_cons (pg_name (i := 1) sc_is_grant.nd rfl (Or.inl rfl)) (pgs_cons (pg_name (i := 2) sc_is_grant.nd rfl (Or.inl rfl)) (pgs_cons (pg_name (i := 3) sc_is_grant.nd rfl (Or.inl rfl)) (pgs_cons (pg_name (i := 4) sc_is_grant.nd rfl (Or.inl rfl)) pgs_nil))))))
    (pss_cons (ps_if (PW.pt (pw_or (pt_not (pt_val (c_is_list_name.pe hr (pa_cons (pv 1) pa_nil)))) (pw_or (pt_cmpR op_eq (pv 1) (pe_cSE D.c_TOP_LIST) (nomark _)) (pw_or1 (pt_not (pt_val (c_is_role.pe hr (pa_cons (pv 2) pa_nil)))))))) (pss_one (ps_ret pe_bl)) pss_nil)
    (pss_cons (ps_if (PW.pt (pw_or (pt_not (pt_val (c_is_tuple_within.pe hr (pa_cons (pv 3) (pa_cons pe_int (pa_cons (pe_cE D.c_MOST_PATTERNS) pa_nil)))))) (pw_or1 (pt_not (pt_val (pe_allG (N := ["pattern"]) (nt := 1) (fr := []) rfl hr B TB rfl (gnOf (by decide +kernel)) (by show freeOk _ (defScope s_is_grant) = true; decide +kernel) (by show capOk _ _ _ N_is_grant _ (defScope s_is_grant) = true; decide +kernel)
      (pi_tup (pv 3)) (fun _ _ _ _ _ hr => (pg_name (i := 0) (by show List.Nodup (["pattern"] : List Str); decide +kernel) rfl (Or.inl rfl))) (fun _ _ _ _ _ hr => pts_nil) (fun _ _ _ _ _ hr => (c_is_pattern.pe hr (pa_cons (pv 0) pa_nil))) (fun _ => rfl))))))) (pss_one (ps_ret pe_bl)) pss_nil)
    (pss_one (ps_ret (c_is_integer.pe hr (pa_cons (pv 4) (pa_cons pe_int (pa_cons pe_int pa_nil)))))))))), ?_⟩
  walk_at "wp"
  have off : isGrant d = false → ∀ H', Kp Ts H H' → Tabs Ts H' → Q (.bl false) H' := fun h H' k g => by have y := q H' k g; rw [h] at y; exact y
  refine ⟨v, d, 4, rfl, hR, _, rfl, ?_⟩
  cases h1 : tupB 4 4 d with
  | false =>
    rw [if_pos rfl]
    exact off (by unfold isGrant; rw [h1]; rfl) H (Kp.refl _ _) hG
  | true =>
  rw [if_neg (by decide)]
  obtain ⟨p, xs, ds, rfl, ep, rfl, r, l1, l2⟩ := tupB_of hR h1
  obtain ⟨x0, x1, x2, x3, d0, d1, d2, d3, rfl, rfl, R0, R1, R2, R3⟩ := rq4 r (by omega)
  obtain ⟨o1, o2⟩ := okD_tup.mp ho
  have e1 : isGrant (.tuple [d0, d1, d2, d3]) = (lnD d0 && (!eqS (Str.ofString "list") d0 && (isRole d1 && (tupB 1 8 d2 && ((itD d2).all (paD ptM) && numB 0 1 d3))))) := rfl
  rw [e1] at off q
  refine ⟨p, _, rfl, SqT.of ep, rfl, x0, _, rfl, x1, _, rfl, x2, _, rfl, x3, _, rfl, rfl, ?_⟩
  walk_at "wp"
  refine ⟨x0, rfl, hG _ mc, R0.tyx, ok_szV R0 (o2 d0 (by simp)), fun H1 k1 g1 => ⟨_, rfl, ?_⟩⟩
  rw [lnD_of R0]
  have K1 := k1.in1 mc
  have G1 := hG.kp1 k1 g1
  cases h2 : lnD d0 with
  | false =>
    rw [if_pos rfl]
    exact off (by rw [h2]; rfl) _ K1 G1
  | true =>
  rw [if_neg (by decide)]
  rw [h2, Bool.true_and] at off q
  obtain ⟨z, rfl, rfl⟩ : ∃ z, x0 = .str z ∧ d0 = .str z := isS_of R0 (by cases d0 <;> first | rfl | cases h2)
  refine ⟨rfl, ?_⟩
  split
  · rename_i c1
    exact off (by rw [show eqS (Str.ofString "list") (.str z) = true from decide_eq_true (V.str.inj c1)]; rfl) _ K1 G1
  rename_i c1
  rw [show eqS (Str.ofString "list") (.str z) = false from decide_eq_false (fun h => c1 (congrArg _ h)), Bool.not_false, Bool.true_and] at off q
  refine ⟨x1, d1, rfl, R1.tabs K1 hG, ok_mono _ 12 d1 (by decide) (o2 d1 (by simp)), G1, fun H2 k2 g2 => ⟨_, rfl, ?_⟩⟩
  have K2 := K1.trans k2
  cases h3 : isRole d1 with
  | false =>
    rw [if_pos rfl]
    exact off (by rw [h3]; rfl) _ K2 g2
  | true =>
  rw [if_neg (by decide)]
  rw [h3, Bool.true_and] at off q
  refine ⟨x2, d2, 1, 8, rfl, R2.tabs K2 hG, _, rfl, ?_⟩
  cases h4 : tupB 1 8 d2 with
  | false =>
    rw [if_pos rfl]
    exact off (by rw [h4]; rfl) _ K2 g2
  | true =>
  rw [if_neg (by decide)]
  obtain ⟨b, ys, es, rfl, eb, rfl, rr, l3, l4⟩ := tupB_of R2 h4
  rw [h4, Bool.true_and, show itD (.tuple es) = es from rfl] at off q
  obtain ⟨o3, o4⟩ := okD_tup.mp (o2 (.tuple es) (by simp))
  have e3 := K2.get hG eb
  refine ⟨_, rfl, b, rfl, ⟨ys, SqT.of e3⟩, g2 _ mt, fun H3 hT => ?_⟩
  have g3 := g2.tab hT mt
  have k3 : Kp Ts H2 H3 := Kp.tab (g2 _ mt) hT mt
  have K3 := K2.trans k3
  refine all_rq (K := K) (o := none) (cap := []) (f := paD ptM) (k3.get g2 e3) ((rr.tabs K2 hG).tabs k3 g2) g3 (fun x d H' R hx md k4 g4 hq => ?_) (fun H4 k4 g4 h5 => ?_) (fun σ H4 k4 g4 h5 => ?_)
  · exact ⟨x, rfl, x, rfl, g4, hx.tyx, ok_szV hx (o4 d md), fun H5 k5 g5 => by rw [paD_of hx]; exact hq H5 k5 g5⟩
  · refine ⟨_, rfl, ?_⟩
    rw [if_pos rfl]
    exact off (by rw [h5]; rfl) _ (K3.trans k4) g4
  · refine ⟨_, rfl, ?_⟩
    rw [if_neg (by decide)]
    rw [h5, Bool.true_and] at q
    refine ⟨x3, 0, 1, rfl, (R3.tabs (K3.trans k4) hG).tyx, ?_⟩
    rw [inV_rq R3]
    exact q _ (K3.trans k4) g4
end
/-! charters -/
abbrev s_is_charter : Stmt := top 51
abbrev N_is_charter : List Str := ["value", "_", "version", "expires", "roles"]
theorem sc_is_charter : FnScope N_is_charter ["value"] (defScope s_is_charter) := ⟨rfl, rfl, rfl, by decide +kernel, rfl, by decide +kernel, by decide +kernel⟩
def isCharter (d : PyData) : Bool := headB (Str.ofString "charter") 4 d && (numB 1 1000000000000 (ixD d 1) && (numB 0 1000000000000 (ixD d 2) && (tupB 4 4 (ixD d 3) && (itD (ixD d 3)).all isRole)))
structure DchC (mg : Str → Option Value) : Prop where
  c_ROLES : ∃ t, mg "_ROLES" = some (.int 4 t)
section
variable {P : Program} {w : World} {K : PySem.W.Frag} {mg : Str → Option Value} {base : Heap} {f : Addr} {fd : FuncData}
theorem ok_charter {oc kV doc pm ct : Value} {od an : Option Addr} {osl : Array (Option Value)} {c Pt : Addr} {Ts : List Addr} (B : Blt mg) (TB : GxR.TabB base mg c Pt) (D : DchC mg) (mt : Pt ∈ Ts)
    (lk : K.lookup f = some ⟨oc, od, .func (PySem.W.fnOf "is_charter" "is_charter" (defArgs s_is_charter) (defBody s_is_charter) (defScope s_is_charter) .none kV doc pm an (.ref c) ct), osl⟩) (hcd : PySem.W.codeIn K (.ref c) "is_charter" = true)
    (c_is_headed : Cal P w K mg base CX0 2 "_is_headed" spHead) (c_is_version : Cal P w K mg base CX0 2 "_is_version" (spNumP 1)) (c_is_amount : Cal P w K mg base CX0 2 "is_amount" (spNumP 0)) (c_is_tuple_of : Cal P w K mg base CX0 1 "_is_tuple_of" spTOf) (c_is_role : Cal P w K mg base CX0 8 "is_role" (spDoc isRole Ts)) :
    FnOk P w K mg base CX0 12 f (PySem.W.fnOf "is_charter" "is_charter" (defArgs s_is_charter) (defBody s_is_charter) (defScope s_is_charter) .none kV doc pm an (.ref c) ct) ["value"] (spDoc isCharter Ts) := by
  refine fn_of lk hcd sc_is_charter (fun vs H Q E h => ?_) (fun A outer s H vs Q E hr h => ?_)
  · obtain ⟨v, d, rfl, _⟩ := h; rfl
  obtain ⟨v, d, rfl, hR, ho, hG, q⟩ := h
  refine ⟨_, PSs.nox (pss_cons (ps_if (pt_not (pt_val (c_is_headed.pe hr (pa_cons (pv 0) (pa_cons pe_str (pa_cons pe_int pa_nil)))))) (pss_one (ps_ret pe_bl)) pss_nil)
    (pss_cons (ps_asg (pv 0) (pg_tup rfl (pgs_cons (pg_name (i := 1) sc_is_charter.nd rfl (Or.inl rfl)) (pgs_cons (pg_name (i := 2) sc_is_charter.nd rfl (Or.inl rfl)) (pgs_cons (pg_name (i := 3) sc_is_charter.nd rfl (Or.inl rfl)) (pgs_cons (pg_name (i := 4) sc_is_charter.nd rfl (Or.inl rfl)) pgs_nil))))))
    (pss_cons (ps_if (PW.pt (pw_or (pt_not (pt_val (c_is_version.pe hr (pa_cons (pv 2) pa_nil)))) (pw_or1 (pt_not (pt_val (c_is_amount.pe hr (pa_cons (pv 3) pa_nil))))))) (pss_one (ps_ret pe_bl)) pss_nil)
    (pss_one (ps_ret (pe_and (c_is_tuple_of.pe hr (pa_cons (pv 4) (pa_cons (pe_cE D.c_ROLES) pa_nil))) (pe_one (pe_allG (N := ["role"]) (nt := 1) (fr := []) rfl hr B TB rfl (gnOf (by decide +kernel)) (by show freeOk _ (defScope s_is_charter) = true; decide +kernel) (by show capOk _ _ _ N_is_charter _ (defScope s_is_charter) = true; decide +kernel)
      (pi_tup (pv 4)) (fun _ _ _ _ _ hr => (pg_name (i := 0) (by show List.Nodup (["role"] : List Str); decide +kernel) rfl (Or.inl rfl))) (fun _ _ _ _ _ hr => pts_nil) (fun _ _ _ _ _ hr => (c_is_role.pe hr (pa_cons (pv 0) pa_nil))) (fun _ => rfl))))))))), ?_⟩
  walk_at "wp"
  have off : isCharter d = false → ∀ H', Kp Ts H H' → Tabs Ts H' → Q (.bl false) H' := fun h H' k g => by have y := q H' k g; rw [h] at y; exact y
  refine ⟨v, d, _, 4, rfl, hR, by decide, _, rfl, ?_⟩
  cases h1 : headB (Str.ofString "charter") 4 d with
  | false =>
    rw [if_pos rfl]
    exact off (by unfold isCharter; rw [h1]; rfl) H (Kp.refl _ _) hG
  | true =>
  rw [if_neg (by decide)]
  have h1' := h1
  unfold headB at h1'
  rw [Bool.and_eq_true] at h1'
  obtain ⟨p, xs, ds, rfl, ep, rfl, r, l1, l2⟩ := tupB_of hR h1'.1
  obtain ⟨x0, x1, x2, x3, d0, d1, d2, d3, rfl, rfl, R0, R1, R2, R3⟩ := rq4 r (by omega)
  obtain ⟨o1, o2⟩ := okD_tup.mp ho
  have e1 : isCharter (.tuple [d0, d1, d2, d3]) = (headB (Str.ofString "charter") 4 (.tuple [d0, d1, d2, d3]) && (numB 1 1000000000000 d1 && (numB 0 1000000000000 d2 && (tupB 4 4 d3 && (itD d3).all isRole)))) := rfl
  rw [h1, Bool.true_and] at e1
  rw [e1] at off q
  refine ⟨p, _, rfl, SqT.of ep, rfl, x0, _, rfl, x1, _, rfl, x2, _, rfl, x3, _, rfl, rfl, ?_⟩
  walk_at "wp"
  refine ⟨x1, d1, rfl, R1, _, rfl, ?_⟩
  cases h2 : numB 1 1000000000000 d1 with
  | false =>
    rw [if_pos rfl]
    exact off (by rw [h2]; rfl) H (Kp.refl _ _) hG
  | true =>
  rw [if_neg (by decide)]
  rw [h2, Bool.true_and] at off q
  refine ⟨x2, d2, rfl, R2, _, rfl, ?_⟩
  cases h3 : numB 0 1000000000000 d2 with
  | false =>
    rw [if_pos rfl]
    exact off (by rw [h3]; rfl) H (Kp.refl _ _) hG
  | true =>
  rw [if_neg (by decide)]
  rw [h3, Bool.true_and] at off q
  refine ⟨x3, d3, 4, rfl, R3, _, rfl, ?_⟩
  cases h4 : tupB 4 4 d3 with
  | false =>
    rw [if_neg (by decide)]
    exact off (by rw [h4]; rfl) H (Kp.refl _ _) hG
  | true =>
  rw [if_pos rfl]
  obtain ⟨b, ys, es, rfl, eb, rfl, rr, l3, l4⟩ := tupB_of R3 h4
  rw [h4, Bool.true_and, show itD (.tuple es) = es from rfl] at off q
  obtain ⟨o3, o4⟩ := okD_tup.mp (o2 (.tuple es) (by simp))
  refine ⟨_, rfl, b, rfl, ⟨ys, SqT.of eb⟩, hG _ mt, fun H2 hT => ?_⟩
  have g2 := hG.tab hT mt
  have k2 : Kp Ts H H2 := Kp.tab (hG _ mt) hT mt
  refine all_rq (K := K) (o := none) (cap := []) (f := isRole) (k2.get hG eb) (rr.tabs k2 hG) g2 (fun x d H' R hx md k3 g3 hq => ?_) (fun H3 k3 g3 h3 => ?_) (fun σ H3 k3 g3 h3 => ?_)
  · exact ⟨x, rfl, x, d, rfl, hx, ok_mono _ 12 d (by decide) (o4 d md), g3, hq⟩
  · exact off h3 H3 (k2.trans k3) g3
  · have y := q H3 (k2.trans k3) g3
    rw [h3] at y; exact y
end
/-! charters that a law draws, and what it asks of them -/
/-! stamps -/
abbrev s_is_stamp : Stmt := top 52
abbrev N_is_stamp : List Str := ["value", "_", "version", "expires", "shelf"]
theorem sc_is_stamp : FnScope N_is_stamp ["value"] (defScope s_is_stamp) := ⟨rfl, rfl, rfl, by decide +kernel, rfl, by decide +kernel, by decide +kernel⟩
def isStamp (d : PyData) : Bool := headB (Str.ofString "stamp") 4 d && (numB 1 1000000000000 (ixD d 1) && (numB 0 1000000000000 (ixD d 2) && isEntry (ixD d 3)))
section
variable {P : Program} {w : World} {K : PySem.W.Frag} {mg : Str → Option Value} {base : Heap} {f : Addr} {fd : FuncData}
theorem ok_stamp {Ts : List Addr} (F : Fun K "is_stamp" "is_stamp" s_is_stamp f fd) (B : Blt mg)
    (c_is_headed : Cal P w K mg base CX0 2 "_is_headed" spHead) (c_is_version : Cal P w K mg base CX0 2 "_is_version" (spNumP 1)) (c_is_amount : Cal P w K mg base CX0 2 "is_amount" (spNumP 0)) (c_is_entry : Cal P w K mg base CX0 4 "_is_entry" (spDoc isEntry Ts)) :
    FnOk P w K mg base CX0 12 f fd ["value"] (spDoc isStamp Ts) := by
  refine F.ok sc_is_stamp (fun vs H Q E h => ?_) (fun cdv A outer s H vs Q E hr h => ?_)
  · obtain ⟨v, d, rfl, _⟩ := h; rfl
  obtain ⟨v, d, rfl, hR, ho, hG, q⟩ := h
  refine ⟨_, (pss_cons (ps_if (pt_not (pt_val (c_is_headed.pe hr (pa_cons (pv 0) (pa_cons pe_str (pa_cons pe_int pa_nil)))))) (pss_one (ps_ret pe_bl)) pss_nil)
    (pss_cons (ps_asg (pv 0) (pg_tup rfl (pgs_cons (pg_name (i := 1) sc_is_stamp.nd rfl (Or.inl rfl)) (pgs_cons (pg_name (i := 2) sc_is_stamp.nd rfl (Or.inl rfl)) (pgs_cons (pg_name (i := 3) sc_is_stamp.nd rfl (Or.inl rfl)) (pgs_cons (pg_name (i := 4) sc_is_stamp.nd rfl (Or.inl rfl)) pgs_nil))))))
    (pss_one (ps_ret (pe_and (c_is_version.pe hr (pa_cons (pv 2) pa_nil)) (pe_and (c_is_amount.pe hr (pa_cons (pv 3) pa_nil)) (pe_one (c_is_entry.pe hr (pa_cons (pv 4) pa_nil))))))))), ?_⟩
  walk_at "wp"
  have off : isStamp d = false → Q (.bl false) H := fun h => by have y := q H (Kp.refl _ _) hG; rw [h] at y; exact y
  refine ⟨v, d, _, 4, rfl, hR, by decide, _, rfl, ?_⟩
  cases h1 : headB (Str.ofString "stamp") 4 d with
  | false =>
    rw [if_pos rfl]
    exact off (by unfold isStamp; rw [h1]; rfl)
  | true =>
  rw [if_neg (by decide)]
  have h1' := h1
  unfold headB at h1'
  rw [Bool.and_eq_true] at h1'
  obtain ⟨p, xs, ds, rfl, ep, rfl, r, l1, l2⟩ := tupB_of hR h1'.1
  obtain ⟨x0, x1, x2, x3, d0, d1, d2, d3, rfl, rfl, R0, R1, R2, R3⟩ := rq4 r (by omega)
  obtain ⟨o1, o2⟩ := okD_tup.mp ho
  have e1 : isStamp (.tuple [d0, d1, d2, d3]) = (headB (Str.ofString "stamp") 4 (.tuple [d0, d1, d2, d3]) && (numB 1 1000000000000 d1 && (numB 0 1000000000000 d2 && isEntry d3))) := rfl
  rw [h1, Bool.true_and] at e1
  rw [e1] at off q
  refine ⟨p, _, rfl, SqT.of ep, rfl, x0, _, rfl, x1, _, rfl, x2, _, rfl, x3, _, rfl, rfl, ?_⟩
  walk_at "wp"
  refine ⟨x1, d1, rfl, R1, _, rfl, ?_⟩
  cases h2 : numB 1 1000000000000 d1 with
  | false =>
    rw [if_neg (by decide)]
    exact off (by rw [h2]; rfl)
  | true =>
  rw [if_pos rfl]
  rw [h2, Bool.true_and] at off q
  refine ⟨x2, d2, rfl, R2, _, rfl, ?_⟩
  cases h3 : numB 0 1000000000000 d2 with
  | false =>
    rw [if_neg (by decide)]
    exact off (by rw [h3]; rfl)
  | true =>
  rw [if_pos rfl]
  rw [h3, Bool.true_and] at off q
  exact ⟨x3, d3, rfl, R3, ok_mono _ 12 d3 (by decide) (o2 d3 (by simp)), hG, q⟩
end
/-! shelves -/
abbrev s_is_named_entry : Stmt := top 66
abbrev N_is_named_entry : List Str := ["value"]
theorem sc_is_named_entry : FnScope N_is_named_entry ["value"] (defScope s_is_named_entry) := ⟨rfl, rfl, rfl, by decide +kernel, rfl, by decide +kernel, by decide +kernel⟩
abbrev s_is_shelf : Stmt := top 53
abbrev N_is_shelf : List Str := ["value", "_", "version", "expires", "lists", "names", "row"]
theorem sc_is_shelf : FnScope N_is_shelf ["value"] (defScope s_is_shelf) := ⟨rfl, rfl, rfl, by decide +kernel, rfl, by decide +kernel, by decide +kernel⟩
def isNE (d : PyData) : Bool := tupB 4 4 d && (lnD (ixD d 0) && isEntry (.tuple ((itD d).drop 1)))
def nmD (d : PyData) : Str := strD (ixD d 0)
def isShelf (d : PyData) : Bool := headB (Str.ofString "shelf") 4 d && (numB 1 1000000000000 (ixD d 1) && (numB 0 1000000000000 (ixD d 2) && (tupB 1 32 (ixD d 3) && ((itD (ixD d 3)).all isNE && (asc ((itD (ixD d 3)).map nmD) && decide (Str.ofString "list" ∈ (itD (ixD d 3)).map nmD))))))
structure DshC (mg : Str → Option Value) : Prop where
  c_MOST_LISTS : ∃ t, mg "MOST_LISTS" = some (.int 32 t)
  c_TOP_LIST : ∃ t, mg "TOP_LIST" = some (.str "list" t)
theorem isNE_of {H : Hp} {v : V} {d : PyData} (r : Rq H v d) (h : isNE d = true) : ∃ (p : Addr) (xs : List V) (z : Str) (es : List PyData), v = .ref p ∧ H p = some (.tup (.str z :: xs)) ∧ d = .tuple (.str z :: es) ∧ RqA H xs es ∧ lnS z = true := by
  unfold isNE at h
  rw [Bool.and_eq_true, Bool.and_eq_true] at h
  obtain ⟨h1, h2, _⟩ := h
  obtain ⟨p, xs, ds, rfl, ep, rfl, rr, l1, l2⟩ := tupB_of r h1
  cases rr with
  | nil => exact absurd l1 (by decide)
  | @cons v vs d ds a b =>
    have h2 : lnD d = true := h2
    cases a with
    | str z => exact ⟨p, vs, z, ds, rfl, ep, rfl, b, h2⟩
    | _ => cases h2
section
variable {P : Program} {w : World} {K : PySem.W.Frag} {mg : Str → Option Value} {base : Heap} {f : Addr} {fd : FuncData}
theorem ok_nentry {Pc : Addr} {Ts : List Addr} (F : Fun K "_is_named_entry" "_is_named_entry" s_is_named_entry f fd) (B : Blt mg) (mc : Pc ∈ Ts) (c_is_tuple_of : Cal P w K mg base CX0 1 "_is_tuple_of" spTOf) (c_is_list_name : Cal P w K mg base CX0 4 "is_list_name" (spNm lnV Pc)) (c_is_entry : Cal P w K mg base CX0 4 "_is_entry" (spDoc isEntry Ts)) : FnOk P w K mg base CX0 5 f fd ["value"] (spDoc isNE Ts) := by
  refine F.ok sc_is_named_entry (fun vs H Q E h => ?_) (fun cdv A outer s H vs Q E hr h => ?_)
  · obtain ⟨v, d, rfl, _⟩ := h; rfl
  obtain ⟨v, d, rfl, hR, ho, hG, q⟩ := h
  refine ⟨_, (pss_one (ps_ret (pe_and (c_is_tuple_of.pe hr (pa_cons (pv 0) (pa_cons pe_int pa_nil))) (pe_and (c_is_list_name.pe hr (pa_cons (pe_ix ix_tM (pv 0) pe_int (fun _ _ => rfl)) pa_nil)) (pe_one (c_is_entry.pe hr (pa_cons (pe_slice sl_tupA (pv 0) (po_some pe_int) po_none) pa_nil))))))), ?_⟩
  walk_at "wp"
  have off : isNE d = false → ∀ H', Kp Ts H H' → Tabs Ts H' → Q (.bl false) H' := fun h H' k g => by have y := q H' k g; rw [h] at y; exact y
  refine ⟨v, d, 4, rfl, hR, _, rfl, ?_⟩
  cases h1 : tupB 4 4 d with
  | false =>
    rw [if_neg (by decide)]
    exact off (by unfold isNE; rw [h1]; rfl) _ (Kp.refl _ _) hG
  | true =>
  obtain ⟨p, xs, ds, rfl, ep, rfl, r, l1, l2⟩ := tupB_of hR h1
  obtain ⟨x0, x1, x2, x3, d0, d1, d2, d3, rfl, rfl, R0, R1, R2, R3⟩ := rq4 r (by omega)
  rw [if_pos rfl]
  obtain ⟨o1, o2⟩ := okD_tup.mp ho
  have e1 : isNE (.tuple [d0, d1, d2, d3]) = (lnD d0 && isEntry (.tuple [d1, d2, d3])) := rfl
  rw [e1] at off q
  refine ⟨p, rfl, _, ep, _, rfl, x0, rfl, hG _ mc, R0.tyx, ok_szV R0 (o2 d0 (by simp)), fun H1 k1 g1 => ⟨_, rfl, ?_⟩⟩
  rw [lnD_of R0]
  have K1 := k1.in1 mc
  have G1 := hG.kp1 k1 g1
  cases h2 : lnD d0 with
  | false =>
    rw [if_neg (by decide)]
    exact off (by rw [h2]; rfl) _ K1 G1
  | true =>
  rw [if_pos rfl]
  rw [h2, Bool.true_and] at q
  refine sl_q (k1.tup _ _ ep) fun z H2 k2 f2 => ?_
  have r2 := ((r.tabs K1 hG).kp0 k2).cut (some 1) none
  rw [cutD_tl] at r2
  exact ⟨.ref z, .tuple [d1, d2, d3], rfl, .tup f2 r2, okD_tup.mpr ⟨by show 3 ≤ 200000; decide, fun d m => o2 d (List.mem_cons_of_mem _ m)⟩, G1.kp0 k2, fun H3 k3 g3 => q H3 ((K1.trans k2.in0).trans k3) g3⟩
theorem ok_shelf {oc kV doc pm ct : Value} {od an : Option Addr} {osl : Array (Option Value)} {c Pt : Addr} {Ts : List Addr} (B : Blt mg) (TB : GxR.TabB base mg c Pt) (D : DshC mg) (mt : Pt ∈ Ts)
    (lk : K.lookup f = some ⟨oc, od, .func (PySem.W.fnOf "is_shelf" "is_shelf" (defArgs s_is_shelf) (defBody s_is_shelf) (defScope s_is_shelf) .none kV doc pm an (.ref c) ct), osl⟩) (hcd : PySem.W.codeIn K (.ref c) "is_shelf" = true)
    (c_is_headed : Cal P w K mg base CX0 2 "_is_headed" spHead) (c_is_version : Cal P w K mg base CX0 2 "_is_version" (spNumP 1)) (c_is_amount : Cal P w K mg base CX0 2 "is_amount" (spNumP 0)) (c_is_tuple_within : Cal P w K mg base CX0 1 "_is_tuple_within" spTIn) (c_is_named_entry : Cal P w K mg base CX0 5 "_is_named_entry" (spDoc isNE Ts)) (c_ascends : Cal P w K mg base CX0 1 "ascends" (spAsc K)) :
    FnOk P w K mg base CX0 12 f (PySem.W.fnOf "is_shelf" "is_shelf" (defArgs s_is_shelf) (defBody s_is_shelf) (defScope s_is_shelf) .none kV doc pm an (.ref c) ct) ["value"] (spDoc isShelf Ts) := by
  refine fn_of lk hcd sc_is_shelf (fun vs H Q E h => ?_) (fun A outer s H vs Q E hr h => ?_)
  · obtain ⟨v, d, rfl, _⟩ := h; rfl
  obtain ⟨v, d, rfl, hR, ho, hG, q⟩ := h
  refine ⟨_, PSs.nox (pss_cons (ps_if (pt_not (pt_val (c_is_headed.pe hr (pa_cons (pv 0) (pa_cons pe_str (pa_cons pe_int pa_nil)))))) (pss_one (ps_ret pe_bl)) pss_nil)
    (pss_cons (ps_asg (pv 0) (pg_tup rfl (pgs_cons (pg_name (i := 1) sc_is_shelf.nd rfl (Or.inl rfl)) (pgs_cons (pg_name (i := 2) sc_is_shelf.nd rfl (Or.inl rfl)) (pgs_cons (pg_name (i := 3) sc_is_shelf.nd rfl (Or.inl rfl)) (pgs_cons (pg_name (i := 4) sc_is_shelf.nd rfl (Or.inl rfl)) pgs_nil))))))
    (pss_cons (ps_if (PW.pt (pw_or (pt_not (pt_val (c_is_version.pe hr (pa_cons (pv 2) pa_nil)))) (pw_or1 (pt_not (pt_val (c_is_amount.pe hr (pa_cons (pv 3) pa_nil))))))) (pss_one (ps_ret pe_bl)) pss_nil)
    (pss_cons (ps_if (PW.pt (pw_or (pt_not (pt_val (c_is_tuple_within.pe hr (pa_cons (pv 4) (pa_cons pe_int (pa_cons (pe_cE D.c_MOST_LISTS) pa_nil)))))) (pw_or1 (pt_not (pt_val (pe_allG (N := ["row"]) (nt := 1) (fr := []) rfl hr B TB rfl (gnOf (by decide +kernel)) (by show freeOk _ (defScope s_is_shelf) = true; decide +kernel) (by show capOk _ _ _ N_is_shelf _ (defScope s_is_shelf) = true; decide +kernel)
      (pi_tup (pv 4)) (fun _ _ _ _ _ hr => (pg_name (i := 0) (by show List.Nodup (["row"] : List Str); decide +kernel) rfl (Or.inl rfl))) (fun _ _ _ _ _ hr => pts_nil) (fun _ _ _ _ _ hr => (c_is_named_entry.pe hr (pa_cons (pv 0) pa_nil))) (fun _ => rfl))))))) (pss_one (ps_ret pe_bl)) pss_nil)
    (pss_cons (ps_setLc (i := 5) (own := [("row", 6)]) (g := gName 6) (tt := tYes) rfl sc_is_shelf.nd rfl rfl (sw_true rfl rfl rfl (by decide +kernel)) (pi_tup (pv 4)) (blkOk_by (own := [("row", 6)]) (N := N_is_shelf) (sc := defScope s_is_shelf) (by decide +kernel)) (fun _ _ _ _ _ => pg_name (i := 6) sc_is_shelf.nd rfl (Or.inl rfl)) (fun _ _ _ _ _ => pts_nil) (fun _ _ _ _ _ => (pe_ix ix_tM (pv 6) pe_int (fun _ _ => rfl))))
    (pss_one (ps_ret (pe_and (c_ascends.pe hr (pa_cons (pv 5) pa_nil)) (pe_one (pe_cmpR (show OpR _ _ (rIn K false) from op_in_seq) (pe_cSE D.c_TOP_LIST) (pv 5) (by rfl))))))))))), ?_⟩
  walk_at "wp"
  have off : isShelf d = false → ∀ H', Kp Ts H H' → Tabs Ts H' → Q (.bl false) H' := fun h H' k g => by have y := q H' k g; rw [h] at y; exact y
  refine ⟨v, d, _, 4, rfl, hR, by decide, _, rfl, ?_⟩
  cases h1 : headB (Str.ofString "shelf") 4 d with
  | false =>
    rw [if_pos rfl]
    exact off (by unfold isShelf; rw [h1]; rfl) H (Kp.refl _ _) hG
  | true =>
  rw [if_neg (by decide)]
  have h1' := h1
  unfold headB at h1'
  rw [Bool.and_eq_true] at h1'
  obtain ⟨p, xs, ds, rfl, ep, rfl, r, l1, l2⟩ := tupB_of hR h1'.1
  obtain ⟨x0, x1, x2, x3, d0, d1, d2, d3, rfl, rfl, R0, R1, R2, R3⟩ := rq4 r (by omega)
  obtain ⟨o1, o2⟩ := okD_tup.mp ho
  have e1 : isShelf (.tuple [d0, d1, d2, d3]) = (headB (Str.ofString "shelf") 4 (.tuple [d0, d1, d2, d3]) && (numB 1 1000000000000 d1 && (numB 0 1000000000000 d2 && (tupB 1 32 d3 && ((itD d3).all isNE && (asc ((itD d3).map nmD) && decide (Str.ofString "list" ∈ (itD d3).map nmD))))))) := rfl
  rw [h1, Bool.true_and] at e1
  rw [e1] at off q
  refine ⟨p, _, rfl, SqT.of ep, rfl, x0, _, rfl, x1, _, rfl, x2, _, rfl, x3, _, rfl, rfl, ?_⟩
  walk_at "wp"
  refine ⟨x1, d1, rfl, R1, _, rfl, ?_⟩
  cases h2 : numB 1 1000000000000 d1 with
  | false =>
    rw [if_pos rfl]
    exact off (by rw [h2]; rfl) H (Kp.refl _ _) hG
  | true =>
  rw [if_neg (by decide)]
  rw [h2, Bool.true_and] at off q
  refine ⟨x2, d2, rfl, R2, _, rfl, ?_⟩
  cases h3 : numB 0 1000000000000 d2 with
  | false =>
    rw [if_pos rfl]
    exact off (by rw [h3]; rfl) H (Kp.refl _ _) hG
  | true =>
  rw [if_neg (by decide)]
  rw [h3, Bool.true_and] at off q
  refine ⟨x3, d3, 1, 32, rfl, R3, _, rfl, ?_⟩
  cases h4 : tupB 1 32 d3 with
  | false =>
    rw [if_pos rfl]
    exact off (by rw [h4]; rfl) H (Kp.refl _ _) hG
  | true =>
  rw [if_neg (by decide)]
  obtain ⟨b, ys, es, rfl, eb, rfl, rr, l3, l4⟩ := tupB_of R3 h4
  rw [h4, Bool.true_and, show itD (.tuple es) = es from rfl] at off q
  obtain ⟨o3, o4⟩ := okD_tup.mp (o2 (.tuple es) (by simp))
  refine ⟨_, rfl, b, rfl, ⟨ys, SqT.of eb⟩, hG _ mt, fun H2 hT => ?_⟩
  have g2 := hG.tab hT mt
  have k2 : Kp Ts H H2 := Kp.tab (hG _ mt) hT mt
  refine all_rq (K := K) (o := none) (cap := []) (f := isNE) (k2.get hG eb) (rr.tabs k2 hG) g2 (fun x d H' R hx md k3 g3 hq => ?_) (fun H3 k3 g3 h3 => ?_) (fun σ H3 k3 g3 h3 => ?_)
  · exact ⟨x, rfl, x, d, rfl, hx, ok_mono _ 12 d (by decide) (o4 d md), g3, hq⟩
  · refine ⟨_, rfl, ?_⟩
    rw [if_pos rfl]
    exact off (by rw [h3]; rfl) H3 (k2.trans k3) g3
  refine ⟨_, rfl, ?_⟩
  rw [if_neg (by decide)]
  have K3 := k2.trans k3
  rw [h3, Bool.true_and] at off q
  have al := List.all_eq_true.mp h3
  have e3 := K3.get hG eb
  have rr3 := rr.tabs K3 hG
  refine ⟨_, rfl, b, rfl, ⟨ys, SqT.of e3⟩, fun D hD => ?_⟩
  have nD : ∀ P ∈ Ts, P ∉ [D] := fun P m e => g3.ne0 hD (List.mem_singleton.mp e ▸ m)
  refine lc_tup (K := K) (a := b) (xs := ys) (fun i Hx => Kp Ts H3 Hx ∧ Tabs Ts Hx ∧ Hx D = some (.lst (((es.take i).map nmD).map V.str)))
    ⟨Kp.new hD _, g3.new hD _, upd_same⟩ (fun i Hx _ ⟨k, _, _⟩ => SqT.of (k.get g3 e3)) (fun i x Hx hx ⟨k4, g4, a4⟩ => ?_) (fun Hx ⟨k4, g4, a4⟩ => ?_)
  · obtain ⟨u, hu, Ru⟩ := rr3.get hx
    obtain ⟨pr, vs, z, us, rfl, epr, rfl, _, _⟩ := isNE_of (Ru.tabs k4 g3) (al u (List.mem_of_getElem? hu))
    refine ⟨rfl, ?_⟩
    simp only [tYes, if_true]
    refine ⟨_, rfl, pr, rfl, _, epr, 0, rfl, _, at0, _, a4, by rw [List.length_map, List.length_map, List.length_take, sizeLine_eq]; omega, Kp.upd k4 hD a4, g4.kp (Kp.lst a4 (List.mem_singleton.mpr rfl)) nD, ?_⟩
    rw [upd_same, List.take_add_one, hu]
    simp [nmD, ixD, itD, strD]
  · rw [rr.len, List.take_length] at a4
    refine ⟨D, es.map nmD, rfl, SqL.of a4, by rw [List.length_map]; omega, fun z hz => ?_, fun H5 k5 => ⟨_, rfl, ?_⟩⟩
    · obtain ⟨d, m, rfl⟩ := List.mem_map.mp hz
      obtain ⟨i, hi, e⟩ := List.getElem_of_mem m
      obtain ⟨x, _, Rx⟩ := rr3.at hi
      rw [List.getD_eq_getElem?_getD, List.getElem?_eq_getElem hi] at Rx
      have Rx : Rq H3 x d := e ▸ Rx
      obtain ⟨pr, vs, z, us, rfl, epr, rfl, _, hl⟩ := isNE_of Rx (al d m)
      exact strOk_low (ln_low hl).2
    have K5 := (K3.trans k4).trans (k5.in0 : Kp Ts Hx H5)
    have g5 := g4.kp0 k5
    cases h5 : asc (es.map nmD) with
    | false =>
      rw [if_neg (by decide)]
      exact off (by rw [h5]; rfl) H5 K5 g5
    | true =>
    rw [if_pos rfl]
    rw [h5, Bool.true_and] at q
    refine ⟨D, _, rfl, .inl (SqL.of (k5.keep _ _ List.not_mem_nil a4)), rfl, flat_strsQ _, ?_⟩
    rw [inV_strsQ]
    exact q H5 K5 g5
end
/-! lists -/
abbrev s_is_good : Stmt := top 67
abbrev N_is_good : List Str := ["value"]
theorem sc_is_good : FnScope N_is_good ["value"] (defScope s_is_good) := ⟨rfl, rfl, rfl, by decide +kernel, rfl, by decide +kernel, by decide +kernel⟩
abbrev s_is_list : Stmt := top 54
abbrev N_is_list : List Str := ["value", "_", "name", "version", "expires", "goods", "grants", "granted", "grant", "good"]
theorem sc_is_list : FnScope N_is_list ["value"] (defScope s_is_list) := ⟨rfl, rfl, rfl, by decide +kernel, rfl, by decide +kernel, by decide +kernel⟩
def isGood (d : PyData) : Bool := tupB 3 3 d && (paD paM (ixD d 0) && (numB 0 1000000000000 (ixD d 1) && isDig (ixD d 2)))
def isGoods (d : PyData) : Bool := tupB 0 64 d && ((itD d).all isGood && asc ((itD d).map nmG))
def isList (d : PyData) : Bool := headB (Str.ofString "list") 6 d && (lnD (ixD d 1) && (numB 1 1000000000000 (ixD d 2) && (numB 0 1000000000000 (ixD d 3) && (isGoods (ixD d 4) && (tupB 0 32 (ixD d 5) && ((itD (ixD d 5)).all isGrant && decide ((strD (ixD d 1) :: (itD (ixD d 5)).map nmG).Nodup)))))))
structure DlsC (mg : Str → Option Value) : Prop where
  c_MOST_GOODS : ∃ t, mg "MOST_GOODS" = some (.int 64 t)
  c_MOST_LISTS : ∃ t, mg "MOST_LISTS" = some (.int 32 t)
theorem isGood_of {H : Hp} {v : V} {d : PyData} (r : Rq H v d) (h : isGood d = true) : ∃ (p : Addr) (xs : List V) (z : Str) (es : List PyData), v = .ref p ∧ H p = some (.tup (.str z :: xs)) ∧ d = .tuple (.str z :: es) ∧ RqA H xs es ∧ hpS paM z = true ∧ es.length = 2 := by
  unfold isGood at h
  simp only [Bool.and_eq_true] at h
  obtain ⟨h1, h2, _⟩ := h
  obtain ⟨p, xs, ds, rfl, ep, rfl, rr, l1, l2⟩ := tupB_of r h1
  cases rr with
  | nil => exact absurd l1 (by decide)
  | @cons v vs d ds a b =>
    have h2 : paD paM d = true := h2
    cases a with
    | str z => exact ⟨p, vs, z, ds, rfl, ep, rfl, b, h2, by rw [List.length_cons] at l1 l2; omega⟩
    | _ => cases h2
theorem strOk_good {H : Hp} {ds : List PyData} {n : Nat} (ho : ∀ d ∈ ds, okD n d = true) {xs : List V} (r : RqA H xs ds) {f : PyData → Bool} (hf : ∀ (v : V) (d : PyData), Rq H v d → f d = true → ∃ z es, d = .tuple (.str z :: es)) (al : ∀ d ∈ ds, f d = true) : ∀ z ∈ ds.map nmG, PyData.strOk z = true := fun z hz => by
  obtain ⟨d, m, rfl⟩ := List.mem_map.mp hz
  obtain ⟨i, hi, e⟩ := List.getElem_of_mem m
  obtain ⟨x, _, Rx⟩ := r.at hi
  rw [List.getD_eq_getElem?_getD, List.getElem?_eq_getElem hi] at Rx
  have Rx : Rq H x d := e ▸ Rx
  obtain ⟨z, es, rfl⟩ := hf x d Rx (al d m)
  have o := ho _ m
  cases n with
  | zero => cases o
  | succ n => exact (okD_str.mp ((okD_tup.mp o).2 _ List.mem_cons_self)).2
theorem asc_sorted {ys xs : List Str} (p : ys.Perm xs) (s : PyProof.Rows.sortedS ys = true) : asc ys = decide xs.Nodup := by
  cases h : asc ys with
  | true => exact (decide_eq_true (p.nodup_iff.mp (asc_nodup h))).symm
  | false =>
    refine (decide_eq_false fun n => ?_).symm
    rw [asc_of s (p.nodup_iff.mpr n)] at h
    cases h
section
variable {P : Program} {w : World} {K : PySem.W.Frag} {mg : Str → Option Value} {base : Heap} {f : Addr} {fd : FuncData}
theorem ok_good {Ts : List Addr} (F : Fun K "_is_good" "_is_good" s_is_good f fd) (B : Blt mg) (c_is_tuple_of : Cal P w K mg base CX0 1 "_is_tuple_of" spTOf) (c_is_path : Cal P w K mg base CX0 7 "is_path" (spPa paM Ts)) (c_is_amount : Cal P w K mg base CX0 2 "is_amount" (spNumP 0)) (c_is_digest : Cal P w K mg base CX0 3 "is_digest" (spDoc isDig Ts)) : FnOk P w K mg base CX0 8 f fd ["value"] (spDoc isGood Ts) := by
  refine F.ok sc_is_good (fun vs H Q E h => ?_) (fun cdv A outer s H vs Q E hr h => ?_)
  · obtain ⟨v, d, rfl, _⟩ := h; rfl
  obtain ⟨v, d, rfl, hR, ho, hG, q⟩ := h
  refine ⟨_, (pss_one (ps_ret (pe_and (c_is_tuple_of.pe hr (pa_cons (pv 0) (pa_cons pe_int pa_nil))) (pe_and (c_is_path.pe hr (pa_cons (pe_ix ix_tM (pv 0) pe_int (fun _ _ => rfl)) pa_nil)) (pe_and (c_is_amount.pe hr (pa_cons (pe_ix ix_tM (pv 0) pe_int (fun _ _ => rfl)) pa_nil)) (pe_one (c_is_digest.pe hr (pa_cons (pe_ix ix_tM (pv 0) pe_int (fun _ _ => rfl)) pa_nil)))))))), ?_⟩
  walk_at "wp"
  have off : isGood d = false → ∀ H', Kp Ts H H' → Tabs Ts H' → Q (.bl false) H' := fun h H' k g => by have y := q H' k g; rw [h] at y; exact y
  refine ⟨v, d, 3, rfl, hR, _, rfl, ?_⟩
  cases h1 : tupB 3 3 d with
  | false =>
    rw [if_neg (by decide)]
    exact off (by unfold isGood; rw [h1]; rfl) _ (Kp.refl _ _) hG
  | true =>
  rw [if_pos rfl]
  obtain ⟨p, xs, ds, rfl, ep, rfl, r, l1, l2⟩ := tupB_of hR h1
  obtain ⟨x0, x1, x2, d0, d1, d2, rfl, rfl, R0, R1, R2⟩ := rq3 r (by omega)
  obtain ⟨o1, o2⟩ := okD_tup.mp ho
  have e1 : isGood (.tuple [d0, d1, d2]) = (paD paM d0 && (numB 0 1000000000000 d1 && isDig d2)) := rfl
  rw [e1] at off q
  refine ⟨p, rfl, _, ep, _, rfl, x0, rfl, hG, R0.tyx, ok_szV R0 (o2 d0 (by simp)), fun H1 k1 g1 => ⟨_, rfl, ?_⟩⟩
  rw [paD_of R0]
  cases h2 : paD paM d0 with
  | false =>
    rw [if_neg (by decide)]
    exact off (by rw [h2]; rfl) _ k1 g1
  | true =>
  rw [if_pos rfl]
  rw [h2, Bool.true_and] at off q
  refine ⟨p, rfl, _, k1.get hG ep, _, rfl, x1, d1, rfl, R1.tabs k1 hG, _, rfl, ?_⟩
  cases h3 : numB 0 1000000000000 d1 with
  | false =>
    rw [if_neg (by decide)]
    exact off (by rw [h3]; rfl) _ k1 g1
  | true =>
  rw [if_pos rfl]
  rw [h3, Bool.true_and] at off q
  exact ⟨p, rfl, _, k1.get hG ep, _, rfl, x2, d2, rfl, R2.tabs k1 hG, ok_mono _ 12 d2 (by decide) (o2 d2 (by simp)), g1, fun H2 k2 g2 => q H2 (k1.trans k2) g2⟩
theorem ok_list {oc kV doc pm ct : Value} {od an : Option Addr} {osl : Array (Option Value)} {c Pt Pc : Addr} {Ts : List Addr} (B : Blt mg) (z1 : mg "sorted" = none) (TB : GxR.TabB base mg c Pt) (D : DlsC mg) (mt : Pt ∈ Ts) (mc : Pc ∈ Ts)
    (lk : K.lookup f = some ⟨oc, od, .func (PySem.W.fnOf "is_list" "is_list" (defArgs s_is_list) (defBody s_is_list) (defScope s_is_list) .none kV doc pm an (.ref c) ct), osl⟩) (hcd : PySem.W.codeIn K (.ref c) "is_list" = true)
    (c_is_headed : Cal P w K mg base CX0 2 "_is_headed" spHead) (c_is_list_name : Cal P w K mg base CX0 4 "is_list_name" (spNm lnV Pc)) (c_is_version : Cal P w K mg base CX0 2 "_is_version" (spNumP 1)) (c_is_amount : Cal P w K mg base CX0 2 "is_amount" (spNumP 0)) (c_is_tuple_within : Cal P w K mg base CX0 1 "_is_tuple_within" spTIn) (c_is_good : Cal P w K mg base CX0 8 "_is_good" (spDoc isGood Ts)) (c_is_grant : Cal P w K mg base CX0 11 "is_grant" (spDoc isGrant Ts)) (c_ascends : Cal P w K mg base CX0 1 "ascends" (spAsc K)) :
    FnOk P w K mg base CX0 15 f (PySem.W.fnOf "is_list" "is_list" (defArgs s_is_list) (defBody s_is_list) (defScope s_is_list) .none kV doc pm an (.ref c) ct) ["value"] (spDoc isList Ts) := by
  refine fn_of lk hcd sc_is_list (fun vs H Q E h => ?_) (fun A outer s H vs Q E hr h => ?_)
  · obtain ⟨v, d, rfl, _⟩ := h; rfl
  obtain ⟨v, d, rfl, hR, ho, hG, q⟩ := h
  refine ⟨_, PSs.nox (pss_cons (ps_if (pt_not (pt_val (c_is_headed.pe hr (pa_cons (pv 0) (pa_cons pe_str (pa_cons pe_int pa_nil)))))) (pss_one (ps_ret pe_bl)) pss_nil)
    (pss_cons (ps_asg (pv 0) (pg_tup rfl (pgs_cons (pg_name (i := 1) sc_is_list.nd rfl (Or.inl rfl)) (pgs_cons (pg_name (i := 2) sc_is_list.nd rfl (Or.inl rfl)) (pgs_cons (pg_name (i := 3) sc_is_list.nd rfl (Or.inl rfl)) (pgs_cons (pg_name (i := 4) sc_is_list.nd rfl (Or.inl rfl)) (pgs_cons (pg_name (i := 5) sc_is_list.nd rfl (Or.inl rfl)) (pgs_cons (pg_name (i := 6) sc_is_list.nd rfl (Or.inl rfl)) pgs_nil))))))))
    (pss_cons (ps_if (PW.pt (pw_or (pt_not (pt_val (c_is_list_name.pe hr (pa_cons (pv 2) pa_nil)))) (pw_or (pt_not (pt_val (c_is_version.pe hr (pa_cons (pv 3) pa_nil)))) (pw_or1 (pt_not (pt_val (c_is_amount.pe hr (pa_cons (pv 4) pa_nil)))))))) (pss_one (ps_ret pe_bl)) pss_nil)
    (pss_cons (ps_if (PW.pt (pw_or (pt_not (pt_val (c_is_tuple_within.pe hr (pa_cons (pv 5) (pa_cons pe_int (pa_cons (pe_cE D.c_MOST_GOODS) pa_nil)))))) (pw_or1 (pt_not (pt_val (pe_allG (N := ["good"]) (nt := 1) (fr := []) rfl hr B TB rfl (gnOf (by decide +kernel)) (by show freeOk _ (defScope s_is_list) = true; decide +kernel) (by show capOk _ _ _ N_is_list _ (defScope s_is_list) = true; decide +kernel)
      (pi_tup (pv 5)) (fun _ _ _ _ _ hr => (pg_name (i := 0) (by show List.Nodup (["good"] : List Str); decide +kernel) rfl (Or.inl rfl))) (fun _ _ _ _ _ hr => pts_nil) (fun _ _ _ _ _ hr => (c_is_good.pe hr (pa_cons (pv 0) pa_nil))) (fun _ => rfl))))))) (pss_one (ps_ret pe_bl)) pss_nil)
    (pss_cons (ps_if (PW.pt (pw_or (pt_not (pt_val (c_is_tuple_within.pe hr (pa_cons (pv 6) (pa_cons pe_int (pa_cons (pe_cE D.c_MOST_LISTS) pa_nil)))))) (pw_or1 (pt_not (pt_val (pe_allG (N := ["grant"]) (nt := 1) (fr := []) rfl hr B TB rfl (gnOf (by decide +kernel)) (by show freeOk _ (defScope s_is_list) = true; decide +kernel) (by show capOk _ _ _ N_is_list _ (defScope s_is_list) = true; decide +kernel)
      (pi_tup (pv 6)) (fun _ _ _ _ _ hr => (pg_name (i := 0) (by show List.Nodup (["grant"] : List Str); decide +kernel) rfl (Or.inl rfl))) (fun _ _ _ _ _ hr => pts_nil) (fun _ _ _ _ _ hr => (c_is_grant.pe hr (pa_cons (pv 0) pa_nil))) (fun _ => rfl))))))) (pss_one (ps_ret pe_bl)) pss_nil)
    (pss_cons (ps_setLc (i := 7) (own := [("grant", 8)]) (g := gName 8) (tt := tYes) rfl sc_is_list.nd rfl rfl (sw_true rfl rfl rfl (by decide +kernel)) (pi_tup (pv 6)) (blkOk_by (own := [("grant", 8)]) (N := N_is_list) (sc := defScope s_is_list) (by decide +kernel)) (fun _ _ _ _ _ => pg_name (i := 8) sc_is_list.nd rfl (Or.inl rfl)) (fun _ _ _ _ _ => pts_nil) (fun _ _ _ _ _ => (pe_ix ix_tM (pv 8) pe_int (fun _ _ => rfl))))
    (pss_one (ps_ret (pe_and (c_ascends.pe hr (pa_cons (pe_lc (own := [("good", 9)]) (g := gName 9) (tt := tYes) rfl sc_is_list.nd (pi_tup (pv 5)) (blkOk_by (own := [("good", 9)]) (N := N_is_list) (sc := defScope s_is_list) (by decide +kernel)) (fun _ _ _ _ _ => pg_name (i := 9) sc_is_list.nd rfl (Or.inl rfl)) (fun _ _ _ _ _ => pts_nil) (fun _ _ _ _ _ => (pe_ix ix_tM (pv 9) pe_int (fun _ _ => rfl)))) pa_nil)) (pe_and (c_ascends.pe hr (pa_cons (pe_callB cr_sortedA rfl z1 (by decide +kernel) (pa_cons (pv 7) pa_nil)) pa_nil)) (pe_one (pe_cmpR (show OpR _ _ (rIn K true) from op_notIn_seq) (pv 2) (pv 7) (by rfl))))))))))))), ?_⟩
  walk_at "wp"
  have off : isList d = false → ∀ H', Kp Ts H H' → Tabs Ts H' → Q (.bl false) H' := fun h H' k g => by have y := q H' k g; rw [h] at y; exact y
  refine ⟨v, d, _, 6, rfl, hR, by decide, _, rfl, ?_⟩
  cases h1 : headB (Str.ofString "list") 6 d with
  | false =>
    rw [if_pos rfl]
    exact off (by unfold isList; rw [h1]; rfl) H (Kp.refl _ _) hG
  | true =>
  rw [if_neg (by decide)]
  have h1' := h1
  unfold headB at h1'
  rw [Bool.and_eq_true] at h1'
  obtain ⟨p, xs, ds, rfl, ep, rfl, r, l1, l2⟩ := tupB_of hR h1'.1
  obtain ⟨x0, x1, x2, x3, x4, x5, d0, d1, d2, d3, d4, d5, rfl, rfl, R0, R1, R2, R3, R4, R5⟩ := rq6 r (by omega)
  obtain ⟨o1, o2⟩ := okD_tup.mp ho
  have e1 : isList (.tuple [d0, d1, d2, d3, d4, d5]) = (headB (Str.ofString "list") 6 (.tuple [d0, d1, d2, d3, d4, d5]) && (lnD d1 && (numB 1 1000000000000 d2 && (numB 0 1000000000000 d3 && (isGoods d4 && (tupB 0 32 d5 && ((itD d5).all isGrant && decide ((strD d1 :: (itD d5).map nmG).Nodup)))))))) := rfl
  rw [h1, Bool.true_and] at e1
  rw [e1] at off q
  refine ⟨p, _, rfl, SqT.of ep, rfl, x0, _, rfl, x1, _, rfl, x2, _, rfl, x3, _, rfl, x4, _, rfl, x5, _, rfl, rfl, ?_⟩
  walk_at "wp"
  refine ⟨x1, rfl, hG _ mc, R1.tyx, ok_szV R1 (o2 d1 (by simp)), fun H1 k1 g1 => ⟨_, rfl, ?_⟩⟩
  rw [lnD_of R1]
  have K1 := k1.in1 mc
  have G1 := hG.kp1 k1 g1
  cases h2 : lnD d1 with
  | false =>
    rw [if_pos rfl]
    exact off (by rw [h2]; rfl) _ K1 G1
  | true =>
  rw [if_neg (by decide)]
  rw [h2, Bool.true_and] at off q
  obtain ⟨z, rfl, rfl⟩ : ∃ z, x1 = .str z ∧ d1 = .str z := isS_of R1 (by cases d1 <;> first | rfl | cases h2)
  refine ⟨x2, d2, rfl, R2.tabs K1 hG, _, rfl, ?_⟩
  cases h3 : numB 1 1000000000000 d2 with
  | false =>
    rw [if_pos rfl]
    exact off (by rw [h3]; rfl) _ K1 G1
  | true =>
  rw [if_neg (by decide)]
  rw [h3, Bool.true_and] at off q
  refine ⟨x3, d3, rfl, R3.tabs K1 hG, _, rfl, ?_⟩
  cases h4 : numB 0 1000000000000 d3 with
  | false =>
    rw [if_pos rfl]
    exact off (by rw [h4]; rfl) _ K1 G1
  | true =>
  rw [if_neg (by decide)]
  rw [h4, Bool.true_and] at off q
  refine ⟨x4, d4, 0, 64, rfl, R4.tabs K1 hG, _, rfl, ?_⟩
  cases h5 : tupB 0 64 d4 with
  | false =>
    rw [if_pos rfl]
    exact off (by unfold isGoods; rw [h5]; rfl) _ K1 G1
  | true =>
  rw [if_neg (by decide)]
  obtain ⟨b, ys, es, rfl, eb, rfl, rr, l3, l4⟩ := tupB_of R4 h5
  rw [show isGoods (.tuple es) = (tupB 0 64 (.tuple es) && (es.all isGood && asc (es.map nmG))) from rfl, h5, Bool.true_and] at off q
  obtain ⟨o3, o4⟩ := okD_tup.mp (o2 (.tuple es) (by simp))
  have e3 := K1.get hG eb
  refine ⟨_, rfl, b, rfl, ⟨ys, SqT.of e3⟩, G1 _ mt, fun H2 hT => ?_⟩
  have g2 := G1.tab hT mt
  have k2 : Kp Ts H1 H2 := Kp.tab (G1 _ mt) hT mt
  have K2 := K1.trans k2
  refine all_rq (K := K) (o := none) (cap := []) (f := isGood) (K2.get hG eb) (rr.tabs K2 hG) g2 (fun x d H' R hx md k3 g3 hq => ?_) (fun H3 k3 g3 h6 => ?_) (fun σ H3 k3 g3 h6 => ?_)
  · exact ⟨x, rfl, x, d, rfl, hx, ok_mono _ 12 d (by decide) (o4 d md), g3, hq⟩
  · refine ⟨_, rfl, ?_⟩
    rw [if_pos rfl]
    exact off (by rw [h6]; rfl) H3 (K2.trans k3) g3
  refine ⟨_, rfl, ?_⟩
  rw [if_neg (by decide)]
  have K3 := K2.trans k3
  rw [h6, Bool.true_and] at off q
  have al := List.all_eq_true.mp h6
  refine ⟨x5, d5, 0, 32, rfl, R5.tabs K3 hG, _, rfl, ?_⟩
  cases h7 : tupB 0 32 d5 with
  | false =>
    rw [if_pos rfl]
    exact off (by rw [h7, Bool.false_and, Bool.and_false]) _ K3 g3
  | true =>
  rw [if_neg (by decide)]
  obtain ⟨b2, ws, us, rfl, eb2, rfl, ru, l5, l6⟩ := tupB_of R5 h7
  rw [h7, Bool.true_and, show itD (.tuple us) = us from rfl] at off q
  obtain ⟨o5, o6⟩ := okD_tup.mp (o2 (.tuple us) (by simp))
  have e5 := K3.get hG eb2
  refine ⟨_, rfl, b2, rfl, ⟨ws, SqT.of e5⟩, g3 _ mt, fun H4 hT => ?_⟩
  have g4 := g3.tab hT mt
  have k4 : Kp Ts H3 H4 := Kp.tab (g3 _ mt) hT mt
  have K4 := K3.trans k4
  refine all_rq (K := K) (o := none) (cap := []) (f := isGrant) (K4.get hG eb2) (ru.tabs K4 hG) g4 (fun x d H' R hx md k5 g5 hq => ?_) (fun H5 k5 g5 h8 => ?_) (fun σ H5 k5 g5 h8 => ?_)
  · exact ⟨x, rfl, x, d, rfl, hx, ok_mono _ 12 d (by decide) (o6 d md), g5, hq⟩
  · refine ⟨_, rfl, ?_⟩
    rw [if_pos rfl]
    exact off (by rw [h8, Bool.false_and, Bool.and_false]) H5 (K4.trans k5) g5
  have K5 := K4.trans k5
  refine ⟨_, rfl, ?_⟩
  rw [if_neg (by decide)]
  rw [h8, Bool.true_and] at off q
  have alG := List.all_eq_true.mp h8
  refine lc_nm (nm := nmG) (K5.get hG eb2) (ru.tabs K5 hG) o5 (fun R h => ⟨_, rfl, h⟩) (fun _ => rfl) (fun x d H' R hx md hr => ?_) (fun D H6 k6 a6 hD => ?_)
  · obtain ⟨p2, xs2, z2, es2, rfl, ep2, rfl, _⟩ := isGrant_of hx (alG d md)
    exact ⟨_, rfl, p2, rfl, _, ep2, 0, rfl, _, at0, hr⟩
  have K6 := K5.trans (k6.in0 : Kp Ts H5 H6)
  have g6 := g5.kp0 k6
  refine lc_nm (nm := nmG) (K6.get hG eb) (rr.tabs K6 hG) o3 (fun R h => ⟨_, rfl, h⟩) (fun _ => rfl) (fun x d H' R hx md hr => ?_) (fun D2 H7 k7 a7 hD2 => ?_)
  · obtain ⟨p2, xs2, z2, es2, rfl, ep2, rfl, _⟩ := isGood_of hx (al d md)
    exact ⟨_, rfl, p2, rfl, _, ep2, 0, rfl, _, at0, hr⟩
  have K7 := K6.trans (k7.in0 : Kp Ts H6 H7)
  have g7 := g6.kp0 k7
  have sg := strOk_good o4 rr (f := isGood) (fun v d r h => by obtain ⟨_, _, z, es, _, _, e, _⟩ := isGood_of r h; exact ⟨z, es, e⟩) al
  refine ⟨D2, es.map nmG, rfl, SqL.of a7, by rw [List.length_map]; omega, sg, fun H8 k8 => ⟨_, rfl, ?_⟩⟩
  cases h9 : asc (es.map nmG) with
  | false =>
    rw [if_neg (by decide)]
    exact off (by rw [h9]; rfl) H8 (K7.trans k8.in0) (g7.kp0 k8)
  | true =>
  rw [if_pos rfl]
  rw [h9, Bool.true_and] at off q
  have a8 := (k7.trans k8).keep D _ List.not_mem_nil a6
  refine ⟨D, us.map nmG, rfl, SqL.of a8, fun ns p9 perm srt hp9 => ?_⟩
  have k9 := Kp.new (S := []) hp9 (.lst (ns.map V.str))
  have sgg := strOk_good o6 ru (f := isGrant) (fun v d r h => by obtain ⟨_, _, z, es, _, _, e, _⟩ := isGrant_of r h; exact ⟨z, es, e⟩) alG
  have ln9 : ns.length = us.length := by rw [perm.length_eq, List.length_map]
  refine ⟨p9, ns, rfl, SqL.of upd_same, by omega, fun z hz => sgg z (perm.mem_iff.mp hz), fun H10 k10 => ⟨_, rfl, ?_⟩⟩
  have K10 := ((K7.trans (k8.in0 : Kp Ts H7 H8)).trans (k9.in0 : Kp Ts H8 _)).trans (k10.in0 : Kp Ts _ H10)
  have g10 := ((g7.kp0 k8).kp0 k9).kp0 k10
  rw [asc_sorted perm srt]
  cases h10 : decide (us.map nmG).Nodup with
  | false =>
    rw [if_neg (by decide)]
    exact off (decide_eq_false fun n => of_decide_eq_false h10 (List.nodup_cons.mp n).2) _ K10 g10
  | true =>
  rw [if_pos rfl]
  have a10 := (k9.trans k10).keep D _ List.not_mem_nil a8
  have y := q _ K10 g10
  rw [show decide (strD (PyData.str z) :: us.map nmG).Nodup = !decide (z ∈ us.map nmG) by
    rw [Bool.eq_iff_iff, decide_eq_true_eq, Bool.not_eq_true', decide_eq_false_iff_not, List.nodup_cons]
    exact ⟨fun h => h.1, fun h => ⟨h, of_decide_eq_true h10⟩⟩] at y
  refine ⟨D, _, rfl, .inl (SqL.of a10), rfl, flat_strsQ _, ?_⟩
  rw [inV_strsQ]
  exact y
end
/-! lists: what the law asks -/
/-! published names -/
abbrev s_name_of_charter : Stmt := top 58
abbrev N_name_of_charter : List Str := ["version"]
theorem sc_name_of_charter : FnScope N_name_of_charter ["version"] (defScope s_name_of_charter) := ⟨rfl, rfl, rfl, by decide +kernel, rfl, by decide +kernel, by decide +kernel⟩
abbrev s_name_of_shelf : Stmt := top 59
abbrev N_name_of_shelf : List Str := ["version"]
theorem sc_name_of_shelf : FnScope N_name_of_shelf ["version"] (defScope s_name_of_shelf) := ⟨rfl, rfl, rfl, by decide +kernel, rfl, by decide +kernel, by decide +kernel⟩
abbrev s_name_of_list : Stmt := top 60
abbrev N_name_of_list : List Str := ["name", "version"]
theorem sc_name_of_list : FnScope N_name_of_list ["name", "version"] (defScope s_name_of_list) := ⟨rfl, rfl, rfl, by decide +kernel, rfl, by decide +kernel, by decide +kernel⟩
def vS (n : Int) : Str := Str.ofString (toString n)
theorem emp_app (x : Str) : Str.empty ++ x = x := TL.ext_tl (by rw [TL.tl_append]; rfl)
theorem len_appF (x y : Str) : (x ++ y).length = x.length + y.length := by
  rw [TL.len_tl, TL.tl_append, List.length_append, ← TL.len_tl, ← TL.len_tl]
theorem vS_up {n : Int} (h0 : 0 ≤ n) (h1 : n ≤ 1000000000000) : n.natAbs.log2 < 1920 ∧ (vS n).length ≤ 20 := by
  refine ⟨(intT h0 (by omega)).1, ?_⟩
  obtain ⟨m, rfl⟩ : ∃ m : Nat, n = (m : Nat) := ⟨n.toNat, by omega⟩
  show (Str.ofString (toString ((m : Nat) : Int))).length ≤ 20
  rw [toString_S, S_len]
  exact dig_len (by omega)
section
variable {P : Program} {w : World} {K : PySem.W.Frag} {mg : Str → Option Value} {base : Heap} {f : Addr} {fd : FuncData}
def spNmC (w : Str) : Sp := fun vs H Q _ => ∃ n : Int, vs = [.int n] ∧ 0 ≤ n ∧ n ≤ 1000000000000 ∧ Q (.str (vS n ++ w)) H
def spNmL : Sp := fun vs H Q _ => ∃ (z : Str) (n : Int), vs = [.str z, .int n] ∧ z.length ≤ 1000 ∧ 0 ≤ n ∧ n ≤ 1000000000000 ∧ Q (.str (vS n ++ Str.ofString "." ++ z ++ Str.ofString ".list")) H
theorem ok_name_charter (F : Fun K "name_of_charter" "name_of_charter" s_name_of_charter f fd) (B : Blt mg) : FnOk P w K mg base CX0 1 f fd ["version"] (spNmC (Str.ofString ".charter")) := by
  refine F.ok sc_name_of_charter (fun vs H Q E h => ?_) (fun cdv A outer s H vs Q E hr h => ?_)
  · obtain ⟨n, rfl, _⟩ := h; rfl
  obtain ⟨n, rfl, n0, n1, q⟩ := h
  refine ⟨_, (pss_one (ps_ret (pe_joined (PJ.cons (pe_fmt (pv 0)) (PJ.cons pe_str PJ.nil))))), ?_⟩
  walk_at "wp"
  have lim : sizeLine = 16777216 := sizeLine_eq
  obtain ⟨a, b⟩ := vS_up n0 n1
  refine ⟨_, rfl, .inr ⟨n, rfl, a, vS n, rfl, ?_, _, rfl, ?_, ?_⟩⟩
  · rw [emp_app]; omega
  · rw [emp_app, len_appF]; show _ + 8 ≤ _; omega
  · rw [emp_app]; exact q
theorem ok_name_shelf (F : Fun K "name_of_shelf" "name_of_shelf" s_name_of_shelf f fd) (B : Blt mg) : FnOk P w K mg base CX0 1 f fd ["version"] (spNmC (Str.ofString ".shelf")) := by
  refine F.ok sc_name_of_shelf (fun vs H Q E h => ?_) (fun cdv A outer s H vs Q E hr h => ?_)
  · obtain ⟨n, rfl, _⟩ := h; rfl
  obtain ⟨n, rfl, n0, n1, q⟩ := h
  refine ⟨_, (pss_one (ps_ret (pe_joined (PJ.cons (pe_fmt (pv 0)) (PJ.cons pe_str PJ.nil))))), ?_⟩
  walk_at "wp"
  have lim : sizeLine = 16777216 := sizeLine_eq
  obtain ⟨a, b⟩ := vS_up n0 n1
  refine ⟨_, rfl, .inr ⟨n, rfl, a, vS n, rfl, ?_, _, rfl, ?_, ?_⟩⟩
  · rw [emp_app]; omega
  · rw [emp_app, len_appF]; show _ + 6 ≤ _; omega
  · rw [emp_app]; exact q
theorem ok_name_list (F : Fun K "name_of_list" "name_of_list" s_name_of_list f fd) (B : Blt mg) : FnOk P w K mg base CX0 1 f fd ["name", "version"] spNmL := by
  refine F.ok sc_name_of_list (fun vs H Q E h => ?_) (fun cdv A outer s H vs Q E hr h => ?_)
  · obtain ⟨z, n, rfl, _⟩ := h; rfl
  obtain ⟨z, n, rfl, lz, n0, n1, q⟩ := h
  refine ⟨_, (pss_one (ps_ret (pe_joined (PJ.cons (pe_fmt (pv 1)) (PJ.cons pe_str (PJ.cons (pe_fmt (pv 0)) (PJ.cons pe_str PJ.nil))))))), ?_⟩
  walk_at "wp"
  have lim : sizeLine = 16777216 := sizeLine_eq
  obtain ⟨a, b⟩ := vS_up n0 n1
  refine ⟨_, rfl, .inr ⟨n, rfl, a, vS n, rfl, ?_, _, rfl, ?_, _, rfl, .inl ⟨z, rfl, by omega, z, rfl, ?_, _, rfl, ?_, ?_⟩⟩⟩
  · rw [emp_app]; omega
  · rw [emp_app, len_appF]; show _ + 1 ≤ _; omega
  · rw [emp_app, len_appF, len_appF]; show _ + 1 + _ ≤ _; omega
  · rw [emp_app, len_appF, len_appF, len_appF]; show _ + 1 + _ + 5 ≤ _; omega
  · rw [emp_app]; exact q
end
/-! a document, or BadDocument -/
abbrev s_require_document : Stmt := top 68
abbrev N_require_document : List Str := ["value"]
theorem sc_require_document : FnScope N_require_document ["value"] (defScope s_require_document) := ⟨rfl, rfl, rfl, by decide +kernel, rfl, by decide +kernel, by decide +kernel⟩
def isDoc (d : PyData) : Bool := isCharter d || isStamp d || isShelf d || isList d
structure BdC (K : PySem.W.Frag) (mg : Str → Option Value) (C0 : Addr) : Prop where
  BadDocument : Err K mg "BadDocument" C0
def spReq (C0 : Addr) (Ts : List Addr) : Sp := fun vs H Q E => ∃ (v : V) (d : PyData), vs = [v] ∧ Rq H v d ∧ okD 12 d = true ∧ Tabs Ts H ∧ (isDoc d = true → ∀ H', Kp Ts H H' → Tabs Ts H' → Q .non H') ∧ (isDoc d = false → ∀ H', Kp Ts H H' → Tabs Ts H' → E (.ref C0) none H')
section
variable {P : Program} {w : World} {K : PySem.W.Frag} {mg : Str → Option Value} {base : Heap} {f : Addr} {fd : FuncData} {C0 : Addr} {Ts : List Addr}
theorem ok_reqdoc (F : Fun K "_require_document" "_require_document" s_require_document f fd) (B : Blt mg) (T : BdC K mg C0) (c_is_charter : Cal P w K mg base CX0 12 "is_charter" (spDoc isCharter Ts)) (c_is_stamp : Cal P w K mg base CX0 12 "is_stamp" (spDoc isStamp Ts)) (c_is_shelf : Cal P w K mg base CX0 12 "is_shelf" (spDoc isShelf Ts)) (c_is_list : Cal P w K mg base CX0 15 "is_list" (spDoc isList Ts)) :
    FnOk P w K mg base (L2.CX P w) 16 f fd ["value"] (spReq C0 Ts) := by
  refine F.okX sc_require_document (fun vs H Q E h => ?_) (fun cdv A outer s H vs Q E hr h => ?_)
  · obtain ⟨v, d, rfl, _⟩ := h; rfl
  obtain ⟨v, d, rfl, hR, ho, hG, q, qe⟩ := h
  refine ⟨_, (pss_one (ps_if (PW.pt (pw_and (pt_not (pt_val (c_is_charter.pe hr (pa_cons (pv 0) pa_nil)))) (pw_and (pt_not (pt_val (c_is_stamp.pe hr (pa_cons (pv 0) pa_nil)))) (pw_and (pt_not (pt_val (c_is_shelf.pe hr (pa_cons (pv 0) pa_nil)))) (pw_and1 (pt_not (pt_val (c_is_list.pe hr (pa_cons (pv 0) pa_nil))))))))) (pss_one (T.BadDocument.raise (takes_of rfl rfl rfl rfl))) pss_nil)), ?_⟩
  walk_at "wp"
  refine ⟨v, d, rfl, hR, ho, hG, fun H1 k1 g1 => ⟨_, rfl, ?_⟩⟩
  cases h1 : isCharter d with
  | true => rw [if_neg (by decide)]; exact q (by unfold isDoc; rw [h1]; rfl) H1 k1 g1
  | false =>
  rw [if_pos rfl]
  refine ⟨v, d, rfl, hR.tabs k1 hG, ho, g1, fun H2 k2 g2 => ⟨_, rfl, ?_⟩⟩
  have K2 := k1.trans k2
  cases h2 : isStamp d with
  | true => rw [if_neg (by decide)]; exact q (by unfold isDoc; rw [h1, h2]; rfl) H2 K2 g2
  | false =>
  rw [if_pos rfl]
  refine ⟨v, d, rfl, hR.tabs K2 hG, ho, g2, fun H3 k3 g3 => ⟨_, rfl, ?_⟩⟩
  have K3 := K2.trans k3
  cases h3 : isShelf d with
  | true => rw [if_neg (by decide)]; exact q (by unfold isDoc; rw [h1, h2, h3]; rfl) H3 K3 g3
  | false =>
  rw [if_pos rfl]
  refine ⟨v, d, rfl, hR.tabs K3 hG, ho, g3, fun H4 k4 g4 => ⟨_, rfl, ?_⟩⟩
  have K4 := K3.trans k4
  cases h4 : isList d with
  | true => rw [if_neg (by decide)]; exact q (by unfold isDoc; rw [h1, h2, h3, h4]; rfl) H4 K4 g4
  | false => rw [if_pos rfl]; exact qe (by unfold isDoc; rw [h1, h2, h3, h4]; rfl) H4 K4 g4
end
/-! published_name -/
abbrev s_published_name : Stmt := top 57
abbrev N_published_name : List Str := ["document"]
theorem sc_published_name : FnScope N_published_name ["document"] (defScope s_published_name) := ⟨rfl, rfl, rfl, by decide +kernel, rfl, by decide +kernel, by decide +kernel⟩
def intD : PyData → Int
  | .int i => i
  | _ => 0
def pubN (d : PyData) : Str :=
  if strD (ixD d 0) = Str.ofString "charter" then vS (intD (ixD d 1)) ++ Str.ofString ".charter"
  else if strD (ixD d 0) = Str.ofString "stamp" then Str.ofString "stamp"
  else if strD (ixD d 0) = Str.ofString "shelf" then vS (intD (ixD d 1)) ++ Str.ofString ".shelf"
  else vS (intD (ixD d 2)) ++ Str.ofString "." ++ strD (ixD d 1) ++ Str.ofString ".list"
theorem eqS_of {k : Str} {H : Hp} {v : V} {d : PyData} (r : Rq H v d) (h : eqS k d = true) : v = .str k ∧ d = .str k := by
  cases r with
  | str z =>
    have h : decide (z = k) = true := h
    rw [of_decide_eq_true h]; exact ⟨rfl, rfl⟩
  | _ => cases h
theorem head4 {k : Str} {H : Hp} {v : V} {d : PyData} (r : Rq H v d) (h : headB k 4 d = true) : ∃ (p : Addr) (x1 x2 x3 : V) (d1 d2 d3 : PyData), v = .ref p ∧ H p = some (.tup [.str k, x1, x2, x3]) ∧ d = .tuple [.str k, d1, d2, d3] ∧ Rq H x1 d1 := by
  unfold headB at h
  rw [Bool.and_eq_true] at h
  obtain ⟨p, xs, ds, rfl, ep, rfl, rr, l1, l2⟩ := tupB_of r h.1
  obtain ⟨x0, x1, x2, x3, d0, d1, d2, d3, rfl, rfl, R0, R1, R2, R3⟩ := rq4 rr (by omega)
  obtain ⟨rfl, rfl⟩ := eqS_of R0 (show eqS k d0 = true from h.2)
  exact ⟨p, x1, x2, x3, d1, d2, d3, rfl, ep, rfl, R1⟩
def spPub (C0 : Addr) (Ts : List Addr) : Sp := fun vs H Q E => ∃ (v : V) (d : PyData), vs = [v] ∧ Rq H v d ∧ okD 12 d = true ∧ Tabs Ts H ∧ (isDoc d = true → ∀ H', Kp Ts H H' → Tabs Ts H' → Q (.str (pubN d)) H') ∧ (isDoc d = false → ∀ H', Kp Ts H H' → Tabs Ts H' → E (.ref C0) none H')
section
variable {P : Program} {w : World} {K : PySem.W.Frag} {mg : Str → Option Value} {base : Heap} {f : Addr} {fd : FuncData} {C0 : Addr} {Ts : List Addr}
theorem ok_pub (F : Fun K "published_name" "published_name" s_published_name f fd) (B : Blt mg) (hSN : ∃ t, mg "STAMP_NAME" = some (.str "stamp" t)) (c_require_document : Cal P w K mg base (L2.CX P w) 16 "_require_document" (spReq C0 Ts)) (c_name_of_charter : Cal P w K mg base CX0 1 "name_of_charter" (spNmC (Str.ofString ".charter"))) (c_name_of_shelf : Cal P w K mg base CX0 1 "name_of_shelf" (spNmC (Str.ofString ".shelf"))) (c_name_of_list : Cal P w K mg base CX0 1 "name_of_list" spNmL) :
    FnOk P w K mg base (L2.CX P w) 17 f fd ["document"] (spPub C0 Ts) := by
  refine F.okX sc_published_name (fun vs H Q E h => ?_) (fun cdv A outer s H vs Q E hr h => ?_)
  · obtain ⟨v, d, rfl, _⟩ := h; rfl
  obtain ⟨v, d, rfl, hR, ho, hG, q, qe⟩ := h
  refine ⟨_, (pss_cons (ps_expr (c_require_document.pex hr (passX (takes_of rfl rfl rfl rfl) fun _ _ _ _ h => h) (pa_cons (pv 0) pa_nil)))
    (pss_cons (ps_if (pt_cmpR op_eq (pe_ix ix_tM (pv 0) pe_int (fun _ _ => rfl)) pe_str (nomark _)) (pss_one (ps_ret (c_name_of_charter.pe hr (pa_cons (pe_ix ix_tM (pv 0) pe_int (fun _ _ => rfl)) pa_nil)))) pss_nil)
    (pss_cons (ps_if (pt_cmpR op_eq (pe_ix ix_tM (pv 0) pe_int (fun _ _ => rfl)) pe_str (nomark _)) (pss_one (ps_ret (pe_cSE hSN))) pss_nil)
    (pss_cons (ps_if (pt_cmpR op_eq (pe_ix ix_tM (pv 0) pe_int (fun _ _ => rfl)) pe_str (nomark _)) (pss_one (ps_ret (c_name_of_shelf.pe hr (pa_cons (pe_ix ix_tM (pv 0) pe_int (fun _ _ => rfl)) pa_nil)))) pss_nil)
    (pss_one (ps_ret (c_name_of_list.pe hr (pa_cons (pe_ix ix_tM (pv 0) pe_int (fun _ _ => rfl)) (pa_cons (pe_ix ix_tM (pv 0) pe_int (fun _ _ => rfl)) pa_nil))))))))), ?_⟩
  walk_at "wp"
  refine ⟨v, d, rfl, hR, ho, hG, fun hd H1 k1 g1 => ?_, qe⟩
  have R1 := hR.tabs k1 hG
  have q := q hd H1 k1 g1
  have n1 : (V.str (Str.ofString "stamp") = V.str (Str.ofString "charter")) = False := eq_false (by decide +kernel)
  unfold isDoc at hd
  rw [Bool.or_eq_true, Bool.or_eq_true, Bool.or_eq_true] at hd
  rcases hd with ((h | h) | h) | h
  · unfold isCharter at h
    rw [Bool.and_eq_true, Bool.and_eq_true] at h
    obtain ⟨p, x1, x2, x3, d1, d2, d3, rfl, ep, rfl, r1⟩ := head4 R1 h.1
    obtain ⟨i, rfl, rfl, i1, i2⟩ := numB_of r1 (show numB 1 1000000000000 d1 = true from h.2.1)
    refine ⟨p, rfl, _, ep, _, at0, rfl, ?_⟩
    rw [if_pos rfl]
    exact ⟨p, rfl, _, ep, _, rfl, i, rfl, by omega, i2, q⟩
  · unfold isStamp at h
    rw [Bool.and_eq_true] at h
    obtain ⟨p, x1, x2, x3, d1, d2, d3, rfl, ep, rfl, r1⟩ := head4 R1 h.1
    refine ⟨p, rfl, _, ep, _, at0, rfl, ?_⟩
    rw [if_neg (fun e => absurd (V.str.inj e) (by decide +kernel))]
    refine ⟨p, rfl, _, ep, _, at0, rfl, ?_⟩
    rw [if_pos rfl]
    exact q
  · unfold isShelf at h
    rw [Bool.and_eq_true, Bool.and_eq_true] at h
    obtain ⟨p, x1, x2, x3, d1, d2, d3, rfl, ep, rfl, r1⟩ := head4 R1 h.1
    obtain ⟨i, rfl, rfl, i1, i2⟩ := numB_of r1 (show numB 1 1000000000000 d1 = true from h.2.1)
    refine ⟨p, rfl, _, ep, _, at0, rfl, ?_⟩
    rw [if_neg (fun e => absurd (V.str.inj e) (by decide +kernel))]
    refine ⟨p, rfl, _, ep, _, at0, rfl, ?_⟩
    rw [if_neg (fun e => absurd (V.str.inj e) (by decide +kernel))]
    refine ⟨p, rfl, _, ep, _, at0, rfl, ?_⟩
    rw [if_pos rfl]
    exact ⟨p, rfl, _, ep, _, rfl, i, rfl, by omega, i2, q⟩
  · unfold isList headB at h
    simp only [Bool.and_eq_true] at h
    obtain ⟨⟨h1, h0⟩, hn, hv, _⟩ := h
    obtain ⟨p, xs, ds, rfl, ep, rfl, rr, l1, l2⟩ := tupB_of R1 h1
    obtain ⟨x0, x1, x2, x3, x4, x5, d0, d1, d2, d3, d4, d5, rfl, rfl, r0, r1, r2, _, _, _⟩ := rq6 rr (by omega)
    obtain ⟨rfl, rfl⟩ := eqS_of r0 (show eqS (Str.ofString "list") d0 = true from h0)
    obtain ⟨i, rfl, rfl, i1, i2⟩ := numB_of r2 (show numB 1 1000000000000 d2 = true from hv)
    have hn : lnD d1 = true := hn
    obtain ⟨z, rfl, rfl⟩ : ∃ z, x1 = .str z ∧ d1 = .str z := isS_of r1 (by cases d1 <;> first | rfl | cases hn)
    have lz := (ln_low (show lnS z = true from hn)).1
    refine ⟨p, rfl, _, ep, _, at0, rfl, ?_⟩
    rw [if_neg (fun e => absurd (V.str.inj e) (by decide +kernel))]
    refine ⟨p, rfl, _, ep, _, at0, rfl, ?_⟩
    rw [if_neg (fun e => absurd (V.str.inj e) (by decide +kernel))]
    refine ⟨p, rfl, _, ep, _, at0, rfl, ?_⟩
    rw [if_neg (fun e => absurd (V.str.inj e) (by decide +kernel))]
    exact ⟨p, rfl, _, ep, _, rfl, p, rfl, _, ep, _, rfl, z, i, rfl, by omega, by omega, i2, q⟩
end
/-! documents as trees, and their texts -/
mutual
theorem Rq.rep {H : Hp} : ∀ (n : Nat) {v : V} {d : PyData}, Rq H v d → pl n (trD d) = true → Rep H v (trD d)
  | _, _, _, .int i, _ => .int i
  | _, _, _, .str z, _ => .str z
  | 0, _, _, .tup _ _, h => by cases h
  | n + 1, _, _, .tup (ds := ds) e r, h => .tup e (r.rep n (show pls n (trDs ds) = true from h))
  | _, _, _, .non, h => by cases h
  | _, _, _, .bl _, h => by cases h
  | _, _, _, .lst _ _, h => by cases h
theorem RqA.rep {H : Hp} : ∀ (n : Nat) {vs : List V} {ds : List PyData}, RqA H vs ds → pls n (trDs ds) = true → RepAll H vs (trDs ds)
  | _, _, _, .nil, _ => .nil
  | n, _, _, .cons (d := d) (ds := ds) a b, h => by
    have h : (pl n (trD d) && pls n (trDs ds)) = true := h
    rw [Bool.and_eq_true] at h
    exact .cons (a.rep n h.1) (b.rep n h.2)
end
mutual
theorem Rep.rq {H : Hp} : ∀ (n : Nat) {v : V} {t : Tr}, Rep H v t → pl n t = true → Rq H v (dT t)
  | _, _, _, .int i, _ => .int i
  | _, _, _, .str z, _ => .str z
  | 0, _, _, .tup _ _, h => by cases h
  | n + 1, _, _, .tup (ts := ts) e r, h => .tup e (r.rq n (show pls n ts = true from h))
  | _, _, _, .oth _ _ _ _, h => by cases h
theorem RepAll.rq {H : Hp} : ∀ (n : Nat) {vs : List V} {ts : List Tr}, RepAll H vs ts → pls n ts = true → RqA H vs (dTs ts)
  | _, _, _, .nil, _ => .nil
  | n, _, _, .cons (t := t) (ts := ts) a b, h => by
    have h : (pl n t && pls n ts) = true := h
    rw [Bool.and_eq_true] at h
    exact .cons (a.rq n h.1) (b.rq n h.2)
end
/-- plain to the depth n, of a text of L signs at most -/
def Sz (n L : Nat) (d : PyData) : Prop := pl n (trD d) = true ∧ (txt (trD d)).length ≤ L
def Szs (n L : Nat) (ds : List PyData) : Prop := pls n (trDs ds) = true ∧ (txts (trDs ds)).length ≤ L
theorem szs_nil {n : Nat} : Szs n 0 [] := ⟨rfl, Nat.zero_le _⟩
theorem szs_cons {n a b : Nat} {d : PyData} {ds : List PyData} (h : Sz n a d) (g : Szs n b ds) : Szs n (a + b) (d :: ds) := by
  refine ⟨?_, ?_⟩
  · show (pl n (trD d) && pls n (trDs ds)) = true
    rw [h.1, g.1]; rfl
  · show (txt (trD d) ++ txts (trDs ds)).length ≤ _
    rw [List.length_append]
    have := h.2
    have := g.2
    omega
theorem szs_all {n a : Nat} : ∀ {m : Nat} {ds : List PyData}, (∀ d ∈ ds, Sz n a d) → ds.length ≤ m → Szs n (m * a) ds
  | _, [], _, _ => ⟨rfl, Nat.zero_le _⟩
  | 0, _ :: _, _, h => absurd h (by simp)
  | m + 1, d :: ds, h, l => by
    have := szs_cons (h d List.mem_cons_self) (szs_all (m := m) (fun e he => h e (List.mem_cons_of_mem _ he)) (by simp only [List.length_cons] at l; omega))
    rw [show (m + 1) * a = a + m * a by rw [Nat.succ_mul, Nat.add_comm]]
    exact this
theorem sz_tup {n L : Nat} {ds : List PyData} (h : Szs n L ds) : Sz (n + 1) (L + 2) (.tuple ds) := by
  refine ⟨h.1, ?_⟩
  show (91 :: (txts (trDs ds) ++ [93])).length ≤ _
  rw [List.length_cons, List.length_append]
  have := h.2
  show _ + 1 + 1 ≤ _
  omega
theorem sz_mono {n m a b : Nat} {d : PyData} (h : Sz n a d) (h1 : n ≤ m) (h2 : a ≤ b) : Sz m b d := ⟨pl_mono n m _ h1 h.1, Nat.le_trans h.2 h2⟩
theorem sz_int {n : Nat} {i : Int} (h0 : 0 ≤ i) (h1 : i ≤ 1000000000000) : Sz n 14 (.int i) := by
  refine ⟨?_, ?_⟩
  · show (decide (0 ≤ i) && decide (i ≤ 99999999999999999999)) = true
    rw [decide_eq_true h0, decide_eq_true (show i ≤ 99999999999999999999 by omega)]; rfl
  · show (dig i.toNat ++ [46]).length ≤ _
    rw [List.length_append]
    have : (dig i.toNat).length ≤ 13 := TL.numL_len (by decide) (show i.toNat < 10 ^ 13 by omega)
    show _ + 1 ≤ _
    omega
theorem sz_str {n m : Nat} {z : Str} (h : prn z = true) (l : z.length ≤ m) (hm : m < 100) : Sz n (m + 3) (.str z) := by
  refine ⟨h, ?_⟩
  show (dig z.length ++ 58 :: TL.tl z).length ≤ _
  rw [List.length_append, List.length_cons, ← TL.len_tl]
  have : (dig z.length).length ≤ 2 := TL.numL_len (by decide) (show z.length < 10 ^ 2 by omega)
  omega
theorem sz_num {n : Nat} {lo hi : Int} {d : PyData} (h : numB lo hi d = true) (h0 : 0 ≤ lo) (h1 : hi ≤ 1000000000000) : Sz n 14 d := by
  cases d with
  | int i =>
    have h : (decide (lo ≤ i) && decide (i ≤ hi)) = true := h
    rw [Bool.and_eq_true, decide_eq_true_eq, decide_eq_true_eq] at h
    exact sz_int (by omega) (by omega)
  | _ => cases h
theorem inT_prn {m z : Str} (h : inT m z = true) (hm : ∀ c ∈ m.cps.toList, prc c = true) : prn z = true := by
  unfold prn
  unfold inT at h
  rw [List.all_eq_true] at h ⊢
  exact fun c hc => hm c (of_decide_eq_true (h c hc))
theorem joinL_in {s c : Nat} : ∀ {l : List (List Nat)}, c ∈ TL.joinL [s] l → c = s ∨ ∃ p ∈ l, c ∈ p
  | [], h => by cases h
  | [p], h => .inr ⟨p, List.mem_cons_self, h⟩
  | p :: q :: r, h => by
    have h : c ∈ p ++ ([s] ++ TL.joinL [s] (q :: r)) := h
    rcases List.mem_append.mp h with h | h
    · exact .inr ⟨p, List.mem_cons_self, h⟩
    · rcases List.mem_append.mp h with h | h
      · exact .inl (List.mem_singleton.mp h)
      · rcases joinL_in h with h | ⟨x, hx, h⟩
        · exact .inl h
        · exact .inr ⟨x, List.mem_cons_of_mem _ hx, h⟩
theorem hpS_prn {m z : Str} (h : hpS m z = true) (hm : ∀ c ∈ m.cps.toList, prc c = true) : prn z = true ∧ z.length ≤ 60 := by
  unfold hpS at h
  rw [Bool.and_eq_true, Bool.and_eq_true, decide_eq_true_eq] at h
  refine ⟨?_, h.1.1⟩
  unfold prn
  rw [List.all_eq_true]
  intro c hc
  obtain ⟨p, ps, e1, e2, _, _⟩ := split_one z 47 (by decide)
  have hc : c ∈ TL.tl z := hc
  rw [← e2, ← e1] at hc
  rcases joinL_in hc with rfl | ⟨q, hq, hc⟩
  · decide
  · obtain ⟨y, hy, rfl⟩ := List.mem_map.mp hq
    have ha := List.all_eq_true.mp h.2 y hy
    rw [Bool.and_eq_true] at ha
    have hi := ha.2
    unfold inT at hi
    rw [List.all_eq_true] at hi
    exact hm c (of_decide_eq_true (hi c hc))
theorem tupB_d {a b : Nat} {d : PyData} (h : tupB a b d = true) : ∃ ds, d = .tuple ds ∧ a ≤ ds.length ∧ ds.length ≤ b := by
  cases d with
  | tuple ds =>
    have h : (decide (a ≤ ds.length) && decide (ds.length ≤ b)) = true := h
    rw [Bool.and_eq_true, decide_eq_true_eq, decide_eq_true_eq] at h
    exact ⟨ds, rfl, h.1, h.2⟩
  | _ => cases h
theorem tup2_d {d : PyData} (h : tupB 2 2 d = true) : ∃ a b, d = .tuple [a, b] := by
  obtain ⟨ds, rfl, h1, h2⟩ := tupB_d h
  match ds, h1, h2 with
  | [a, b], _, _ => exact ⟨a, b, rfl⟩
  | [], h, _ => exact absurd h (by simp)
  | [_], h, _ => exact absurd h (by simp)
  | _ :: _ :: _ :: _, _, h => exact absurd h (by simp)
theorem tup3_d {d : PyData} (h : tupB 3 3 d = true) : ∃ a b c, d = .tuple [a, b, c] := by
  obtain ⟨ds, rfl, h1, h2⟩ := tupB_d h
  match ds, h1, h2 with
  | [a, b, c], _, _ => exact ⟨a, b, c, rfl⟩
  | [], h, _ => exact absurd h (by simp)
  | [_], h, _ => exact absurd h (by simp)
  | [_, _], h, _ => exact absurd h (by simp)
  | _ :: _ :: _ :: _ :: _, _, h => exact absurd h (by simp)
theorem tup4_d {d : PyData} (h : tupB 4 4 d = true) : ∃ a b c e, d = .tuple [a, b, c, e] := by
  obtain ⟨ds, rfl, h1, h2⟩ := tupB_d h
  match ds, h1, h2 with
  | [a, b, c, e], _, _ => exact ⟨a, b, c, e, rfl⟩
  | [], h, _ => exact absurd h (by simp)
  | [_], h, _ => exact absurd h (by simp)
  | [_, _], h, _ => exact absurd h (by simp)
  | [_, _, _], h, _ => exact absurd h (by simp)
  | _ :: _ :: _ :: _ :: _ :: _, _, h => exact absurd h (by simp)
theorem tup6_d {d : PyData} (h : tupB 6 6 d = true) : ∃ a b c e f g, d = .tuple [a, b, c, e, f, g] := by
  obtain ⟨ds, rfl, h1, h2⟩ := tupB_d h
  match ds, h1, h2 with
  | [a, b, c, e, f, g], _, _ => exact ⟨a, b, c, e, f, g, rfl⟩
  | [], h, _ => exact absurd h (by simp)
  | [_], h, _ => exact absurd h (by simp)
  | [_, _], h, _ => exact absurd h (by simp)
  | [_, _, _], h, _ => exact absurd h (by simp)
  | [_, _, _, _], h, _ => exact absurd h (by simp)
  | [_, _, _, _, _], h, _ => exact absurd h (by simp)
  | _ :: _ :: _ :: _ :: _ :: _ :: _ :: _, _, h => exact absurd h (by simp)
theorem ky_prn {z : Str} (h : kyS z = true) : prn z = true := by
  unfold prn
  rw [List.all_eq_true]
  intro c hc
  unfold kyS at h
  simp only [Bool.and_eq_true, decide_eq_true_eq] at h
  obtain ⟨⟨⟨h1, h2⟩, h3⟩, h4⟩ := h
  have hl : z.cps.toList.length = z.length := cps_lenP z
  cases e : z.cps.toList with
  | nil => rw [e] at hl; simp at hl; omega
  | cons d r =>
    have hc : c ∈ d :: r := by rw [← e]; exact hc
    rw [e] at h3
    have h3 : d = 107 := Option.some.inj h3
    rcases List.mem_cons.mp hc with hc | hc
    · rw [hc, h3]; decide +kernel
    · unfold inT at h4
      rw [List.all_eq_true] at h4
      have e2 : (cutS z (some 1) none).cps.toList = r := by
        have := cut_from z 1
        rw [show TL.tl z = d :: r from e] at this
        exact this
      have := of_decide_eq_true (h4 c (by rw [e2]; exact hc))
      exact (by decide +kernel : ∀ c ∈ (Str.ofString "0123456789").cps.toList, prc c = true) c this
theorem sz_ky {n : Nat} {d : PyData} (h : kyD d = true) : Sz n 15 d := by
  cases d with
  | str z =>
    have h : kyS z = true := h
    refine sz_str (m := 12) (ky_prn h) ?_ (by decide)
    unfold kyS at h
    simp only [Bool.and_eq_true, decide_eq_true_eq] at h
    exact h.1.1.2
  | _ => cases h
theorem sz_ln {n : Nat} {d : PyData} (h : lnD d = true) : Sz n 15 d := by
  cases d with
  | str z =>
    have h : lnS z = true := h
    unfold lnS at h
    simp only [Bool.and_eq_true, decide_eq_true_eq] at h
    exact sz_str (m := 12) (inT_prn h.2 (by decide +kernel)) h.1.2 (by decide)
  | _ => cases h
theorem sz_dig {n : Nat} {d : PyData} (h : isDig d = true) : Sz n 21 d := by
  cases d with
  | str z =>
    have h : (decide (z.length = 18) && inT hexM z) = true := h
    rw [Bool.and_eq_true, decide_eq_true_eq] at h
    exact sz_str (m := 18) (inT_prn h.2 (by decide +kernel)) (by omega) (by decide)
  | _ => cases h
theorem sz_pa {n : Nat} {m : Str} {d : PyData} (h : paD m d = true) (hm : ∀ c ∈ m.cps.toList, prc c = true) : Sz n 63 d := by
  cases d with
  | str z =>
    obtain ⟨a, b⟩ := hpS_prn (show hpS m z = true from h) hm
    exact sz_str (m := 60) a b (by decide)
  | _ => cases h
theorem sz_eqS {n : Nat} {k : Str} {d : PyData} (h : eqS k d = true) (p : prn k = true) (l : k.length ≤ 7) : Sz n 10 d := by
  cases d with
  | str z =>
    have h : decide (z = k) = true := h
    rw [of_decide_eq_true h]
    exact sz_str (m := 7) p l (by decide)
  | _ => cases h
theorem sz_role {d : PyData} (h : isRole d = true) : Sz 2 258 d := by
  unfold isRole at h
  simp only [Bool.and_eq_true] at h
  obtain ⟨h1, h2, h3, _, h5⟩ := h
  obtain ⟨a, b, rfl⟩ := tup2_d h1
  obtain ⟨ks, rfl, l1, l2⟩ := tupB_d (show tupB 1 16 b = true from h2)
  have h5 : numB 1 (ks.length : Nat) a = true := h5
  have h3 : ks.all kyD = true := h3
  have key : Sz 1 (16 * 15 + 2) (.tuple ks) := sz_tup (szs_all (fun d m => sz_ky (List.all_eq_true.mp h3 d m)) l2)
  exact sz_mono (sz_tup (szs_cons (sz_num h5 (by decide) (by omega)) (szs_cons key szs_nil))) (by decide) (by decide)
theorem sz_entry {d : PyData} (h : isEntry d = true) : Sz 1 51 d := by
  unfold isEntry at h
  simp only [Bool.and_eq_true] at h
  obtain ⟨h1, h2, h3, h4⟩ := h
  obtain ⟨a, b, c, rfl⟩ := tup3_d h1
  exact sz_mono (sz_tup (szs_cons (sz_num (n := 0) (show numB 1 1000000000000 a = true from h2) (by decide) (by decide)) (szs_cons (sz_num (n := 0) (show numB 0 1000000000000 b = true from h3) (by decide) (by decide)) (szs_cons (sz_dig (show isDig c = true from h4)) szs_nil)))) (by decide) (by decide)
theorem sz_NE {d : PyData} (h : isNE d = true) : Sz 1 66 d := by
  unfold isNE at h
  simp only [Bool.and_eq_true] at h
  obtain ⟨h1, h2, h3⟩ := h
  obtain ⟨a, b, c, e, rfl⟩ := tup4_d h1
  have h3 : isEntry (.tuple [b, c, e]) = true := h3
  unfold isEntry at h3
  simp only [Bool.and_eq_true] at h3
  obtain ⟨_, g1, g2, g3⟩ := h3
  exact sz_mono (sz_tup (szs_cons (sz_ln (show lnD a = true from h2)) (szs_cons (sz_num (n := 0) (show numB 1 1000000000000 b = true from g1) (by decide) (by decide)) (szs_cons (sz_num (n := 0) (show numB 0 1000000000000 c = true from g2) (by decide) (by decide)) (szs_cons (sz_dig (show isDig e = true from g3)) szs_nil))))) (by decide) (by decide)
theorem sz_good {d : PyData} (h : isGood d = true) : Sz 1 100 d := by
  unfold isGood at h
  simp only [Bool.and_eq_true] at h
  obtain ⟨h1, h2, h3, h4⟩ := h
  obtain ⟨a, b, c, rfl⟩ := tup3_d h1
  exact sz_mono (sz_tup (szs_cons (sz_pa (show paD paM a = true from h2) (by decide +kernel)) (szs_cons (sz_num (n := 0) (show numB 0 1000000000000 b = true from h3) (by decide) (by decide)) (szs_cons (sz_dig (show isDig c = true from h4)) szs_nil)))) (by decide) (by decide)
theorem sz_grant {d : PyData} (h : isGrant d = true) : Sz 3 795 d := by
  unfold isGrant at h
  simp only [Bool.and_eq_true] at h
  obtain ⟨h1, h2, _, h3, h4, h5, h6⟩ := h
  obtain ⟨a, b, c, e, rfl⟩ := tup4_d h1
  obtain ⟨ps, rfl, l1, l2⟩ := tupB_d (show tupB 1 8 c = true from h4)
  have h5 : ps.all (paD ptM) = true := h5
  have pat : Sz 2 (8 * 63 + 2) (.tuple ps) := sz_tup (szs_all (fun d m => sz_pa (List.all_eq_true.mp h5 d m) (by decide +kernel)) l2)
  exact sz_mono (sz_tup (szs_cons (sz_ln (show lnD a = true from h2)) (szs_cons (sz_role (show isRole b = true from h3)) (szs_cons pat (szs_cons (sz_num (show numB 0 1 e = true from h6) (by decide) (by decide)) szs_nil))))) (by decide) (by decide)
theorem sz_charter {d : PyData} (h : isCharter d = true) : Sz 4 1100 d := by
  unfold isCharter headB at h
  simp only [Bool.and_eq_true] at h
  obtain ⟨⟨h1, h0⟩, h2, h3, h4, h5⟩ := h
  obtain ⟨a, b, c, e, rfl⟩ := tup4_d h1
  obtain ⟨rs, rfl, l1, l2⟩ := tupB_d (show tupB 4 4 e = true from h4)
  have h5 : rs.all isRole = true := h5
  have roles : Sz 3 (4 * 258 + 2) (.tuple rs) := sz_tup (szs_all (fun d m => sz_role (List.all_eq_true.mp h5 d m)) l2)
  exact sz_mono (sz_tup (szs_cons (sz_eqS (show eqS (Str.ofString "charter") a = true from h0) (by decide +kernel) (by decide +kernel)) (szs_cons (sz_num (show numB 1 1000000000000 b = true from h2) (by decide) (by decide)) (szs_cons (sz_num (show numB 0 1000000000000 c = true from h3) (by decide) (by decide)) (szs_cons roles szs_nil))))) (by decide) (by decide)
theorem sz_stamp {d : PyData} (h : isStamp d = true) : Sz 2 100 d := by
  unfold isStamp headB at h
  simp only [Bool.and_eq_true] at h
  obtain ⟨⟨h1, h0⟩, h2, h3, h4⟩ := h
  obtain ⟨a, b, c, e, rfl⟩ := tup4_d h1
  exact sz_mono (sz_tup (szs_cons (sz_eqS (n := 1) (show eqS (Str.ofString "stamp") a = true from h0) (by decide +kernel) (by decide +kernel)) (szs_cons (sz_num (show numB 1 1000000000000 b = true from h2) (by decide) (by decide)) (szs_cons (sz_num (show numB 0 1000000000000 c = true from h3) (by decide) (by decide)) (szs_cons (sz_entry (show isEntry e = true from h4)) szs_nil))))) (by decide) (by decide)
theorem sz_shelf {d : PyData} (h : isShelf d = true) : Sz 3 2200 d := by
  unfold isShelf headB at h
  simp only [Bool.and_eq_true] at h
  obtain ⟨⟨h1, h0⟩, h2, h3, h4, h5, _⟩ := h
  obtain ⟨a, b, c, e, rfl⟩ := tup4_d h1
  obtain ⟨rs, rfl, l1, l2⟩ := tupB_d (show tupB 1 32 e = true from h4)
  have h5 : rs.all isNE = true := h5
  have rows : Sz 2 (32 * 66 + 2) (.tuple rs) := sz_tup (szs_all (fun d m => sz_NE (List.all_eq_true.mp h5 d m)) l2)
  exact sz_mono (sz_tup (szs_cons (sz_eqS (show eqS (Str.ofString "shelf") a = true from h0) (by decide +kernel) (by decide +kernel)) (szs_cons (sz_num (show numB 1 1000000000000 b = true from h2) (by decide) (by decide)) (szs_cons (sz_num (show numB 0 1000000000000 c = true from h3) (by decide) (by decide)) (szs_cons rows szs_nil))))) (by decide) (by decide)
theorem sz_list {d : PyData} (h : isList d = true) : Sz 5 32000 d := by
  unfold isList headB at h
  simp only [Bool.and_eq_true] at h
  obtain ⟨⟨h1, h0⟩, h2, h3, h4, h5, h6, h7, _⟩ := h
  obtain ⟨a, b, c, e, g, r, rfl⟩ := tup6_d h1
  have h5b : isGoods g = true := h5
  unfold isGoods at h5b
  simp only [Bool.and_eq_true] at h5b
  obtain ⟨gs, rfl, l1, l2⟩ := tupB_d h5b.1
  obtain ⟨rs, rfl, l3, l4⟩ := tupB_d (show tupB 0 32 r = true from h6)
  have g5 : gs.all isGood = true := h5b.2.1
  have h7 : rs.all isGrant = true := h7
  have goods : Sz 2 (64 * 100 + 2) (.tuple gs) := sz_tup (szs_all (fun d m => sz_good (List.all_eq_true.mp g5 d m)) l2)
  have grants : Sz 4 (32 * 795 + 2) (.tuple rs) := sz_tup (szs_all (fun d m => sz_grant (List.all_eq_true.mp h7 d m)) l4)
  exact sz_mono (sz_tup (szs_cons (sz_eqS (show eqS (Str.ofString "list") a = true from h0) (by decide +kernel) (by decide +kernel)) (szs_cons (sz_ln (show lnD b = true from h2)) (szs_cons (sz_num (show numB 1 1000000000000 c = true from h3) (by decide) (by decide)) (szs_cons (sz_num (show numB 0 1000000000000 e = true from h4) (by decide) (by decide)) (szs_cons (sz_mono goods (by decide) (Nat.le_refl _)) (szs_cons grants szs_nil))))))) (by decide) (by decide)
/-! the law's digest, with a remainder at each step -/
abbrev s_law_digest : Stmt := top 89
abbrev N_law_digest : List Str := ["text", "number", "char", "digits", "k"]
theorem sc_law_digest : FnScope N_law_digest ["text"] (defScope s_law_digest) := ⟨rfl, rfl, rfl, by decide +kernel, rfl, by decide +kernel, by decide +kernel⟩
section
variable {P : Program} {w : World} {K : PySem.W.Frag} {mg : Str → Option Value} {base : Heap} {f : Addr} {fd : FuncData}
theorem ok_ldig (F : Fun K "_law_digest" "_law_digest" s_law_digest f fd) (B : Blt mg) : FnOk P w K mg base CX0 1 f fd ["text"] spLDig := by
  refine F.ok sc_law_digest (fun vs H Q E h => ?_) (fun cdv A outer s H vs Q E hr h => ?_)
  · obtain ⟨z, rfl, _⟩ := h; rfl
  obtain ⟨z, rfl, hz, q⟩ := h
  refine ⟨_, (pss_cons (ps_set (i := 1) sc_law_digest.nd rfl (Or.inl rfl) (pe_op op_add (B.len_s (pa_cons (pv 0) pa_nil)) pe_int))
    (pss_cons (ps_for PassesOwn.never rfl (pi_str (pv 0)) (pg_name (i := 2) sc_law_digest.nd rfl (Or.inl rfl)) (pss_one (ps_set (i := 1) sc_law_digest.nd rfl (Or.inl rfl) (pe_op op_mod (B.int_i (pa_cons (pe_op op_add (pe_op op_mul (pv 1) pe_int) (B.ord_ (pa_cons (pv 2) pa_nil))) pa_nil)) (pe_op op_sub (pe_op op_mul (pe_op op_pow pe_int pe_int) pe_int) pe_int)))))
    (pss_cons (ps_set (i := 3) sc_law_digest.nd rfl (Or.inl rfl) pe_str)
    (pss_cons (ps_for PassesOwn.never rfl (B.range1 (pa_cons pe_int pa_nil)) (pg_name (i := 4) sc_law_digest.nd rfl (Or.inl rfl)) (pss_cons (ps_set (i := 3) sc_law_digest.nd rfl (Or.inl rfl) (pe_op op_add_str (pe_ix ix_str pe_str (pe_op op_mod (B.int_i (pa_cons (pv 1) pa_nil)) pe_int) (fun _ _ => rfl)) (pv 3)))
    (pss_one (ps_set (i := 1) sc_law_digest.nd rfl (Or.inl rfl) (pe_op op_fdivW (pv 1) pe_int)))))
    (pss_one (ps_ret (pv 3))))))), ?_⟩
  walk_at "wp"
  have lim : sizeLine = 16777216 := sizeLine_eq
  refine ⟨by omega, _, rfl, z, rfl, ?_⟩
  refine for_it walk_str (fun i σ H' => H' = H ∧ ∃ o : Option V, σ = [some (.str z), some (.int (((z.cps.toList.take i).foldl dgF (z.length + 1) : Nat) : Int)), o, none, none]) ⟨rfl, _, rfl⟩ (fun _ _ _ _ _ => True.intro) (fun i x σ H1 H2 hi ⟨hH, o, hσ⟩ ⟨h2, c, hc, hx⟩ => ?_) (fun σ H1 ⟨hH, o, hσ⟩ => ?_)
  · subst hσ
    subst hx
    subst h2
    subst hH
    walk_at "wp"
    refine ⟨.inr ⟨by decide, by decide⟩, by rfl, ?_⟩
    rw [take1 (cps_at hc), List.foldl_append]
    generalize (z.cps.toList.take i).foldl dgF (z.length + 1) = a
    refine ⟨⟨by decide, by decide, by decide⟩, .inr ⟨by decide, by decide⟩, by decide, ?_, _, rfl⟩
    show ((a : Int) * 65599 + (c : Int)) % (2 ^ Int.toNat 64 * 128 - 231) = (((a * 65599 + c) % dgD : Nat) : Int)
    rw [Int.natCast_emod, Int.natCast_add, Int.natCast_mul, show (2 ^ Int.toNat 64 * 128 - 231 : Int) = ((dgD : Nat) : Int) by decide]
    rfl
  · subst hσ
    subst hH
    walk_at "wp"
    rw [take_cps, show z.length = z.cps.toList.length from (cps_len z).symm]
    have hd := dgN_lt z.cps.toList
    have q : Q (.str ⟨(hx18 (dgN z.cps.toList)).toArray⟩) H1 := q
    rw [hx18_ldx hd] at q
    show tFor _ _ _ _ [some (.str z), some (.int ((dgN z.cps.toList : Nat) : Int)), _, _, _] H1
    generalize dgN z.cps.toList = n at hd q ⊢
    refine ⟨18, rfl, by decide, by decide, for_range (lo := 0) (n := 18) (fun i σ H' => H' = H1 ∧ ∃ o4 : Option V, σ = [some (.str z), some (.int ((n / 16 ^ i : Nat) : Int)), o, some (.str ⟨(ldx i n).toArray⟩), o4]) ⟨rfl, _, by rw [Nat.pow_zero, Nat.div_one]; rfl⟩ (fun i σ H2 hi ⟨hH, o4, hσ⟩ => ?_) (fun σ H2 ⟨hH, o4, hσ⟩ => ?_)⟩
    · subst hσ
      subst hH
      walk_at "wp"
      refine ⟨by decide, Str.ofString "0123456789abcdef", ((n / 16 ^ i % 16 : Nat) : Int), (Nat.digitChar (n / 16 ^ i % 16)).toNat, rfl, by rw [Int.natCast_emod]; rfl, by decide +kernel, atI_nat (hx_at _ (Nat.mod_lt _ (by decide))), ⟨#[(Nat.digitChar (n / 16 ^ i % 16)).toNat]⟩, rfl, ?_, two200 (by decide) (by decide), rfl, ?_, ?_, _, rfl⟩
      · show 1 + (ldx i n).toArray.size ≤ _
        rw [List.size_toArray, ldx_len]; omega
      · rw [Nat.pow_succ, ← Nat.div_div_eq_div_mul, Int.natCast_ediv]; rfl
      · refine TL.ext_tl ?_
        rw [TL.tl_append]
        rfl
    · subst hσ
      subst hH
      walk_at "wp"
      exact q
end
/-! reading and writing documents -/
abbrev s_write : Stmt := top 56
abbrev N_write : List Str := ["document"]
theorem sc_write : FnScope N_write ["document"] (defScope s_write) := ⟨rfl, rfl, rfl, by decide +kernel, rfl, by decide +kernel, by decide +kernel⟩
abbrev kC : Str := Str.ofString "charter"
abbrev kT : Str := Str.ofString "stamp"
abbrev kF : Str := Str.ofString "shelf"
abbrev kL : Str := Str.ofString "list"
/-- a document of the kind k -/
def isK (k : Str) (d : PyData) : Bool := if k = kC then isCharter d else if k = kT then isStamp d else if k = kF then isShelf d else decide (k = kL) && isList d
theorem doc_sz {d : PyData} (h : isDoc d = true) : Sz 8 32000 d := by
  unfold isDoc at h
  rw [Bool.or_eq_true, Bool.or_eq_true, Bool.or_eq_true] at h
  rcases h with ((h | h) | h) | h
  · exact sz_mono (sz_charter h) (by decide) (by decide)
  · exact sz_mono (sz_stamp h) (by decide) (by decide)
  · exact sz_mono (sz_shelf h) (by decide) (by decide)
  · exact sz_mono (sz_list h) (by decide) (by decide)
def tx (d : PyData) : Str := ⟨(txt (trD d)).toArray⟩
theorem tx_len {d : PyData} (h : isDoc d = true) : (tx d).length ≤ 32000 := by
  unfold tx; rw [S_len]; exact (doc_sz h).2
theorem tx_prn {d : PyData} (h : isDoc d = true) : prn (tx d) = true := txt_prn (doc_sz h).1
theorem doc_sml {d : PyData} (h : isDoc d = true) : sml (trD d) = true := sml_of 8 _ (doc_sz h).1 (by have := (doc_sz h).2; omega)
def spWrite (C0 : Addr) (Ts : List Addr) : Sp := fun vs H Q E => ∃ (v : V) (d : PyData), vs = [v] ∧ Rq H v d ∧ okD 12 d = true ∧ Tabs Ts H ∧ (isDoc d = true → ∀ H', Kp Ts H H' → Tabs Ts H' → Q (.str (tx d)) H') ∧ (isDoc d = false → ∀ H', Kp Ts H H' → Tabs Ts H' → E (.ref C0) none H')
section
variable {P : Program} {w : World} {K : PySem.W.Frag} {mg : Str → Option Value} {base : Heap} {f : Addr} {fd : FuncData} {C0 CB Pt : Addr} {Ts : List Addr} {td tz tt : Tok}
theorem ok_write (F : Fun K "write" "write" s_write f fd) (B : Blt mg) (mt : Pt ∈ Ts) (c_require_document : Cal P w K mg base (L2.CX P w) 16 "_require_document" (spReq C0 Ts)) (c_encode : Cal P w K mg base (L2.CX P w) 23 "encode" (spEnc CB Pt)) :
    FnOk P w K mg base (L2.CX P w) 24 f fd ["document"] (spWrite C0 Ts) := by
  refine F.okX sc_write (fun vs H Q E h => ?_) (fun cdv A outer s H vs Q E hr h => ?_)
  · obtain ⟨v, d, rfl, _⟩ := h; rfl
  obtain ⟨v, d, rfl, hR, ho, hG, q, qe⟩ := h
  refine ⟨_, (pss_cons (ps_expr (c_require_document.pex hr (passX (takes_of rfl rfl rfl rfl) fun _ _ _ _ h => h) (pa_cons (pv 0) pa_nil)))
    (pss_one (ps_ret (c_encode.pex hr (passX (takes_of rfl rfl rfl rfl) fun _ _ _ _ h => h) (pa_cons (pv 0) pa_nil))))), ?_⟩
  walk_at "wp"
  refine ⟨v, d, rfl, hR, ho, hG, fun hd H1 k1 g1 => ?_, qe⟩
  have S := doc_sz hd
  exact ⟨v, trD d, rfl, (hR.tabs k1 hG).rep 8 S.1, doc_sml hd, g1 Pt mt, fun _ _ H2 k2 g2 => q hd H2 (k1.trans (k2.in1 mt)) (g1.kp1 k2 g2), fun no => absurd ⟨S.1, by have := S.2; omega⟩ no⟩
end
/-! role_of without the trusted set -/
abbrev s_role_of : Stmt := top 77
abbrev N_role_of : List Str := ["charter", "name"]
theorem sc_role_of : FnScope N_role_of ["charter", "name"] (defScope s_role_of) := ⟨rfl, rfl, rfl, by decide +kernel, rfl, by decide +kernel, by decide +kernel⟩
theorem ite_dec {p : Prop} [Decidable p] {A B : Prop} (h : p → A) (g : ¬ p → B) : if p then A else B := by
  by_cases c : p
  · rw [if_pos c]; exact h c
  · rw [if_neg c]; exact g c
theorem Kp.insT {S : List Addr} {H : Hp} {p C dx dy : Addr} {fs gs : List (Str × V)} (h : H p = some (.ins C dx fs)) (m : p ∈ S) : Kp S H (L2.upd H p (.ins C dy gs)) :=
  ⟨fun b u n q => by rw [upd_ne (fun z => n (by rw [z]; exact m))]; exact q, fun b xs q => by rw [upd_ne (ne_of q h (by intro z; cases z))]; exact q⟩
theorem Kp.gone1 {S : List Addr} {H H1 : Hp} (k : Kp S H H1) (g : ∀ b ∈ S, H1 b ≠ none) {e : Addr} (h : H1 e = none) : H e = none := by
  cases c : H e with
  | none => rfl
  | some o =>
    have n : e ∉ S := fun m => g e m h
    rw [k.keep e o n c] at h
    cases h
theorem Kp.gone {Ts : List Addr} {H H1 : Hp} (k : Kp Ts H H1) (g : Tabs Ts H1) {e : Addr} (h : H1 e = none) : H e = none := by
  cases c : H e with
  | none => rfl
  | some o =>
    have n : e ∉ Ts := fun m => by
      obtain ⟨ps, t, _⟩ := g e m
      rw [h] at t; cases t
    rw [k.keep e o n c] at h
    cases h
/-- a document of the kind k -/
def rnm : List Str := [kC, kT, kF, kL]
structure RnC (K : PySem.W.Frag) (mg : Str → Option Value) (R : Addr) : Prop where
  g : mg "_ROLE_NAMES" = some (.ref R)
  o : ∃ (o : Obj) (its : Array Value) (n : Nat), K.lookup R = some o ∧ o.cls = .type "tuple" ∧ o.dict = none ∧ o.data = .seq its n ∧ its.size ≤ sizeLine ∧ Vals (rnm.map V.str) its.toList
theorem RnC.s {K : PySem.W.Frag} {mg : Str → Option Value} {R : Addr} (h : RnC K mg R) (H : Hp) : SqT K H R (rnm.map V.str) := by
  obtain ⟨o, its, n, l, c, d, x, y, z⟩ := h.o
  exact .inr ⟨o, its, n, l, c, x, y, z⟩
theorem RnC.t {K : PySem.W.Frag} {mg : Str → Option Value} {R : Addr} (h : RnC K mg R) (H : Hp) : tyV K "tuple" (V.ref R) H := by
  obtain ⟨o, its, n, l, c, d, x, y, z⟩ := h.o
  exact .inr (.inl ⟨rfl, o, l, c, d⟩)
theorem Rq.part {a b : Nat} {H : Hp} {v : V} {d : PyData} (r : Rq H v d) (h : tupB a b d = true) {i : Nat} (hi : i < a) :
    ∃ (p : Addr) (xs : List V), v = .ref p ∧ H p = some (.tup xs) ∧ xs.length = (itD d).length ∧ RqA H xs (itD d) ∧ ∃ x, atI xs (i : Nat) = some x ∧ Rq H x (ixD d i) := by
  obtain ⟨p, xs, ds, rfl, ep, rfl, rr, l1, l2⟩ := tupB_of r h
  obtain ⟨x, hx, hr⟩ := rr.ix (i := i) (by omega)
  exact ⟨p, xs, rfl, ep, rr.len, rr, x, hx, hr⟩
theorem ch_tup {d : PyData} (h : isCharter d = true) : tupB 4 4 d = true := by
  unfold isCharter headB at h; simp only [Bool.and_eq_true] at h; exact h.1.1
theorem ch_rls {d : PyData} (h : isCharter d = true) : tupB 4 4 (ixD d 3) = true := by
  unfold isCharter headB at h; simp only [Bool.and_eq_true] at h; exact h.2.2.2.1
theorem ch_all {d : PyData} (h : isCharter d = true) : (itD (ixD d 3)).all isRole = true := by
  unfold isCharter headB at h; simp only [Bool.and_eq_true] at h; exact h.2.2.2.2
theorem tupB_len {a b : Nat} {d : PyData} (h : tupB a b d = true) : a ≤ (itD d).length ∧ (itD d).length ≤ b := by
  cases d with
  | tuple ds =>
    have h : (decide (a ≤ ds.length) && decide (ds.length ≤ b)) = true := h
    rw [Bool.and_eq_true, decide_eq_true_eq, decide_eq_true_eq] at h
    exact h
  | _ => cases h
theorem ix_mem {d : PyData} {i : Nat} (h : i < (itD d).length) : ixD d i ∈ itD d := getD_mem h
theorem rnm_nd : ∀ j < 4, ∀ m < j, rnm[m]? ≠ rnm[j]? := by decide +kernel
theorem rnm_lt0 {j : Nat} {n : Str} (h : rnm[j]? = some n) : j < 4 := (List.getElem?_eq_some_iff.mp h).1
theorem rnm_first {j : Nat} {n : Str} (h : rnm[j]? = some n) : ∀ m, m < j → rnm[m]? ≠ some n := fun m l e => rnm_nd j (rnm_lt0 h) m l (e.trans h.symm)
theorem rnm_lt {j : Nat} {n : Str} (h : rnm[j]? = some n) : j < 4 := (List.getElem?_eq_some_iff.mp h).1
theorem ch_role {d : PyData} (h : isCharter d = true) {j : Nat} (hj : j < 4) : isRole (ixD (ixD d 3) j) = true :=
  List.all_eq_true.mp (ch_all h) _ (ix_mem (by have := (tupB_len (ch_rls h)).1; omega))
/-- the role j of a charter -/
def rlD (d : PyData) (j : Nat) : PyData := ixD (ixD d 3) j
def spRoleOf : Sp := fun vs H Q _ => ∃ (v : V) (d : PyData) (n : Str) (j : Nat), vs = [v, .str n] ∧ Rq H v d ∧ isCharter d = true ∧ rnm[j]? = some n ∧ ∀ u, Rq H u (rlD d j) → Q u H
def getA {α : Type} (l : List (Str × α)) (n : Str) : Option α := (l.find? fun p => decide (p.1 = n)).map (·.2)
inductive KvD (H : Hp) : List (Key × V) → List (Str × PyData) → Prop
  | nil : KvD H [] []
  | cons {n : Str} {v : V} {d : PyData} {r : List (Key × V)} {l : List (Str × PyData)} : Rq H v d → KvD H r l → KvD H ((Sum.inr n, v) :: r) ((n, d) :: l)
theorem KvD.val {H : Hp} {n : Str} : ∀ {kvs : List (Key × V)} {l : List (Str × PyData)}, KvD H kvs l → (∃ v d, valV kvs (Sum.inr n) = some v ∧ getA l n = some d ∧ Rq H v d) ∨ (valV kvs (Sum.inr n) = none ∧ getA l n = none)
  | _, _, .nil => .inr ⟨rfl, rfl⟩
  | _, _, .cons (n := m) (v := v) (d := d) h r => by
    by_cases e : m = n
    · exact .inl ⟨v, d, valV_pos (by rw [e]), by simp [getA, List.find?_cons, e], h⟩
    · have := r.val (n := n)
      rw [valV_neg (fun z => e (Sum.inr.inj z))]
      simp only [getA, List.find?_cons, e, decide_false]
      exact this
theorem KvD.kp {S : List Addr} {H H' : Hp} (k : Kp S H H') : ∀ {kvs : List (Key × V)} {l : List (Str × PyData)}, KvD H kvs l → (∀ p ∈ l, purD p.2 = true) → KvD H' kvs l
  | _, _, .nil, _ => .nil
  | _, _, .cons h r, p => .cons (h.pure k (p _ List.mem_cons_self)) (r.kp k fun q m => p q (List.mem_cons_of_mem _ m))
theorem getA_mem {α : Type} {l : List (Str × α)} {n : Str} {a : α} (h : getA l n = some a) : (n, a) ∈ l := by
  unfold getA at h
  obtain ⟨p, e, rfl⟩ := Option.map_eq_some_iff.mp h
  have := List.find?_some e
  have m := List.mem_of_find?_eq_some e
  rw [decide_eq_true_eq] at this
  rw [← this]; exact m
section
variable {P : Program} {w : World} {K : PySem.W.Frag} {mg : Str → Option Value} {base : Heap} {f : Addr} {fd : FuncData} {C CB CD CR R : Addr} {Ts : List Addr}
theorem ok_roleof (F : Fun K "role_of" "role_of" s_role_of f fd) (RN : RnC K mg R) : FnOk P w K mg base CX0 1 f fd ["charter", "name"] spRoleOf := by
  refine F.ok sc_role_of (fun vs H Q E h => ?_) (fun cdv A outer s H vs Q E hr h => ?_)
  · obtain ⟨v, d, n, j, rfl, _⟩ := h; rfl
  obtain ⟨v, d, n, j, rfl, hR, hc, hn, q⟩ := h
  refine ⟨_, (pss_one (ps_ret (pe_ix ix_tM (pe_ix ix_tM (pv 0) pe_int (fun _ _ => rfl)) (pe_bm PySem.F.plainAttrs_tuple PySem.F.slot_tuple_index PySem.F.type_tuple_index mt_tup_index (pe_glob (v := .ref R) rfl RN.g rfl) (pa_cons (pv 1) pa_nil)) (fun _ _ => rfl)))), ?_⟩
  walk_at "wq"
  obtain ⟨p, xs, rfl, ep, _, _, x, hx, rx⟩ := hR.part (ch_tup hc) (i := 3) (by omega)
  obtain ⟨b, ys, rfl, eb, _, _, y, hy, ry⟩ := rx.part (ch_rls hc) (i := j) (rnm_lt hn)
  exact ⟨p, rfl, xs, ep, _, hx, RN.t H, rnm, RN.s H, j, hn, rnm_first hn, b, rfl, ys, eb, y, hy, q y ry⟩
end
/-! dicts with text keys: put, keys, places -/
def putA {α : Type} (l : List (Str × α)) (n : Str) (t : α) : List (Str × α) :=
  if (l.any fun p => decide (p.1 = n)) = true then l.map (fun p => if p.1 = n then (p.1, t) else p) else l ++ [(n, t)]
theorem KvD.put {H : Hp} {n : Str} {v : V} {d : PyData} (r : Rq H v d) : ∀ {kvs : List (Key × V)} {l : List (Str × PyData)}, KvD H kvs l → KvD H (putK kvs (Sum.inr n) v) (putA l n d) := by
  intro kvs l h
  have any : ∀ {kvs : List (Key × V)} {l : List (Str × PyData)}, KvD H kvs l → (kvs.any fun kv => decide (kv.1 = (Sum.inr n : Key))) = l.any fun p => decide (p.1 = n) := by
    intro kvs l h
    induction h with
    | nil => rfl
    | @cons m _ _ _ _ _ _ ih =>
      rw [List.any_cons, List.any_cons, ih]
      congr 1
      exact decide_eq_decide.mpr ⟨fun e => Sum.inr.inj e, fun e => congrArg Sum.inr e⟩
  have mp : ∀ {kvs : List (Key × V)} {l : List (Str × PyData)}, KvD H kvs l → KvD H (kvs.map fun kv => if kv.1 = (Sum.inr n : Key) then (kv.1, v) else kv) (l.map fun p => if p.1 = n then (p.1, d) else p) := by
    intro kvs l h
    induction h with
    | nil => exact .nil
    | @cons m _ _ _ _ a _ ih =>
      rw [List.map_cons, List.map_cons]
      by_cases e : m = n
      · subst e
        rw [if_pos rfl, if_pos rfl]
        exact .cons r ih
      · rw [if_neg (fun z => e (Sum.inr.inj z)), if_neg e]
        exact .cons a ih
  have ap : ∀ {kvs : List (Key × V)} {l : List (Str × PyData)}, KvD H kvs l → KvD H (kvs ++ [(Sum.inr n, v)]) (l ++ [(n, d)]) := by
    intro kvs l h
    induction h with
    | nil => exact .cons r .nil
    | cons a _ ih => exact .cons a ih
  unfold putK putA
  rw [any h]
  split
  · exact mp h
  · exact ap h
theorem putA_mem {α : Type} {l : List (Str × α)} {n : Str} {t : α} {p : Str × α} (h : p ∈ putA l n t) : p ∈ l ∨ p = (n, t) := by
  unfold putA at h
  split at h
  · obtain ⟨q, m, rfl⟩ := List.mem_map.mp h
    split
    · rename_i c; subst c; exact .inr rfl
    · exact .inl m
  · rcases List.mem_append.mp h with m | m
    · exact .inl m
    · exact .inr (List.mem_singleton.mp m)
theorem kp_dk {S : List Addr} {H : Hp} {a : Addr} {kvs kvs' : List (Key × V)} (e : H a = some (.dK kvs)) (m : a ∈ S) : Kp S H (upd H a (.dK kvs')) :=
  ⟨fun b u nb h => by rw [upd_ne (fun e => nb (by rw [e]; exact m))]; exact h, fun b us h => by rw [upd_ne (ne_of h e (by intro e; cases e))]; exact h⟩
theorem KvD.len {H : Hp} : ∀ {kvs : List (Key × V)} {l : List (Str × PyData)}, KvD H kvs l → kvs.length = l.length
  | _, _, .nil => rfl
  | _, _, .cons _ b => by rw [List.length_cons, List.length_cons, b.len]
theorem KvD.keys {H : Hp} : ∀ {kvs : List (Key × V)} {l : List (Str × PyData)}, KvD H kvs l → kvs.map (·.1) = (l.map (·.1)).map Sum.inr
  | _, _, .nil => rfl
  | _, _, .cons _ b => by rw [List.map_cons, List.map_cons, List.map_cons, b.keys]
theorem KvD.at {H : Hp} : ∀ {kvs : List (Key × V)} {l : List (Str × PyData)} {i : Nat} {k : Key} {v : V}, KvD H kvs l → kvs[i]? = some (k, v) → ∃ n d, l[i]? = some (n, d) ∧ k = Sum.inr n ∧ Rq H v d
  | _, _, _, _, _, .nil, h => by cases h
  | _, _, 0, _, _, .cons a b, h => by cases h; exact ⟨_, _, rfl, rfl, a⟩
  | _, _, i + 1, _, _, .cons a b, h => b.at (i := i) h
/-! the workshop: its state -/
/-- strings without their doubles, in order -/
def insU (k : Str) : List Str → List Str
  | [] => [k]
  | x :: r => if k = x then x :: r else if lt k x = true then k :: x :: r else x :: insU k r
def uq (ks : List Str) : List Str := ks.foldr insU []
theorem insU_mem {k z : Str} : ∀ l : List Str, z ∈ insU k l ↔ z = k ∨ z ∈ l
  | [] => by simp [insU]
  | x :: r => by
    unfold insU
    split
    · rename_i e; subst e; simp
    · split
      · simp
      · rw [List.mem_cons, insU_mem r, List.mem_cons]
        constructor
        · rintro (h | h | h)
          · exact .inr (.inl h)
          · exact .inl h
          · exact .inr (.inr h)
        · rintro (h | h | h)
          · exact .inr (.inl h)
          · exact .inl h
          · exact .inr (.inr h)
theorem insU_asc {k : Str} : ∀ {l : List Str}, asc l = true → asc (insU k l) = true
  | [], _ => rfl
  | x :: r, h => by
    unfold insU
    split
    · exact h
    · rename_i n
      split
      · rename_i c
        exact asc_cons.mpr ⟨fun y my => by
          rcases List.mem_cons.mp my with rfl | my
          · exact c
          · exact lt_trans c ((asc_cons.mp h).1 y my), h⟩
      · rename_i c
        obtain ⟨h1, h2⟩ := asc_cons.mp h
        refine asc_cons.mpr ⟨fun y my => ?_, insU_asc h2⟩
        rcases (insU_mem r).mp my with rfl | my
        · rcases lt_tri y x with e | e | e
          · exact absurd e n
          · exact absurd e c
          · exact e
        · exact h1 y my
theorem uq_asc : ∀ ks : List Str, asc (uq ks) = true
  | [] => rfl
  | _ :: r => insU_asc (uq_asc r)
theorem uq_mem {z : Str} : ∀ ks : List Str, z ∈ uq ks ↔ z ∈ ks
  | [] => Iff.rfl
  | k :: r => by
    show z ∈ insU k (uq r) ↔ _
    rw [insU_mem, uq_mem r, List.mem_cons]
theorem uq_eq {ys ks : List Str} (ha : asc ys = true) (hm : ∀ z, z ∈ ys ↔ z ∈ ks) : ys = uq ks :=
  asc_eq ha (uq_asc ks) fun z => (hm z).trans (uq_mem ks).symm
theorem insU_len (k : Str) : ∀ l : List Str, (insU k l).length ≤ l.length + 1
  | [] => Nat.le_refl _
  | x :: r => by
    unfold insU
    split
    · exact Nat.le_succ _
    · split
      · exact Nat.le_refl _
      · rw [List.length_cons, List.length_cons]
        have := insU_len k r
        omega
theorem uq_len : ∀ ks : List Str, (uq ks).length ≤ ks.length
  | [] => Nat.le_refl _
  | k :: r => by
    have := insU_len k (uq r)
    have := uq_len r
    show (insU k (uq r)).length ≤ r.length + 1
    omega
/-- the draft: files, grants, old keys -/
structure Dft where
  fls : List (Str × List (Str × PyData))
  grs : List (Str × List PyData)
  old : List (Str × List Str)
/-- the workshop: the marks of its office, its draft, texts, charters, stamps, snapshots, the latest lists, the entry of the stamps -/
structure Wst where
  mde : List (Str × Str)
  drf : Dft
  txs : List (Str × Str)
  chs : List PyData
  stp : List Str
  sns : List (PyData × List (Str × PyData))
  lat : List (Str × (PyData × List Str × PyData))
  ent : PyData
/-- where all this lies -/
structure WA where
  dr : Addr
  fd : Addr
  gd : Addr
  od : Addr
  td : Addr
  cl : Addr
  sl : Addr
  nl : Addr
  ld : Addr
  fis : List Addr
  gis : List Addr
  ois : List Addr
  sds : List Addr
  kls : List Addr
/-- lists that are written, dicts that are written -/
def WA.wl (A : WA) : List Addr := A.cl :: A.sl :: A.nl :: A.gis
def WA.wd (A : WA) : List Addr := A.td :: A.ld :: A.fd :: A.gd :: A.od :: A.fis
def WA.all (A : WA) (o off dm : Addr) : List Addr := o :: off :: dm :: A.dr :: (A.wl ++ (A.wd ++ (A.ois ++ (A.sds ++ A.kls))))
inductive FlA (H : Hp) : List (Key × V) → List Addr → List (Str × List (Str × PyData)) → Prop
  | nil : FlA H [] [] []
  | cons {n : Str} {a : Addr} {kvs : List (Key × V)} {fs : List (Str × PyData)} {r : List (Key × V)} {as : List Addr} {l : List (Str × List (Str × PyData))} : H a = some (.dK kvs) → KvD H kvs fs → FlA H r as l → FlA H ((Sum.inr n, .ref a) :: r) (a :: as) ((n, fs) :: l)
inductive GrA (H : Hp) : List (Key × V) → List Addr → List (Str × List PyData) → Prop
  | nil : GrA H [] [] []
  | cons {n : Str} {a : Addr} {vs : List V} {gs : List PyData} {r : List (Key × V)} {as : List Addr} {l : List (Str × List PyData)} : H a = some (.lst vs) → RqA H vs gs → GrA H r as l → GrA H ((Sum.inr n, .ref a) :: r) (a :: as) ((n, gs) :: l)
inductive OlA (H : Hp) : List (Key × V) → List Addr → List (Str × List Str) → Prop
  | nil : OlA H [] [] []
  | cons {n : Str} {a : Addr} {ks : List Str} {r : List (Key × V)} {as : List Addr} {l : List (Str × List Str)} : H a = some (.lst (ks.map V.str)) → OlA H r as l → OlA H ((Sum.inr n, .ref a) :: r) (a :: as) ((n, ks) :: l)
inductive LtA (H : Hp) : List (Key × V) → List Addr → List (Str × (PyData × List Str × PyData)) → Prop
  | nil : LtA H [] [] []
  | cons {n : Str} {p a : Addr} {x y : V} {d e : PyData} {ks : List Str} {r : List (Key × V)} {as : List Addr} {l : List (Str × (PyData × List Str × PyData))} : H p = some (.tup [x, .ref a, y]) → Rq H x d → H a = some (.lst (ks.map V.str)) → Rq H y e → LtA H r as l → LtA H ((Sum.inr n, .ref p) :: r) (a :: as) ((n, (d, ks, e)) :: l)
inductive SnA (H : Hp) : List V → List Addr → List (PyData × List (Str × PyData)) → Prop
  | nil : SnA H [] [] []
  | cons {p a : Addr} {x : V} {d : PyData} {kvs : List (Key × V)} {ls : List (Str × PyData)} {r : List V} {as : List Addr} {l : List (PyData × List (Str × PyData))} : H p = some (.tup [x, .ref a]) → Rq H x d → H a = some (.dK kvs) → KvD H kvs ls → SnA H r as l → SnA H (.ref p :: r) (a :: as) ((d, ls) :: l)
theorem FlA.kp {S : List Addr} {H H' : Hp} (k : Kp S H H') : ∀ {r : List (Key × V)} {as : List Addr} {l : List (Str × List (Str × PyData))}, FlA H r as l → (∀ a ∈ as, a ∉ S) → (∀ q ∈ l, ∀ g ∈ q.2, purD g.2 = true) → FlA H' r as l
  | _, _, _, .nil, _, _ => .nil
  | _, _, _, .cons e g t, n, p => .cons (k.keep _ _ (n _ List.mem_cons_self) e) (g.kp k (p _ List.mem_cons_self)) (t.kp k (fun a m => n a (List.mem_cons_of_mem _ m)) fun q m => p q (List.mem_cons_of_mem _ m))
theorem GrA.kp {S : List Addr} {H H' : Hp} (k : Kp S H H') : ∀ {r : List (Key × V)} {as : List Addr} {l : List (Str × List PyData)}, GrA H r as l → (∀ a ∈ as, a ∉ S) → (∀ q ∈ l, purDs q.2 = true) → GrA H' r as l
  | _, _, _, .nil, _, _ => .nil
  | _, _, _, .cons e g t, n, p => .cons (k.keep _ _ (n _ List.mem_cons_self) e) (g.pure k (p _ List.mem_cons_self)) (t.kp k (fun a m => n a (List.mem_cons_of_mem _ m)) fun q m => p q (List.mem_cons_of_mem _ m))
theorem OlA.kp {S : List Addr} {H H' : Hp} (k : Kp S H H') : ∀ {r : List (Key × V)} {as : List Addr} {l : List (Str × List Str)}, OlA H r as l → (∀ a ∈ as, a ∉ S) → OlA H' r as l
  | _, _, _, .nil, _ => .nil
  | _, _, _, .cons e t, n => .cons (k.keep _ _ (n _ List.mem_cons_self) e) (t.kp k fun a m => n a (List.mem_cons_of_mem _ m))
theorem LtA.kp {S : List Addr} {H H' : Hp} (k : Kp S H H') : ∀ {r : List (Key × V)} {as : List Addr} {l : List (Str × (PyData × List Str × PyData))}, LtA H r as l → (∀ a ∈ as, a ∉ S) → (∀ q ∈ l, purD q.2.1 = true ∧ purD q.2.2.2 = true) → LtA H' r as l
  | _, _, _, .nil, _, _ => .nil
  | _, _, _, .cons e g f y t, n, p => .cons (k.tup _ _ e) (g.pure k (p _ List.mem_cons_self).1) (k.keep _ _ (n _ List.mem_cons_self) f) (y.pure k (p _ List.mem_cons_self).2) (t.kp k (fun a m => n a (List.mem_cons_of_mem _ m)) fun q m => p q (List.mem_cons_of_mem _ m))
theorem SnA.kp {S : List Addr} {H H' : Hp} (k : Kp S H H') : ∀ {r : List V} {as : List Addr} {l : List (PyData × List (Str × PyData))}, SnA H r as l → (∀ a ∈ as, a ∉ S) → (∀ q ∈ l, purD q.1 = true ∧ ∀ g ∈ q.2, purD g.2 = true) → SnA H' r as l
  | _, _, _, .nil, _, _ => .nil
  | _, _, _, .cons e g f y t, n, p => .cons (k.tup _ _ e) (g.pure k (p _ List.mem_cons_self).1) (k.keep _ _ (n _ List.mem_cons_self) f) (y.kp k (p _ List.mem_cons_self).2) (t.kp k (fun a m => n a (List.mem_cons_of_mem _ m)) fun q m => p q (List.mem_cons_of_mem _ m))
/-- nothing in it is ever changed in its place -/
structure Wst.Pur (s : Wst) : Prop where
  fl : ∀ q ∈ s.drf.fls, ∀ g ∈ q.2, purD g.2 = true
  gr : ∀ q ∈ s.drf.grs, purDs q.2 = true
  ch : purDs s.chs = true
  sn : ∀ q ∈ s.sns, purD q.1 = true ∧ ∀ g ∈ q.2, purD g.2 = true
  la : ∀ q ∈ s.lat, purD q.2.1 = true ∧ purD q.2.2.2 = true
  en : purD s.ent = true
/-- a workshop at o with its office at off -/
structure Wsh (C CD CO o off dm : Addr) (A : WA) (s : Wst) (H : Hp) : Prop where
  ob : ∃ dx ev, H o = some (.ins C dx [("_office", .ref off), ("_draft", .ref A.dr), ("_texts", .ref A.td), ("_charters", .ref A.cl), ("_stamps", .ref A.sl), ("_snapshots", .ref A.nl), ("_latest", .ref A.ld), ("_entry", ev)]) ∧ Rq H ev s.ent
  of : Ofc CO off dm s.mde H
  dr : ∃ dx, H A.dr = some (.ins CD dx [("_files", .ref A.fd), ("_grants", .ref A.gd), ("_old_keys", .ref A.od)])
  fl : ∃ kvs, H A.fd = some (.dK kvs) ∧ FlA H kvs A.fis s.drf.fls
  gr : ∃ kvs, H A.gd = some (.dK kvs) ∧ GrA H kvs A.gis s.drf.grs
  ol : ∃ kvs, H A.od = some (.dK kvs) ∧ OlA H kvs A.ois s.drf.old
  tx : H A.td = some (.dK (txK s.txs))
  ch : ∃ vs, H A.cl = some (.lst vs) ∧ RqA H vs s.chs
  st : H A.sl = some (.lst (s.stp.map V.str))
  sn : ∃ vs, H A.nl = some (.lst vs) ∧ SnA H vs A.sds s.sns
  la : ∃ kvs, H A.ld = some (.dK kvs) ∧ LtA H kvs A.kls s.lat
  nL : A.wl.Nodup
  nD : A.wd.Nodup
  xL : ∀ a ∈ A.ois ++ A.kls, a ∉ A.wl
  xD : ∀ a ∈ A.sds, a ∉ A.wd
  no : o ≠ A.dr ∧ o ≠ off ∧ A.dr ≠ off
  pu : s.Pur
theorem WA.mem {A : WA} {o off dm : Addr} {S : List Addr} (h : ∀ a ∈ A.all o off dm, a ∉ S) : o ∉ S ∧ off ∉ S ∧ dm ∉ S ∧ A.dr ∉ S ∧ (∀ a ∈ A.wl, a ∉ S) ∧ (∀ a ∈ A.wd, a ∉ S) ∧ (∀ a ∈ A.ois, a ∉ S) ∧ (∀ a ∈ A.sds, a ∉ S) ∧ ∀ a ∈ A.kls, a ∉ S := by
  unfold WA.all at h
  refine ⟨h _ (by simp), h _ (by simp), h _ (by simp), h _ (by simp), fun a m => h _ (by simp [m]), fun a m => h _ (by simp [m]), fun a m => h _ (by simp [m]), fun a m => h _ (by simp [m]), fun a m => h _ (by simp [m])⟩
theorem Wsh.kp {C CD CO o off dm : Addr} {A : WA} {s : Wst} {H H' : Hp} {S : List Addr} (h : Wsh C CD CO o off dm A s H) (k : Kp S H H') (n : ∀ a ∈ A.all o off dm, a ∉ S) : Wsh C CD CO o off dm A s H' := by
  obtain ⟨n1, n2, n3, n4, n5, n6, n7, n8, n9⟩ := WA.mem n
  obtain ⟨dx, ev, e1, r1⟩ := h.ob
  obtain ⟨dy, e2⟩ := h.dr
  obtain ⟨k3, e3, r3⟩ := h.fl
  obtain ⟨k4, e4, r4⟩ := h.gr
  obtain ⟨k5, e5, r5⟩ := h.ol
  obtain ⟨k6, e6, r6⟩ := h.ch
  obtain ⟨k7, e7, r7⟩ := h.sn
  obtain ⟨k8, e8, r8⟩ := h.la
  have wl : ∀ {a}, a ∈ A.wl → a ∉ S := fun m => n5 _ m
  have wd : ∀ {a}, a ∈ A.wd → a ∉ S := fun m => n6 _ m
  unfold WA.wl at wl
  unfold WA.wd at wd
  exact ⟨⟨dx, ev, k.keep _ _ n1 e1, r1.pure k h.pu.en⟩, h.of.kp k n2 n3, ⟨dy, k.keep _ _ n4 e2⟩, ⟨k3, k.keep _ _ (wd (by simp)) e3, r3.kp k (fun a m => wd (by simp [m])) h.pu.fl⟩, ⟨k4, k.keep _ _ (wd (by simp)) e4, r4.kp k (fun a m => wl (by simp [m])) h.pu.gr⟩, ⟨k5, k.keep _ _ (wd (by simp)) e5, r5.kp k n7⟩,
    k.keep _ _ (wd (by simp)) h.tx, ⟨k6, k.keep _ _ (wl (by simp)) e6, r6.pure k h.pu.ch⟩, k.keep _ _ (wl (by simp)) h.st, ⟨k7, k.keep _ _ (wl (by simp)) e7, r7.kp k n8 h.pu.sn⟩, ⟨k8, k.keep _ _ (wd (by simp)) e8, r8.kp k n9 h.pu.la⟩, h.nL, h.nD, h.xL, h.xD, h.no, h.pu⟩
theorem Wsh.kp0 {C CD CO o off dm : Addr} {A : WA} {s : Wst} {H H' : Hp} (h : Wsh C CD CO o off dm A s H) (k : Kp [] H H') : Wsh C CD CO o off dm A s H' := h.kp k fun _ _ => List.not_mem_nil
theorem FlA.val {H : Hp} : ∀ {r : List (Key × V)} {as : List Addr} {l : List (Str × List (Str × PyData))}, FlA H r as l → ∀ a ∈ as, ∃ kvs, H a = some (.dK kvs)
  | _, _, _, .nil, a, m => absurd m List.not_mem_nil
  | _, _, _, .cons e _ t, a, m => by
    rcases List.mem_cons.mp m with rfl | m
    · exact ⟨_, e⟩
    · exact t.val a m
theorem GrA.val {H : Hp} : ∀ {r : List (Key × V)} {as : List Addr} {l : List (Str × List PyData)}, GrA H r as l → ∀ a ∈ as, ∃ us, H a = some (.lst us)
  | _, _, _, .nil, a, m => absurd m List.not_mem_nil
  | _, _, _, .cons e _ t, a, m => by
    rcases List.mem_cons.mp m with rfl | m
    · exact ⟨_, e⟩
    · exact t.val a m
theorem OlA.val {H : Hp} : ∀ {r : List (Key × V)} {as : List Addr} {l : List (Str × List Str)}, OlA H r as l → ∀ a ∈ as, ∃ us, H a = some (.lst us)
  | _, _, _, .nil, a, m => absurd m List.not_mem_nil
  | _, _, _, .cons e t, a, m => by
    rcases List.mem_cons.mp m with rfl | m
    · exact ⟨_, e⟩
    · exact t.val a m
theorem LtA.val {H : Hp} : ∀ {r : List (Key × V)} {as : List Addr} {l : List (Str × (PyData × List Str × PyData))}, LtA H r as l → ∀ a ∈ as, ∃ us, H a = some (.lst us)
  | _, _, _, .nil, a, m => absurd m List.not_mem_nil
  | _, _, _, .cons _ _ e _ t, a, m => by
    rcases List.mem_cons.mp m with rfl | m
    · exact ⟨_, e⟩
    · exact t.val a m
theorem SnA.val {H : Hp} : ∀ {r : List V} {as : List Addr} {l : List (PyData × List (Str × PyData))}, SnA H r as l → ∀ a ∈ as, ∃ kvs, H a = some (.dK kvs)
  | _, _, _, .nil, a, m => absurd m List.not_mem_nil
  | _, _, _, .cons _ _ e _ t, a, m => by
    rcases List.mem_cons.mp m with rfl | m
    · exact ⟨_, e⟩
    · exact t.val a m
section
variable {C CD CO o off dm : Addr} {A : WA} {s : Wst} {H H' : Hp}
theorem Wsh.wlv (h : Wsh C CD CO o off dm A s H) : ∀ a ∈ A.wl, ∃ us, H a = some (.lst us) := fun a m => by
  obtain ⟨_, e1, _⟩ := h.ch
  obtain ⟨_, e2, _⟩ := h.sn
  obtain ⟨_, _, r⟩ := h.gr
  unfold WA.wl at m
  rcases List.mem_cons.mp m with rfl | m
  · exact ⟨_, e1⟩
  rcases List.mem_cons.mp m with rfl | m
  · exact ⟨_, h.st⟩
  rcases List.mem_cons.mp m with rfl | m
  · exact ⟨_, e2⟩
  · exact r.val a m
theorem Wsh.wdv (h : Wsh C CD CO o off dm A s H) : ∀ a ∈ A.wd, ∃ kvs, H a = some (.dK kvs) := fun a m => by
  obtain ⟨_, e1, _⟩ := h.la
  obtain ⟨_, e2, r⟩ := h.fl
  obtain ⟨_, e3, _⟩ := h.gr
  obtain ⟨_, e4, _⟩ := h.ol
  unfold WA.wd at m
  rcases List.mem_cons.mp m with rfl | m
  · exact ⟨_, h.tx⟩
  rcases List.mem_cons.mp m with rfl | m
  · exact ⟨_, e1⟩
  rcases List.mem_cons.mp m with rfl | m
  · exact ⟨_, e2⟩
  rcases List.mem_cons.mp m with rfl | m
  · exact ⟨_, e3⟩
  rcases List.mem_cons.mp m with rfl | m
  · exact ⟨_, e4⟩
  · exact r.val a m
theorem Wsh.oiv (h : Wsh C CD CO o off dm A s H) : ∀ a ∈ A.ois, ∃ us, H a = some (.lst us) := let ⟨_, _, r⟩ := h.ol; r.val
theorem Wsh.klv (h : Wsh C CD CO o off dm A s H) : ∀ a ∈ A.kls, ∃ us, H a = some (.lst us) := let ⟨_, _, r⟩ := h.la; r.val
theorem Wsh.sdv (h : Wsh C CD CO o off dm A s H) : ∀ a ∈ A.sds, ∃ us, H a = some (.dK us) := let ⟨_, _, r⟩ := h.sn; r.val
/-- every place of it holds a thing that is no table -/
theorem Wsh.val (h : Wsh C CD CO o off dm A s H) : ∀ a ∈ A.all o off dm, ∃ u, H a = some u ∧ (∀ ps, u ≠ .tbl ps) ∧ ∀ us, u ≠ .tup us := fun a m => by
  obtain ⟨_, _, e1, _⟩ := h.ob
  obtain ⟨_, e2⟩ := h.of.ob
  obtain ⟨_, e3⟩ := h.dr
  unfold WA.all at m
  rcases List.mem_cons.mp m with rfl | m
  · exact ⟨_, e1, (fun ps z => by cases z), fun ps z => by cases z⟩
  rcases List.mem_cons.mp m with rfl | m
  · exact ⟨_, e2, (fun ps z => by cases z), fun ps z => by cases z⟩
  rcases List.mem_cons.mp m with rfl | m
  · exact ⟨_, h.of.dc, (fun ps z => by cases z), fun ps z => by cases z⟩
  rcases List.mem_cons.mp m with rfl | m
  · exact ⟨_, e3, (fun ps z => by cases z), fun ps z => by cases z⟩
  rcases List.mem_append.mp m with m | m
  · obtain ⟨_, e⟩ := h.wlv a m; exact ⟨_, e, (fun ps z => by cases z), fun ps z => by cases z⟩
  rcases List.mem_append.mp m with m | m
  · obtain ⟨_, e⟩ := h.wdv a m; exact ⟨_, e, (fun ps z => by cases z), fun ps z => by cases z⟩
  rcases List.mem_append.mp m with m | m
  · obtain ⟨_, e⟩ := h.oiv a m; exact ⟨_, e, (fun ps z => by cases z), fun ps z => by cases z⟩
  rcases List.mem_append.mp m with m | m
  · obtain ⟨_, e⟩ := h.sdv a m; exact ⟨_, e, (fun ps z => by cases z), fun ps z => by cases z⟩
  · obtain ⟨_, e⟩ := h.klv a m; exact ⟨_, e, (fun ps z => by cases z), fun ps z => by cases z⟩
theorem Wsh.tabs {Ts : List Addr} (h : Wsh C CD CO o off dm A s H) (k : Kp Ts H H') (g : Tabs Ts H) : Wsh C CD CO o off dm A s H' := h.kp k fun a m => by
  obtain ⟨u, e, n, _⟩ := h.val a m
  exact g.ne e n
/-- beside a dict that is written -/
theorem Wsh.byD (h : Wsh C CD CO o off dm A s H) {x : Addr} {kvs : List (Key × V)} (e : H x = some (.dK kvs)) : o ∉ [x] ∧ off ∉ [x] ∧ dm ∉ [x] ∧ A.dr ∉ [x] ∧ (∀ a ∈ A.wl, a ∉ [x]) ∧ (∀ a ∈ A.ois, a ∉ [x]) ∧ ∀ a ∈ A.kls, a ∉ [x] := by
  obtain ⟨_, _, e1, _⟩ := h.ob
  obtain ⟨_, e2⟩ := h.of.ob
  obtain ⟨_, e3⟩ := h.dr
  have one : ∀ {b : Addr}, b ≠ x → b ∉ [x] := fun h m => h (List.mem_singleton.mp m)
  refine ⟨one (ne_of e1 e (by intro z; cases z)), one (ne_of e2 e (by intro z; cases z)), one (ne_of h.of.dc e (by intro z; cases z)), one (ne_of e3 e (by intro z; cases z)), fun a m => ?_, fun a m => ?_, fun a m => ?_⟩
  · obtain ⟨_, f⟩ := h.wlv a m; exact one (ne_of f e (by intro z; cases z))
  · obtain ⟨_, f⟩ := h.oiv a m; exact one (ne_of f e (by intro z; cases z))
  · obtain ⟨_, f⟩ := h.klv a m; exact one (ne_of f e (by intro z; cases z))
/-- beside a list that is written -/
theorem Wsh.byL (h : Wsh C CD CO o off dm A s H) {x : Addr} {us : List V} (e : H x = some (.lst us)) : o ∉ [x] ∧ off ∉ [x] ∧ dm ∉ [x] ∧ A.dr ∉ [x] ∧ (∀ a ∈ A.wd, a ∉ [x]) ∧ ∀ a ∈ A.sds, a ∉ [x] := by
  obtain ⟨_, _, e1, _⟩ := h.ob
  obtain ⟨_, e2⟩ := h.of.ob
  obtain ⟨_, e3⟩ := h.dr
  have one : ∀ {b : Addr}, b ≠ x → b ∉ [x] := fun h m => h (List.mem_singleton.mp m)
  refine ⟨one (ne_of e1 e (by intro z; cases z)), one (ne_of e2 e (by intro z; cases z)), one (ne_of h.of.dc e (by intro z; cases z)), one (ne_of e3 e (by intro z; cases z)), fun a m => ?_, fun a m => ?_⟩
  · obtain ⟨_, f⟩ := h.wdv a m; exact one (ne_of f e (by intro z; cases z))
  · obtain ⟨_, f⟩ := h.sdv a m; exact one (ne_of f e (by intro z; cases z))
/-- texts are written -/
theorem Wsh.setTx (h : Wsh C CD CO o off dm A s H) {t : List (Str × Str)} : Kp [A.td] H (upd H A.td (.dK (txK t))) ∧ Wsh C CD CO o off dm A { s with txs := t } (upd H A.td (.dK (txK t))) := by
  have k : Kp [A.td] H (upd H A.td (.dK (txK t))) := kp_dk h.tx (List.mem_singleton.mpr rfl)
  refine ⟨k, ?_⟩
  obtain ⟨n1, n2, n3, n4, n5, n6, n7⟩ := h.byD h.tx
  obtain ⟨dx, ev, e1, r1⟩ := h.ob
  obtain ⟨dy, e2⟩ := h.dr
  obtain ⟨k3, e3, r3⟩ := h.fl
  obtain ⟨k4, e4, r4⟩ := h.gr
  obtain ⟨k5, e5, r5⟩ := h.ol
  obtain ⟨k6, e6, r6⟩ := h.ch
  obtain ⟨k7, e7, r7⟩ := h.sn
  obtain ⟨k8, e8, r8⟩ := h.la
  have nD := (List.nodup_cons.mp h.nD).1
  have wd : ∀ {a}, a ∈ A.ld :: A.fd :: A.gd :: A.od :: A.fis → a ∉ [A.td] := fun m z => nD (by rw [← List.mem_singleton.mp z]; exact m)
  have wl : ∀ {a}, a ∈ A.wl → a ∉ [A.td] := fun m => n5 _ m
  have sd : ∀ a ∈ A.sds, a ∉ [A.td] := fun a m z => h.xD a m (by rw [List.mem_singleton.mp z]; exact List.mem_cons_self)
  unfold WA.wl at wl
  exact ⟨⟨dx, ev, k.keep _ _ n1 e1, r1.pure k h.pu.en⟩, h.of.kp k n2 n3, ⟨dy, k.keep _ _ n4 e2⟩, ⟨k3, k.keep _ _ (wd (by simp)) e3, r3.kp k (fun a m => wd (by simp [m])) h.pu.fl⟩, ⟨k4, k.keep _ _ (wd (by simp)) e4, r4.kp k (fun a m => wl (by simp [m])) h.pu.gr⟩, ⟨k5, k.keep _ _ (wd (by simp)) e5, r5.kp k n6⟩,
    upd_same, ⟨k6, k.keep _ _ (wl (by simp)) e6, r6.pure k h.pu.ch⟩, k.keep _ _ (wl (by simp)) h.st, ⟨k7, k.keep _ _ (wl (by simp)) e7, r7.kp k sd h.pu.sn⟩, ⟨k8, k.keep _ _ (wd (by simp)) e8, r8.kp k n7 h.pu.la⟩, h.nL, h.nD, h.xL, h.xD, h.no, ⟨h.pu.fl, h.pu.gr, h.pu.ch, h.pu.sn, h.pu.la, h.pu.en⟩⟩
/-- a charter is added -/
theorem Wsh.addCh (h : Wsh C CD CO o off dm A s H) {vs : List V} {v : V} {d : PyData} (e : H A.cl = some (.lst vs)) (r : Rq H v d) (p : purD d = true) : Kp [A.cl] H (upd H A.cl (.lst (vs ++ [v]))) ∧ Wsh C CD CO o off dm A { s with chs := s.chs ++ [d] } (upd H A.cl (.lst (vs ++ [v]))) := by
  have k : Kp [A.cl] H (upd H A.cl (.lst (vs ++ [v]))) := Kp.lst e (List.mem_singleton.mpr rfl)
  refine ⟨k, ?_⟩
  obtain ⟨n1, n2, n3, n4, n5, n6⟩ := h.byL e
  obtain ⟨dx, ev, e1, r1⟩ := h.ob
  obtain ⟨dy, e2⟩ := h.dr
  obtain ⟨k3, e3, r3⟩ := h.fl
  obtain ⟨k4, e4, r4⟩ := h.gr
  obtain ⟨k5, e5, r5⟩ := h.ol
  obtain ⟨k6, e6, r6⟩ := h.ch
  obtain ⟨k7, e7, r7⟩ := h.sn
  obtain ⟨k8, e8, r8⟩ := h.la
  rw [e] at e6
  cases e6
  have nL := (List.nodup_cons.mp h.nL).1
  have wl : ∀ {a}, a ∈ A.sl :: A.nl :: A.gis → a ∉ [A.cl] := fun m z => nL (by rw [← List.mem_singleton.mp z]; exact m)
  have wd : ∀ {a}, a ∈ A.wd → a ∉ [A.cl] := fun m => n5 _ m
  have xl : ∀ a ∈ A.ois ++ A.kls, a ∉ [A.cl] := fun a m z => h.xL a m (by rw [List.mem_singleton.mp z]; exact List.mem_cons_self)
  unfold WA.wd at wd
  have pc : purDs (s.chs ++ [d]) = true := purDs_all.mpr fun x m => by
    rcases List.mem_append.mp m with m | m
    · exact purDs_all.mp h.pu.ch x m
    · rw [List.mem_singleton.mp m]; exact p
  exact ⟨⟨dx, ev, k.keep _ _ n1 e1, r1.pure k h.pu.en⟩, h.of.kp k n2 n3, ⟨dy, k.keep _ _ n4 e2⟩, ⟨k3, k.keep _ _ (wd (by simp)) e3, r3.kp k (fun a m => wd (by simp [m])) h.pu.fl⟩, ⟨k4, k.keep _ _ (wd (by simp)) e4, r4.kp k (fun a m => wl (by simp [m])) h.pu.gr⟩, ⟨k5, k.keep _ _ (wd (by simp)) e5, r5.kp k (fun a m => xl a (by simp [m]))⟩,
    k.keep _ _ (wd (by simp)) h.tx, ⟨_, upd_same, (r6.pure k h.pu.ch).app (.cons (r.pure k p) .nil)⟩, k.keep _ _ (wl (by simp)) h.st, ⟨k7, k.keep _ _ (wl (by simp)) e7, r7.kp k n6 h.pu.sn⟩, ⟨k8, k.keep _ _ (wd (by simp)) e8, r8.kp k (fun a m => xl a (by simp [m])) h.pu.la⟩, h.nL, h.nD, h.xL, h.xD, h.no, ⟨h.pu.fl, h.pu.gr, pc, h.pu.sn, h.pu.la, h.pu.en⟩⟩
/-- the office has signed -/
theorem Wsh.mark {Ts : List Addr} (h : Wsh C CD CO o off dm A s H) (g : Tabs Ts H) {m : List (Str × Str)} (k : Kp (dm :: Ts) H H') (O : Ofc CO off dm m H') : Wsh C CD CO o off dm A { s with mde := m } H' := by
  have nt : ∀ {a u}, H a = some u → (∀ ps, u ≠ .tbl ps) → (∀ m, u ≠ .dT m) → a ∉ dm :: Ts := fun e n n2 z => by
    rcases List.mem_cons.mp z with rfl | z
    · rw [h.of.dc] at e; exact n2 _ (Option.some.inj e).symm
    · exact g.ne e n z
  obtain ⟨dx, ev, e1, r1⟩ := h.ob
  obtain ⟨dy, e2⟩ := h.dr
  obtain ⟨k3, e3, r3⟩ := h.fl
  obtain ⟨k4, e4, r4⟩ := h.gr
  obtain ⟨k5, e5, r5⟩ := h.ol
  obtain ⟨k6, e6, r6⟩ := h.ch
  obtain ⟨k7, e7, r7⟩ := h.sn
  obtain ⟨k8, e8, r8⟩ := h.la
  have dk : ∀ {a kvs}, H a = some (.dK kvs) → a ∉ dm :: Ts := fun e => nt e (fun _ z => by cases z) fun _ z => by cases z
  have ls : ∀ {a kvs}, H a = some (.lst kvs) → a ∉ dm :: Ts := fun e => nt e (fun _ z => by cases z) fun _ z => by cases z
  exact ⟨⟨dx, ev, k.keep _ _ (nt e1 (fun _ z => by cases z) fun _ z => by cases z) e1, r1.pure k h.pu.en⟩, O, ⟨dy, k.keep _ _ (nt e2 (fun _ z => by cases z) fun _ z => by cases z) e2⟩,
    ⟨k3, k.keep _ _ (dk e3) e3, r3.kp k (fun a m => let ⟨_, f⟩ := r3.val a m; dk f) h.pu.fl⟩, ⟨k4, k.keep _ _ (dk e4) e4, r4.kp k (fun a m => let ⟨_, f⟩ := r4.val a m; ls f) h.pu.gr⟩, ⟨k5, k.keep _ _ (dk e5) e5, r5.kp k (fun a m => let ⟨_, f⟩ := r5.val a m; ls f)⟩,
    k.keep _ _ (dk h.tx) h.tx, ⟨k6, k.keep _ _ (ls e6) e6, r6.pure k h.pu.ch⟩, k.keep _ _ (ls h.st) h.st, ⟨k7, k.keep _ _ (ls e7) e7, r7.kp k (fun a m => let ⟨_, f⟩ := r7.val a m; dk f) h.pu.sn⟩, ⟨k8, k.keep _ _ (dk e8) e8, r8.kp k (fun a m => let ⟨_, f⟩ := r8.val a m; ls f) h.pu.la⟩, h.nL, h.nD, h.xL, h.xD, h.no, ⟨h.pu.fl, h.pu.gr, h.pu.ch, h.pu.sn, h.pu.la, h.pu.en⟩⟩
end
/-! the workshop: the methods that only tell -/
abbrev s_require_roles : Stmt := top 80
abbrev N_require_roles : List Str := ["roles"]
theorem sc_require_roles : FnScope N_require_roles ["roles"] (defScope s_require_roles) := ⟨rfl, rfl, rfl, by decide +kernel, rfl, by decide +kernel, by decide +kernel⟩
abbrev s_require_expires : Stmt := top 81
abbrev N_require_expires : List Str := ["expires"]
theorem sc_require_expires : FnScope N_require_expires ["expires"] (defScope s_require_expires) := ⟨rfl, rfl, rfl, by decide +kernel, rfl, by decide +kernel, by decide +kernel⟩
abbrev s_Workshop_text : Stmt := inClass (top 79) 8
abbrev N_Workshop_text : List Str := ["self", "name"]
theorem sc_Workshop_text : FnScope N_Workshop_text ["self", "name"] (defScope s_Workshop_text) := ⟨rfl, rfl, rfl, by decide +kernel, rfl, by decide +kernel, by decide +kernel⟩
abbrev s_Workshop_names : Stmt := inClass (top 79) 9
abbrev N_Workshop_names : List Str := ["self"]
theorem sc_Workshop_names : FnScope N_Workshop_names ["self"] (defScope s_Workshop_names) := ⟨rfl, rfl, rfl, by decide +kernel, rfl, by decide +kernel, by decide +kernel⟩
abbrev s_Workshop_first : Stmt := inClass (top 79) 10
abbrev N_Workshop_first : List Str := ["self"]
theorem sc_Workshop_first : FnScope N_Workshop_first ["self"] (defScope s_Workshop_first) := ⟨rfl, rfl, rfl, by decide +kernel, rfl, by decide +kernel, by decide +kernel⟩
abbrev s_Workshop_charters : Stmt := inClass (top 79) 13
abbrev N_Workshop_charters : List Str := ["self"]
theorem sc_Workshop_charters : FnScope N_Workshop_charters ["self"] (defScope s_Workshop_charters) := ⟨rfl, rfl, rfl, by decide +kernel, rfl, by decide +kernel, by decide +kernel⟩
abbrev s_Workshop__keys_of : Stmt := inClass (top 79) 14
abbrev N_Workshop__keys_of : List Str := ["self", "role"]
theorem sc_Workshop__keys_of : FnScope N_Workshop__keys_of ["self", "role"] (defScope s_Workshop__keys_of) := ⟨rfl, rfl, rfl, by decide +kernel, rfl, by decide +kernel, by decide +kernel⟩
theorem rl_tup {d : PyData} (h : isRole d = true) : tupB 2 2 d = true := by
  unfold isRole at h; simp only [Bool.and_eq_true] at h; exact h.1
theorem rl_keys {d : PyData} (h : isRole d = true) : tupB 1 16 (ixD d 1) = true := by
  unfold isRole at h; simp only [Bool.and_eq_true] at h; exact h.2.1
theorem rl_strs {d : PyData} (h : isRole d = true) : ∀ e ∈ itD (ixD d 1), isS e = true := by
  unfold isRole at h; simp only [Bool.and_eq_true] at h
  exact fun e m => kyD_s (List.all_eq_true.mp h.2.2.1 e m)
theorem rl_thr {d : PyData} (h : isRole d = true) : ∃ t : Int, ixD d 0 = .int t ∧ 1 ≤ t ∧ t ≤ ((itD (ixD d 1)).length : Nat) := by
  unfold isRole at h; simp only [Bool.and_eq_true] at h
  have e := h.2.2.2.2
  generalize ixD d 0 = x at e ⊢
  cases x with
  | int i =>
    have e : (decide (1 ≤ i) && decide (i ≤ _)) = true := e
    rw [Bool.and_eq_true, decide_eq_true_eq, decide_eq_true_eq] at e
    exact ⟨i, rfl, e⟩
  | _ => cases e
def isRoles (d : PyData) : Bool := tupB 4 4 d && (itD d).all isRole
/-- the keys of the role j of the charter in force -/
def Wst.keys (s : Wst) (j : Nat) : List Str := (itD (ixD (rlD (s.chs.getLast?.getD .none) j) 1)).map strD
def sealS (d : PyData) (ks : List Str) : Str := ⟨(txt (sealT (tx d) (uq ks))).toArray⟩
def Wst.issue (s : Wst) (d : PyData) (ks : List Str) : Wst := { s with mde := madeA s.mde (tx d) (uq ks), txs := putT s.txs (pubN d) (sealS d ks) }
def optV : Option Str → V
  | some z => .str z
  | none => .non
/-- what a class of the workshop keeps by name -/
structure WsC (K : PySem.W.Frag) (C : Addr) : Prop where
  cl : Cls K C
  n1 : NoAttr K C "_office"
  n2 : NoAttr K C "_draft"
  n3 : NoAttr K C "_texts"
  n4 : NoAttr K C "_charters"
  n5 : NoAttr K C "_stamps"
  n6 : NoAttr K C "_snapshots"
  n7 : NoAttr K C "_latest"
  n8 : NoAttr K C "_entry"
structure WaC (P : Program) (w : World) (K : PySem.W.Frag) (mg : Str → Option Value) (base : Heap) (CA : Addr) : Prop where
  BadAct : EOwn P w K mg base "BadAct" CA
def spWText (C CD CO : Addr) : Sp := fun vs H Q _ => ∃ (o off dm : Addr) (A : WA) (s : Wst) (z : Str), vs = [.ref o, .str z] ∧ Wsh C CD CO o off dm A s H ∧ Q (optV (getT s.txs z)) H
def spWNames (C CD CO : Addr) : Sp := fun vs H Q _ => ∃ (o off dm : Addr) (A : WA) (s : Wst), vs = [.ref o] ∧ Wsh C CD CO o off dm A s H ∧ s.txs.length < 64 ∧ ∀ (ys : List Str) (p : Addr) (H' : Hp), ys.Perm (s.txs.map (·.1)) → PyProof.Rows.sortedS ys = true → H p = none → H' p = some (.lst (ys.map V.str)) → Kp [] H H' → Q (.ref p) H'
def spWFirst (C CD CO : Addr) (Ts : List Addr) : Sp := fun vs H Q _ => ∃ (o off dm : Addr) (A : WA) (s : Wst) (d : PyData) (r : List PyData) (z : Str), vs = [.ref o] ∧ Wsh C CD CO o off dm A s H ∧ s.chs = d :: r ∧ isCharter d = true ∧ okD 12 d = true ∧ getT s.txs (pubN d) = some z ∧ Tabs Ts H ∧ ∀ H', Kp Ts H H' → Tabs Ts H' → Q (.str z) H'
def spWChs (C CD CO : Addr) : Sp := fun vs H Q _ => ∃ (o off dm : Addr) (A : WA) (s : Wst), vs = [.ref o] ∧ Wsh C CD CO o off dm A s H ∧ s.chs.length ≤ 1000 ∧ ∀ (p : Addr) (us : List V) (H' : Hp), H p = none → H' p = some (.lst us) → RqA H' us s.chs → Kp [] H H' → Q (.ref p) H'
def spWKeys (C CD CO : Addr) : Sp := fun vs H Q _ => ∃ (o off dm : Addr) (A : WA) (s : Wst) (n : Str) (j : Nat) (d : PyData), vs = [.ref o, .str n] ∧ Wsh C CD CO o off dm A s H ∧ rnm[j]? = some n ∧ s.chs.getLast? = some d ∧ isCharter d = true ∧ ∀ (p : Addr) (H' : Hp), H p = none → H' p = some (.lst ((s.keys j).map V.str)) → Kp [] H H' → Q (.ref p) H'
def spReqRoles (CA : Addr) (Ts : List Addr) : Sp := fun vs H Q E => ∃ (v : V) (d : PyData), vs = [v] ∧ Rq H v d ∧ okD 10 d = true ∧ Tabs Ts H ∧ (isRoles d = true → ∀ H', Kp Ts H H' → Tabs Ts H' → Q .non H') ∧
  (isRoles d = false → ∀ (e : Addr) (H' : Hp), Kp Ts H H' → Tabs Ts H' → H e = none → H' e = some (.xd [("reason", .str (Str.ofString "roles"))]) → E (.ref CA) (some e) H')
def spReqExp (CA : Addr) : Sp := fun vs H Q E => ∃ (v : V) (d : PyData), vs = [v] ∧ Rq H v d ∧ (numB 0 1000000000000 d = true → Q .non H) ∧
  (numB 0 1000000000000 d = false → ∀ (e : Addr) (H' : Hp), Kp [] H H' → H e = none → H' e = some (.xd [("reason", .str (Str.ofString "expires"))]) → E (.ref CA) (some e) H')
section
variable {P : Program} {w : World} {K : PySem.W.Frag} {mg : Str → Option Value} {base : Heap} {f : Addr} {fd : FuncData} {C CD CO CA CB R : Addr} {Ts : List Addr}
theorem ok_reqroles (F : Fun K "_require_roles" "_require_roles" s_require_roles f fd) (T : WaC P w K mg base CA) (c_is_charter : Cal P w K mg base CX0 12 "is_charter" (spDoc isCharter Ts)) : FnOk P w K mg base (CXG P w) 13 f fd ["roles"] (spReqRoles CA Ts) := by
  refine F.okG sc_require_roles (fun vs H Q E h => ?_) (fun cdv A outer s H vs Q E hr h => ?_)
  · obtain ⟨v, d, rfl, _⟩ := h; rfl
  obtain ⟨v, d, rfl, hR, od, hG, q, qe⟩ := h
  refine ⟨_, (pss_one (ps_if (pt_not (pt_val (c_is_charter.pe hr (pa_cons (pe_tup (pa_cons pe_str (pa_cons pe_int (pa_cons pe_int (pa_cons (pv 0) pa_nil))))) pa_nil)))) (pss_one (T.BadAct.raiseG hr (takesG_of rfl rfl rfl rfl))) pss_nil)), ?_⟩
  have lim : sizeLine = 16777216 := sizeLine_eq
  walk_at "wq"
  refine ⟨by omega, fun p hp => ?_⟩
  have kn : Kp [] H (upd H p (.tup [.str (Str.ofString "charter"), .int 1, .int 0, v])) := Kp.new hp _
  have o12 : okD 12 (.tuple [.str (Str.ofString "charter"), .int 1, .int 0, d]) = true := okD_tup.mpr ⟨by show 4 ≤ 200000; decide, fun x m => by
    simp only [List.mem_cons, List.not_mem_nil, or_false] at m
    rcases m with rfl | rfl | rfl | rfl
    · decide +kernel
    · decide +kernel
    · decide +kernel
    · exact ok_mono 10 11 _ (by decide) od⟩
  refine ⟨.ref p, .tuple [.str (Str.ofString "charter"), .int 1, .int 0, d], rfl, .tup upd_same (.cons (.str _) (.cons (.int _) (.cons (.int _) (.cons (hR.kp0 kn) .nil)))), o12, hG.kp0 kn, fun H' k g => ?_⟩
  have e1 : isCharter (.tuple [.str (Str.ofString "charter"), .int 1, .int 0, d]) = isRoles d := rfl
  rw [e1]
  cases c : isRoles d with
  | true => exact ⟨true, rfl, if_no (by simp) (q c H' (kn.in0.trans k) g)⟩
  | false => exact ⟨false, rfl, if_yes rfl fun e G he hx k2 => qe c e G ((kn.in0.trans k).trans k2.in0) (g.kp0 k2) (kn.gone1 (fun b mb => absurd mb List.not_mem_nil) (k.gone g he)) hx⟩
theorem ok_reqexp (F : Fun K "_require_expires" "_require_expires" s_require_expires f fd) (T : WaC P w K mg base CA) (c_is_amount : Cal P w K mg base CX0 2 "is_amount" (spNumP 0)) : FnOk P w K mg base (CXG P w) 3 f fd ["expires"] (spReqExp CA) := by
  refine F.okG sc_require_expires (fun vs H Q E h => ?_) (fun cdv A outer s H vs Q E hr h => ?_)
  · obtain ⟨v, d, rfl, _⟩ := h; rfl
  obtain ⟨v, d, rfl, hR, q, qe⟩ := h
  refine ⟨_, (pss_one (ps_if (pt_not (pt_val (c_is_amount.pe hr (pa_cons (pv 0) pa_nil)))) (pss_one (T.BadAct.raiseG hr (takesG_of rfl rfl rfl rfl))) pss_nil)), ?_⟩
  walk_at "wq"
  refine ⟨v, d, rfl, hR, ?_⟩
  cases c : numB 0 1000000000000 d with
  | true => exact ⟨true, rfl, if_no (by simp) (q c)⟩
  | false => exact ⟨false, rfl, if_yes rfl fun e G he hx k2 => qe c e G k2 he hx⟩
theorem ok_wtext (F : Fun K "text" "Workshop.text" s_Workshop_text f fd) (T : WsC K C) : FnOk P w K mg base CX0 1 f fd ["self", "name"] (spWText C CD CO) := by
  refine F.ok sc_Workshop_text (fun vs H Q E h => ?_) (fun cdv A outer s H vs Q E hr h => ?_)
  · obtain ⟨_, _, _, _, _, _, rfl, _⟩ := h; rfl
  obtain ⟨o, off, dm, A, s, z, rfl, hW, q⟩ := h
  refine ⟨_, (pss_one (ps_ret (pe_dget1 (hu_of hr) (pe_fld (pv 0) rfl) (pv 1) ⟨rfl, rfl, rfl, rfl⟩))), ?_⟩
  obtain ⟨dx, ev, ho, _⟩ := hW.ob
  walk_at "wq"
  exact ⟨C, dx, _, ho, T.cl, T.n3, _, rfl, A.td, rfl, .inl ⟨_, .inl hW.tx⟩, _, DGet.k (k := Sum.inr z) hW.tx, by
    rw [txK_val]
    revert q
    cases getT s.txs z <;> exact fun q => q⟩
theorem ok_wnames (F : Fun K "names" "Workshop.names" s_Workshop_names f fd) (B : Blt mg) (hsorted : mg "sorted" = none) (T : WsC K C) : FnOk P w K mg base CX0 1 f fd ["self"] (spWNames C CD CO) := by
  refine F.ok sc_Workshop_names (fun vs H Q E h => ?_) (fun cdv A outer s H vs Q E hr h => ?_)
  · obtain ⟨_, _, _, _, _, rfl, _⟩ := h; rfl
  obtain ⟨o, off, dm, A, s, rfl, hW, l64, q⟩ := h
  refine ⟨_, (pss_one (ps_ret (pe_callB (call_sortedD rfl) rfl hsorted (by decide +kernel) (pa_cons (pe_fld (pv 0) rfl) pa_nil)))), ?_⟩
  obtain ⟨dx, ev, ho, _⟩ := hW.ob
  walk_at "wq"
  exact ⟨C, dx, _, ho, T.cl, T.n3, _, rfl, A.td, rfl, _, .inl hW.tx, _, txK_keys _, by rw [List.length_map]; exact l64, fun ys p hp hs np => q ys p _ hp hs np upd_same (Kp.new np _)⟩
theorem ok_wfirst (F : Fun K "first" "Workshop.first" s_Workshop_first f fd) (T : WsC K C) (c_published_name : Cal P w K mg base (L2.CX P w) 17 "published_name" (spPub CB Ts)) : FnOk P w K mg base (L2.CX P w) 18 f fd ["self"] (spWFirst C CD CO Ts) := by
  refine F.okX sc_Workshop_first (fun vs H Q E h => ?_) (fun cdv A outer s H vs Q E hr h => ?_)
  · obtain ⟨_, _, _, _, _, _, _, _, rfl, _⟩ := h; rfl
  obtain ⟨o, off, dm, A, s, d, r, z, rfl, hW, ec, hc, od, hz, hG, q⟩ := h
  refine ⟨_, (pss_one (ps_ret (pe_dget (hu_of hr) (pe_fld (pv 0) rfl) (c_published_name.peL hr (pa_cons (pe_ix ix_lM (pe_fld (pv 0) rfl) pe_int (fun _ _ => rfl)) pa_nil)) (fun _ _ => rfl)))), ?_⟩
  obtain ⟨dx, ev, ho, _⟩ := hW.ob
  walk_at "wq"
  obtain ⟨vs, ecl, rch⟩ := hW.ch
  rw [ec] at rch
  obtain ⟨v, vs', rfl, rv, _⟩ : ∃ v vs', vs = v :: vs' ∧ Rq H v d ∧ RqA H vs' r := by cases rch with | cons a b => exact ⟨_, _, rfl, a, b⟩
  refine ⟨C, dx, _, ho, T.cl, T.n3, _, rfl, C, dx, _, ho, T.cl, T.n4, _, rfl, A.cl, rfl, _, ecl, v, at0, v, d, rfl, rv, od, hG, fun _ H' k g => ⟨A.td, rfl, .str z, ?_, q H' k g⟩, fun h => ?_⟩
  · have := DGet.k (k := Sum.inr (pubN d)) (k.keep _ _ (hG.ne hW.tx fun ps z => by cases z) hW.tx)
    rw [txK_val, hz] at this
    exact this
  · unfold isDoc at h; rw [hc] at h; cases h
theorem ok_wchs (F : Fun K "charters" "Workshop.charters" s_Workshop_charters f fd) (B : Blt mg) (T : WsC K C) : FnOk P w K mg base CX0 1 f fd ["self"] (spWChs C CD CO) := by
  refine F.ok sc_Workshop_charters (fun vs H Q E h => ?_) (fun cdv A outer s H vs Q E hr h => ?_)
  · obtain ⟨_, _, _, _, _, rfl, _⟩ := h; rfl
  obtain ⟨o, off, dm, A, s, rfl, hW, l, q⟩ := h
  refine ⟨_, (pss_one (ps_ret (B.list_q (pa_cons (pe_fld (pv 0) rfl) pa_nil)))), ?_⟩
  obtain ⟨dx, ev, ho, _⟩ := hW.ob
  walk_at "wq"
  obtain ⟨vs, ecl, rch⟩ := hW.ch
  exact ⟨C, dx, _, ho, T.cl, T.n4, _, rfl, A.cl, rfl, _, .inl (SqL.of ecl), fun l hl => q l vs _ hl upd_same (rch.kp0 (Kp.new hl _)) (Kp.new hl _)⟩
theorem ok_wkeys (F : Fun K "_keys_of" "Workshop._keys_of" s_Workshop__keys_of f fd) (B : Blt mg) (T : WsC K C) (c_role_of : Cal P w K mg base CX0 1 "role_of" spRoleOf) : FnOk P w K mg base CX0 2 f fd ["self", "role"] (spWKeys C CD CO) := by
  refine F.ok sc_Workshop__keys_of (fun vs H Q E h => ?_) (fun cdv A outer s H vs Q E hr h => ?_)
  · obtain ⟨_, _, _, _, _, _, _, _, rfl, _⟩ := h; rfl
  obtain ⟨o, off, dm, A, s, n, j, d, rfl, hW, hn, hl, hc, q⟩ := h
  refine ⟨_, (pss_one (ps_ret (B.list_q (pa_cons (pe_ix ix_tM (c_role_of.pe hr (pa_cons (pe_ix ix_lM (pe_fld (pv 0) rfl) (pe_un un_neg pe_int) (fun _ _ => rfl)) (pa_cons (pv 1) pa_nil))) pe_int (fun _ _ => rfl)) pa_nil)))), ?_⟩
  obtain ⟨dx, ev, ho, _⟩ := hW.ob
  walk_at "wq"
  obtain ⟨vs, ecl, rch⟩ := hW.ch
  have lv := rch.len
  obtain ⟨l0, hl0⟩ : ∃ l0, s.chs = l0 ++ [d] := ⟨s.chs.dropLast, by
    have ne : s.chs ≠ [] := fun e => by rw [e] at hl; cases hl
    have := List.dropLast_concat_getLast ne
    rw [List.getLast?_eq_getLast ne] at hl
    rw [Option.some.inj hl] at this
    exact this.symm⟩
  obtain ⟨v, hv, rv⟩ : ∃ v, atI vs (-1) = some v ∧ Rq H v d := by
    obtain ⟨x, hx, rx⟩ := rch.at (i := s.chs.length - 1) (by rw [hl0]; simp)
    refine ⟨x, ?_, ?_⟩
    · have ne : vs ≠ [] := fun e => by rw [e, hl0] at lv; simp at lv
      have e1 := List.dropLast_concat_getLast ne
      have e2 : vs.getLast ne = x := by
        rw [List.getLast_eq_getElem]
        have := (List.getElem?_eq_some_iff.mp hx).2
        simp only [lv]
        exact this
      rw [← e1, e2]
      exact atI_last _ _
    · have : s.chs.getD (s.chs.length - 1) .none = d := by rw [hl0]; simp
      rw [this] at rx; exact rx
  refine ⟨C, dx, _, ho, T.cl, T.n4, _, rfl, A.cl, rfl, _, ecl, v, hv, v, d, n, j, rfl, rv, hc, hn, fun u ru => ?_⟩
  have ir := ch_role hc (rnm_lt hn)
  obtain ⟨p, xs, rfl, ep, _, _, x, hx, rx⟩ := ru.part (rl_tup ir) (i := 1) (by omega)
  obtain ⟨b, ys, ds, rfl, eb, edd, rr, _, _⟩ := tupB_of rx (rl_keys ir)
  have st := rl_strs ir
  rw [show itD (ixD (ixD (ixD d 3) j) 1) = ds by rw [show ixD (ixD (ixD d 3) j) 1 = .tuple ds from edd]; rfl] at st
  have ey := rqa_strs rr st
  have ek : s.keys j = ds.map strD := by
    unfold Wst.keys
    rw [hl]
    show (itD (ixD (rlD d j) 1)).map strD = _
    rw [show ixD (rlD d j) 1 = .tuple ds from edd]; rfl
  exact ⟨p, rfl, xs, ep, _, hx, b, rfl, ys, .inr (SqT.of eb), fun l hl => q l _ hl (by rw [upd_same, ey, ek]) (Kp.new hl _)⟩
end
/-! the workshop: what publishes -/
abbrev s_Draft___init : Stmt := inClass (top 70) 0
abbrev N_Draft___init : List Str := ["self"]
theorem sc_Draft___init : FnScope N_Draft___init ["self"] (defScope s_Draft___init) := ⟨rfl, rfl, rfl, by decide +kernel, rfl, by decide +kernel, by decide +kernel⟩
abbrev s_Workshop__issue : Stmt := inClass (top 79) 16
abbrev N_Workshop__issue : List Str := ["self", "document", "keys", "sealed"]
theorem sc_Workshop__issue : FnScope N_Workshop__issue ["self", "document", "keys"] (defScope s_Workshop__issue) := ⟨rfl, rfl, rfl, by decide +kernel, rfl, by decide +kernel, by decide +kernel⟩
abbrev s_Workshop__publish_charter : Stmt := inClass (top 79) 17
abbrev N_Workshop__publish_charter : List Str := ["self", "charter", "keys_before"]
theorem sc_Workshop__publish_charter : FnScope N_Workshop__publish_charter ["self", "charter", "keys_before"] (defScope s_Workshop__publish_charter) := ⟨rfl, rfl, rfl, by decide +kernel, rfl, by decide +kernel, by decide +kernel⟩
abbrev s_Workshop_turn : Stmt := inClass (top 79) 1
abbrev N_Workshop_turn : List Str := ["self", "roles", "expires", "version"]
theorem sc_Workshop_turn : FnScope N_Workshop_turn ["self", "roles", "expires"] (defScope s_Workshop_turn) := ⟨rfl, rfl, rfl, by decide +kernel, rfl, by decide +kernel, by decide +kernel⟩
abbrev s_Workshop___init : Stmt := inClass (top 79) 0
abbrev N_Workshop___init : List Str := ["self", "office", "roles", "expires"]
theorem sc_Workshop___init : FnScope N_Workshop___init ["self", "office", "roles", "expires"] (defScope s_Workshop___init) := ⟨rfl, rfl, rfl, by decide +kernel, rfl, by decide +kernel, by decide +kernel⟩
theorem rows_le (z : Str) : ∀ ys : List Str, (∀ y ∈ ys, y.length ≤ 12) → (txts (ys.map (rowT z))).length ≤ 38 * ys.length
  | [], _ => Nat.zero_le _
  | y :: ys, h => by
    have hy := h y List.mem_cons_self
    have hm := mkS_len y z
    have e12 : ∀ n, n ≤ 12 → (dig n).length ≤ 2 := fun n hn => (by decide +kernel : ∀ n, n < 13 → (dig n).length ≤ 2) n (by omega)
    have ed := e12 _ hy
    have e18 : (dig 18).length = 2 := by decide +kernel
    show ((91 :: (((dig y.length ++ 58 :: TL.tl y) ++ ((dig (mkS y z).length ++ 58 :: TL.tl (mkS y z)) ++ [])) ++ [93])) ++ txts (ys.map (rowT z))).length ≤ _
    rw [hm]
    have := rows_le z ys fun k m => h k (List.mem_cons_of_mem _ m)
    simp only [List.length_cons, List.length_append, List.length_nil, ← TL.len_tl, hm, e18]
    omega
theorem seal_le {z : Str} {ys : List Str} (hz : z.length ≤ 32000) (l : ys.length ≤ 32) (hy : ∀ y ∈ ys, kyS y = true) : (txt (sealT z ys)).length ≤ 100000 := by
  have a := seal_len z ys
  have b := rows_le z ys fun y m => kyl12 (hy y m)
  have c := dig_len (n := z.length) (by omega)
  omega
def Dft.new : Dft := ⟨[(kL, [])], [(kL, [])], []⟩
def Wst.new (m : List (Str × Str)) : Wst := ⟨m, Dft.new, [], [], [], [], [], .none⟩
def chN (n : Nat) (e rs : PyData) : PyData := .tuple [.str kC, .int n, e, rs]
/-- a charter is published, signed by these keys and its own -/
def Wst.charter (s : Wst) (d : PyData) (old : List Str) : Wst := { s with chs := s.chs ++ [d] }.issue d (old ++ (itD (ixD (rlD d 0) 1)).map strD)
def xR (r : String) : HO := .xd [("reason", .str (Str.ofString r))]
structure TlC (mg : Str → Option Value) : Prop where
  c_TOP_LIST : ∃ t, mg "TOP_LIST" = some (.str "list" t)
structure DrC (K : PySem.W.Frag) (C : Addr) : Prop where
  cl : Cls K C
  n1 : NoAttr K C "_files"
  n2 : NoAttr K C "_grants"
  n3 : NoAttr K C "_old_keys"
def spDrInit (C : Addr) : Sp := fun vs H Q _ => ∃ (o dx : Addr), vs = [.ref o] ∧ H o = some (.ins C dx []) ∧ ∀ (fd gd od fi gi : Addr) (H' : Hp), H fd = none → H gd = none → H od = none → H fi = none → H gi = none → [fd, gd, od, fi].Nodup → Kp [o] H H' →
  H' o = some (.ins C dx [("_files", .ref fd), ("_grants", .ref gd), ("_old_keys", .ref od)]) → H' fd = some (.dK [(Sum.inr kL, .ref fi)]) → H' fi = some (.dK []) → H' gd = some (.dK [(Sum.inr kL, .ref gi)]) → H' gi = some (.lst []) → H' od = some (.dK []) → Q .non H'
def spWIss (C CD CO : Addr) (Ts : List Addr) : Sp := fun vs H Q _ => ∃ (o off dm : Addr) (A : WA) (s : Wst) (v : V) (l : Addr) (d : PyData) (ks : List Str), vs = [.ref o, v, .ref l] ∧ Wsh C CD CO o off dm A s H ∧ Rq H v d ∧ isDoc d = true ∧ okD 12 d = true ∧ s.mde.length ≤ 900 ∧ s.txs.length ≤ 100000 ∧
  H l = some (.lst (ks.map V.str)) ∧ ks.length ≤ 1000 ∧ (∀ k ∈ ks, kyS k = true) ∧ (uq ks).length ≤ 32 ∧ Tabs Ts H ∧ ∀ H', Kp (A.td :: dm :: Ts) H H' → Tabs Ts H' → Wsh C CD CO o off dm A (s.issue d ks) H' → Q (.str (sealS d ks)) H'
def spWPubC (C CD CO : Addr) (Ts : List Addr) : Sp := fun vs H Q _ => ∃ (o off dm : Addr) (A : WA) (s : Wst) (v : V) (l : Addr) (d : PyData) (ks : List Str), vs = [.ref o, v, .ref l] ∧ Wsh C CD CO o off dm A s H ∧ Rq H v d ∧ isCharter d = true ∧ okD 12 d = true ∧ purD d = true ∧ s.mde.length ≤ 900 ∧ s.txs.length ≤ 100000 ∧ s.chs.length ≤ 100000 ∧
  H l = some (.lst (ks.map V.str)) ∧ ks.length ≤ 500 ∧ (∀ k ∈ ks, kyS k = true) ∧ (uq (ks ++ (itD (ixD (rlD d 0) 1)).map strD)).length ≤ 32 ∧ l ∉ A.wl ∧ Tabs Ts H ∧ ∀ H', Kp (A.cl :: A.td :: dm :: Ts) H H' → Tabs Ts H' → Wsh C CD CO o off dm A (s.charter d ks) H' → Q .non H'
/-- a new workshop: the places of it are new -/
def WA.own (A : WA) : List Addr := A.dr :: (A.wl ++ (A.wd ++ (A.ois ++ (A.sds ++ A.kls))))
def spWTurn (C CD CO CA : Addr) (Ts : List Addr) : Sp := fun vs H Q E => ∃ (o off dm : Addr) (A : WA) (s : Wst) (v u : V) (r e d : PyData), vs = [.ref o, v, u] ∧ Wsh C CD CO o off dm A s H ∧ Rq H v r ∧ Rq H u e ∧ okD 10 r = true ∧ s.chs.getLast? = some d ∧ isCharter d = true ∧ s.mde.length ≤ 900 ∧ s.txs.length ≤ 100000 ∧ s.chs.length ≤ 100000 ∧ Tabs Ts H ∧
  (isRoles r = false → ∀ (x : Addr) (H' : Hp), Kp Ts H H' → Tabs Ts H' → H x = none → H' x = some (xR "roles") → E (.ref CA) (some x) H') ∧
  (isRoles r = true → numB 0 1000000000000 e = false → ∀ (x : Addr) (H' : Hp), Kp Ts H H' → Tabs Ts H' → H x = none → H' x = some (xR "expires") → E (.ref CA) (some x) H') ∧
  (isRoles r = true → numB 0 1000000000000 e = true → purD r = true ∧ ∀ H', Kp (A.cl :: A.td :: dm :: Ts) H H' → Tabs Ts H' → Wsh C CD CO o off dm A (s.charter (chN (s.chs.length + 1) e r) (s.keys 0)) H' → Q .non H')
def spWInit (C CD CO CA : Addr) (Ts : List Addr) : Sp := fun vs H Q E => ∃ (o dx off dm : Addr) (m : List (Str × Str)) (v u : V) (r e : PyData), vs = [.ref o, .ref off, v, u] ∧ H o = some (.ins C dx []) ∧ Ofc CO off dm m H ∧ off ≠ o ∧ m.length ≤ 900 ∧ Rq H v r ∧ Rq H u e ∧ okD 10 r = true ∧ Tabs Ts H ∧
  (isRoles r = false → ∀ (x : Addr) (H' : Hp), Kp Ts H H' → Tabs Ts H' → H x = none → H' x = some (xR "roles") → E (.ref CA) (some x) H') ∧
  (isRoles r = true → numB 0 1000000000000 e = false → ∀ (x : Addr) (H' : Hp), Kp Ts H H' → Tabs Ts H' → H x = none → H' x = some (xR "expires") → E (.ref CA) (some x) H') ∧
  (isRoles r = true → numB 0 1000000000000 e = true → purD r = true ∧ ∀ (A : WA) (H' : Hp), (∀ a ∈ A.own, H a = none) → Kp (o :: dm :: Ts) H H' → Tabs Ts H' → Wsh C CD CO o off dm A ((Wst.new m).charter (chN 1 e r) []) H' → Q .non H')
theorem rl_kyS {d : PyData} (h : isRole d = true) : ∀ k ∈ (itD (ixD d 1)).map strD, kyS k = true := fun k m => by
  obtain ⟨e, me, rfl⟩ := List.mem_map.mp m
  unfold isRole at h; simp only [Bool.and_eq_true] at h
  have := List.all_eq_true.mp h.2.2.1 e me
  cases e with
  | str z => exact this
  | _ => cases this
theorem rl_len {d : PyData} (h : isRole d = true) : ((itD (ixD d 1)).map strD).length ≤ 16 := by
  rw [List.length_map]; exact (tupB_len (rl_keys h)).2
theorem keys_last {s : Wst} {d : PyData} (h : s.chs.getLast? = some d) (j : Nat) : s.keys j = (itD (ixD (rlD d j) 1)).map strD := by
  unfold Wst.keys; rw [h]; rfl
theorem ch_new {n : Nat} {e r : PyData} (n1 : 1 ≤ n) (n2 : n ≤ 1000000000) (he : numB 0 1000000000000 e = true) (hr : isRoles r = true) : isCharter (chN n e r) = true := by
  show ((true && decide (kC = Str.ofString "charter")) && (numB 1 1000000000000 (.int n) && (numB 0 1000000000000 e && isRoles r))) = true
  rw [he, hr, show numB 1 1000000000000 (.int n) = true from (by
    show (decide ((1 : Int) ≤ n) && decide ((n : Int) ≤ 1000000000000)) = true
    rw [decide_eq_true (by omega), decide_eq_true (by omega)]; rfl), decide_eq_true (rfl : kC = Str.ofString "charter")]; rfl
theorem num_int {lo hi : Int} {e : PyData} (h : numB lo hi e = true) : ∃ i : Int, e = .int i ∧ lo ≤ i ∧ i ≤ hi := by
  cases e with
  | int i =>
    have h : (decide (lo ≤ i) && decide (i ≤ hi)) = true := h
    rw [Bool.and_eq_true, decide_eq_true_eq, decide_eq_true_eq] at h
    exact ⟨i, rfl, h⟩
  | _ => cases h
theorem ch_newok {n : Nat} {e r : PyData} (n2 : n ≤ 1000000000) (he : numB 0 1000000000000 e = true) (or : okD 10 r = true) : okD 12 (chN n e r) = true := okD_tup.mpr ⟨by show 4 ≤ 200000; decide, fun x m => by
  simp only [List.mem_cons, List.not_mem_nil, or_false] at m
  rcases m with rfl | rfl | rfl | rfl
  · decide +kernel
  · exact okD_int.mpr ⟨by omega, by omega⟩
  · obtain ⟨i, rfl, h1, h2⟩ := num_int he; exact okD_int.mpr ⟨by omega, by omega⟩
  · exact ok_mono 10 11 _ (by decide) or⟩
theorem ch_newpu {n : Nat} {e r : PyData} (he : numB 0 1000000000000 e = true) (pr : purD r = true) : purD (chN n e r) = true := by
  obtain ⟨i, rfl, _⟩ := num_int he
  show (true && (true && (true && (purD r && true)))) = true
  rw [pr]; rfl
/-- a workshop that is being made -/
structure Wb (C CD o dx dr fd gd od : Addr) (H1 : Hp) (fs : List (Str × V)) (ds : List (Addr × List (Key × V))) (ls : List Addr) (H : Hp) : Prop where
  ob : H o = some (.ins C dx fs)
  k : Kp [o] H1 H
  dd : ∀ p ∈ ds, H p.1 = some (.dK p.2) ∧ H1 p.1 = none
  ll : ∀ a ∈ ls, H a = some (.lst []) ∧ H1 a = none
  nd : (ds.map (·.1)).Nodup
  nl : ls.Nodup
  dr : (∃ dy, H dr = some (.ins CD dy [("_files", .ref fd), ("_grants", .ref gd), ("_old_keys", .ref od)])) ∧ H1 dr = none ∧ dr ≠ o
theorem Wb.step {C CD o dx dr fd gd od : Addr} {H1 H H' : Hp} {fs gs : List (Str × V)} {ds : List (Addr × List (Key × V))} {ls : List Addr} (b : Wb C CD o dx dr fd gd od H1 fs ds ls H) (k : Kp [o] H H') (e : H' o = some (.ins C dx gs)) : Wb C CD o dx dr fd gd od H1 gs ds ls H' := by
  have no : ∀ {a : Addr} {u : HO}, H a = some u → (∀ x y z, u ≠ .ins x y z) → a ∉ [o] := fun h n m => by
    rw [List.mem_singleton.mp m, b.ob] at h
    exact n _ _ _ (Option.some.inj h).symm
  obtain ⟨⟨dy, ed⟩, f, n⟩ := b.dr
  exact ⟨e, b.k.trans k, fun p m => ⟨k.keep _ _ (no (b.dd p m).1 fun _ _ _ z => by cases z) (b.dd p m).1, (b.dd p m).2⟩, fun p m => ⟨k.keep _ _ (no (b.ll p m).1 fun _ _ _ z => by cases z) (b.ll p m).1, (b.ll p m).2⟩, b.nd, b.nl, ⟨dy, k.keep _ _ (by simpa using n) ed⟩, f, n⟩
theorem fld_new {C o dx p : Addr} {H : Hp} {fs gs : List (Str × V)} {u : HO} (e : H o = some (.ins C dx fs)) (hp : H p = none) : upd H p u o = some (.ins C dx fs) ∧ Kp [o] H (upd (upd H p u) o (.ins C dx gs)) ∧ upd (upd H p u) o (.ins C dx gs) p = some u := by
  have n : o ≠ p := ne_of_none e hp
  have e1 : upd H p u o = some (.ins C dx fs) := by rw [upd_ne n]; exact e
  exact ⟨e1, (Kp.new hp u : Kp [] _ _).in0.trans (Kp.insT e1 (List.mem_singleton.mpr rfl)), by rw [upd_ne n.symm]; exact upd_same⟩
theorem Wb.gone {C CD o dx dr fd gd od : Addr} {H1 H : Hp} {fs : List (Str × V)} {ds : List (Addr × List (Key × V))} {ls : List Addr} (b : Wb C CD o dx dr fd gd od H1 fs ds ls H) {p : Addr} (hp : H p = none) : H1 p = none :=
  b.k.gone1 (fun a m => by rw [List.mem_singleton.mp m, b.ob]; simp) hp
theorem Wb.dict {C CD o dx dr fd gd od p : Addr} {H1 H : Hp} {fs : List (Str × V)} (gs : List (Str × V)) {ds : List (Addr × List (Key × V))} {ls : List Addr} (b : Wb C CD o dx dr fd gd od H1 fs ds ls H) (hp : H p = none) : Wb C CD o dx dr fd gd od H1 gs (ds ++ [(p, [])]) ls (upd (upd H p (.dK [])) o (.ins C dx gs)) := by
  obtain ⟨_, k, ep⟩ := fld_new (gs := gs) (u := .dK []) b.ob hp
  have c := b.step k upd_same
  refine ⟨c.ob, c.k, fun q m => ?_, c.ll, ?_, c.nl, c.dr⟩
  · rcases List.mem_append.mp m with m | m
    · exact c.dd q m
    · rw [List.mem_singleton.mp m]; exact ⟨ep, b.gone hp⟩
  · rw [List.map_append, List.nodup_append]
    refine ⟨c.nd, List.nodup_cons.mpr ⟨List.not_mem_nil, List.nodup_nil⟩, fun a ma y my e => ?_⟩
    obtain ⟨q, mq, rfl⟩ := List.mem_map.mp ma
    have := (b.dd q mq).1
    rw [e, List.mem_singleton.mp my] at this
    rw [show H (p, ([] : List (Key × V))).1 = none from hp] at this
    cases this
theorem Wb.list {C CD o dx dr fd gd od p : Addr} {H1 H : Hp} {fs : List (Str × V)} (gs : List (Str × V)) {ds : List (Addr × List (Key × V))} {ls : List Addr} (b : Wb C CD o dx dr fd gd od H1 fs ds ls H) (hp : H p = none) : Wb C CD o dx dr fd gd od H1 gs ds (ls ++ [p]) (upd (upd H p (.lst [])) o (.ins C dx gs)) := by
  obtain ⟨_, k, ep⟩ := fld_new (gs := gs) (u := .lst []) b.ob hp
  have c := b.step k upd_same
  refine ⟨c.ob, c.k, c.dd, fun q m => ?_, c.nd, ?_, c.dr⟩
  · rcases List.mem_append.mp m with m | m
    · exact c.ll q m
    · rw [List.mem_singleton.mp m]; exact ⟨ep, b.gone hp⟩
  · rw [List.nodup_append]
    refine ⟨c.nl, List.nodup_cons.mpr ⟨List.not_mem_nil, List.nodup_nil⟩, fun a ma y my e => ?_⟩
    have := (b.ll a ma).1
    rw [e, List.mem_singleton.mp my, hp] at this
    cases this
theorem new2 {H : Hp} {p q : Addr} {u : HO} (h : upd H p u q = none) : p ≠ q ∧ H q = none := by
  have n : p ≠ q := fun e => by rw [e, upd_same] at h; cases h
  rw [upd_ne n.symm] at h
  exact ⟨n, h⟩
theorem SnA.len {H : Hp} : ∀ {r : List V} {as : List Addr} {l : List (PyData × List (Str × PyData))}, SnA H r as l → r.length = l.length
  | _, _, _, .nil => rfl
  | _, _, _, .cons _ _ _ _ t => by rw [List.length_cons, List.length_cons, t.len]
section
variable {P : Program} {w : World} {K : PySem.W.Frag} {mg : Str → Option Value} {base : Heap} {f : Addr} {fd : FuncData} {C CD CO CA CB CK CT : Addr} {Ts : List Addr}
theorem ok_drinit (F : Fun K "__init__" "Draft.__init__" s_Draft___init f fd) (T : DrC K C) (D : TlC mg) : FnOk P w K mg base CX0 1 f fd ["self"] (spDrInit C) := by
  refine F.ok sc_Draft___init (fun vs H Q E h => ?_) (fun cdv A outer s H vs Q E hr h => ?_)
  · obtain ⟨_, _, rfl, _⟩ := h; rfl
  obtain ⟨o, dx, rfl, ho, q⟩ := h
  refine ⟨_, (C8.pss_cut (ps_fld (pv 0) (pe_disp (pps_cons (pe_cSE D.c_TOP_LIST) pe_dnewK pps_nil) rfl rfl (by intro h; cases h) (by decide)) rfl)
    (C8.pss_cut (ps_fld (pv 0) (pe_disp (pps_cons (pe_cSE D.c_TOP_LIST) (pe_lst pa_nil) pps_nil) rfl rfl (by intro h; cases h) (by decide)) rfl)
    (pss_one (ps_fld (pv 0) pe_dnewK rfl)))), ?_⟩
  have m : o ∈ [o] := List.mem_singleton.mpr rfl
  refine ⟨fun σ H' => ∃ fd fi, σ = [some (.ref o)] ∧ H fd = none ∧ H fi = none ∧ fd ≠ fi ∧ H' o = some (.ins C dx [("_files", .ref fd)]) ∧ H' fd = some (.dK [(Sum.inr kL, .ref fi)]) ∧ H' fi = some (.dK []) ∧ Kp [o] H H', ?_, fun σ H1 ⟨fd, fi, hσ, f1, f2, n1, e1, e2, e3, k1⟩ => ?_⟩
  · walk_at "wq"
    intro p hp p1 hp1
    obtain ⟨n1, h1⟩ := new2 hp1
    have kA := Kp.drop hp (((Kp.new hp (.dK [])).trans (Kp.new hp1 (.dK [])) : Kp [] _ _).in0.trans (kp_dk (kvs' := [(Sum.inr kL, .ref p1)]) (by rw [upd_ne n1]; exact upd_same) (List.mem_singleton.mpr rfl)))
    have np : o ≠ p := ne_of_none ho hp
    have np1 : o ≠ p1 := ne_of_none ho h1
    have ho' := kA.keep o _ List.not_mem_nil ho
    exact ⟨by rw [upd_ne n1]; exact upd_same, [(Sum.inr kL, .ref p1)], rfl, (by show 1 ≤ 15; decide), C, dx, _, ho', T.cl, T.n1, (by show 0 < 1000; decide), p, hp, p1, h1, n1, rfl, (by rw [upd_ne np.symm]; exact upd_same), (by rw [upd_ne np1.symm, upd_ne n1.symm]; exact upd_same), kA.in0.trans (Kp.insT ho' m)⟩
  subst hσ
  refine ⟨fun σ H' => ∃ gd gi, σ = [some (.ref o)] ∧ H1 gd = none ∧ H1 gi = none ∧ gd ≠ gi ∧ H' o = some (.ins C dx [("_files", .ref fd), ("_grants", .ref gd)]) ∧ H' gd = some (.dK [(Sum.inr kL, .ref gi)]) ∧ H' gi = some (.lst []) ∧ Kp [o] H1 H', ?_, fun σ H2 ⟨gd, gi, hσ, f3, f4, n2, e4, e5, e6, k2⟩ => ?_⟩
  · walk_at "wq"
    intro p hp
    refine ⟨Nat.zero_le _, fun p1 hp1 => ?_⟩
    obtain ⟨n1, h1⟩ := new2 hp1
    have kA := Kp.drop hp (((Kp.new hp (.dK [])).trans (Kp.new hp1 (.lst [])) : Kp [] _ _).in0.trans (kp_dk (kvs' := [(Sum.inr kL, .ref p1)]) (by rw [upd_ne n1]; exact upd_same) (List.mem_singleton.mpr rfl)))
    have np : o ≠ p := ne_of_none e1 hp
    have np1 : o ≠ p1 := ne_of_none e1 h1
    have ho' := kA.keep o _ List.not_mem_nil e1
    exact ⟨by rw [upd_ne n1]; exact upd_same, [(Sum.inr kL, .ref p1)], rfl, (by show 1 ≤ 15; decide), C, dx, _, ho', T.cl, T.n2, (by show 1 < 1000; decide), p, hp, p1, h1, n1, rfl, (by rw [upd_ne np.symm]; exact upd_same), (by rw [upd_ne np1.symm, upd_ne n1.symm]; exact upd_same), kA.in0.trans (Kp.insT ho' m)⟩
  subst hσ
  walk_at "wq"
  intro p hp
  have np : o ≠ p := ne_of_none e4 hp
  have e4' : upd H2 p (.dK []) o = some (.ins C dx [("_files", .ref fd), ("_grants", .ref gd)]) := by rw [upd_ne np]; exact e4
  have k3 : Kp [o] H2 (upd (upd H2 p (.dK [])) o (.ins C dx [("_files", .ref fd), ("_grants", .ref gd), ("_old_keys", .ref p)])) := (Kp.new hp _ : Kp [] _ _).in0.trans (Kp.insT e4' m)
  have no : ∀ {x : Addr} {u : HO}, H x = none → x ∉ [o] := fun h mm => by rw [List.mem_singleton.mp mm, ho] at h; cases h
  have g1 : ∀ {b : Addr}, H1 b = none → H b = none := fun h => k1.gone1 (fun b mb => by rw [List.mem_singleton.mp mb, e1]; simp) h
  have g2 : ∀ {b : Addr}, H2 b = none → H1 b = none := fun h => k2.gone1 (fun b mb => by rw [List.mem_singleton.mp mb, e4]; simp) h
  have nf : fd ∉ [o] := fun mm => by rw [List.mem_singleton.mp mm, ho] at f1; cases f1
  have ni : fi ∉ [o] := fun mm => by rw [List.mem_singleton.mp mm, ho] at f2; cases f2
  have ng : gd ∉ [o] := fun mm => by rw [List.mem_singleton.mp mm, e1] at f3; cases f3
  have nh : gi ∉ [o] := fun mm => by rw [List.mem_singleton.mp mm, e1] at f4; cases f4
  have a1 : H2 fd = some (.dK [(Sum.inr kL, .ref fi)]) := k2.keep _ _ nf e2
  have a2 : H2 fi = some (.dK []) := k2.keep _ _ ni e3
  have x1 : gd ≠ fd := fun e => by rw [e, e2] at f3; cases f3
  have x2 : gd ≠ fi := fun e => by rw [e, e3] at f3; cases f3
  have y1 : p ≠ fd := fun e => by rw [e, a1] at hp; cases hp
  have y2 : p ≠ fi := fun e => by rw [e, a2] at hp; cases hp
  have y3 : p ≠ gd := fun e => by rw [e, e5] at hp; cases hp
  refine ⟨C, dx, _, e4', T.cl, T.n3, (by show 2 < 1000; decide), q fd gd p fi gi _ f1 (g1 f3) (g1 (g2 hp)) f2 (g1 f4) ?_ ((k1.trans k2).trans k3) upd_same (k3.keep _ _ nf a1) (k3.keep _ _ ni a2) (k3.keep _ _ ng e5) (k3.keep _ _ nh e6) ?_⟩
  · simp [x1.symm, y1.symm, y3.symm, n1, x2, y2]
  · rw [upd_ne np.symm]; exact upd_same
theorem ok_wissue (F : Fun K "_issue" "Workshop._issue" s_Workshop__issue f fd) (T : WsC K C) (c_published_name : Cal P w K mg base (L2.CX P w) 17 "published_name" (spPub CB Ts)) (c_write : Cal P w K mg base (L2.CX P w) 24 "write" (spWrite CB Ts)) (c_seal : Cal P w K mg base (L2.CX P w) 24 "seal" (spSeal2 CO CK CT K Ts)) :
    FnOk P w K mg base (L2.CX P w) 25 f fd ["self", "document", "keys"] (spWIss C CD CO Ts) := by
  refine F.okX sc_Workshop__issue (fun vs H Q E h => ?_) (fun cdv A outer s H vs Q E hr h => ?_)
  · obtain ⟨_, _, _, _, _, _, _, _, _, rfl, _⟩ := h; rfl
  obtain ⟨o, off, dm, A, s, v, l, d, ks, rfl, hW, hR, hd, od, hm, ht, hl, lk, ky, l32, hG, q⟩ := h
  refine ⟨_, (C8.pss_cut (ps_set (i := 3) sc_Workshop__issue.nd rfl (Or.inl rfl) (c_seal.pex hr (passX (takes_of rfl rfl rfl rfl) fun _ _ _ _ h => h) (pa_cons (pe_fld (pv 0) rfl) (pa_cons (c_write.pex hr (passX (takes_of rfl rfl rfl rfl) fun _ _ _ _ h => h) (pa_cons (pv 1) pa_nil)) (pa_cons (pv 2) pa_nil)))))
    (pss_cons (ps_dput (hu_of hr) (pe_fld (pv 0) rfl) (c_published_name.pex hr (passX (takes_of rfl rfl rfl rfl) fun _ _ _ _ h => h) (pa_cons (pv 1) pa_nil)) (pv 3) rfl)
    (pss_one (ps_ret (pv 3))))), ?_⟩
  obtain ⟨dx, ev, ho, re⟩ := hW.ob
  have ne : o ≠ off := hW.no.2.1
  refine ⟨fun σ H' => σ = [some (.ref o), some v, some (.ref l), some (.str (sealS d ks))] ∧ Kp (dm :: Ts) H H' ∧ Tabs Ts H' ∧ Wsh C CD CO o off dm A { s with mde := madeA s.mde (tx d) (uq ks) } H' , ?_, fun σ H1 ⟨hσ, k1, g1, W1⟩ => ?_⟩
  · walk_at "wq"
    refine ⟨C, dx, _, ho, T.cl, T.n1, _, rfl, v, d, rfl, hR, od, hG, fun _ H1 k1 g1 => ?_, fun h => by rw [hd] at h; cases h⟩
    have W1 := hW.tabs k1 hG
    refine seal_at W1.of hm (k1.keep l _ (hG.ne hl fun ps z => by cases z) hl) lk ky (tx_prn hd) (by have := tx_len hd; omega) g1 fun ys ha mem => ?_
    obtain rfl := uq_eq ha mem
    refine ⟨l32, fun big => absurd (seal_le (tx_len hd) l32 fun y my => ky y ((mem y).mp my)) (by omega), fun _ H2 k2 g2 O2 => ⟨rfl, (k1.mono fun b mb => List.mem_cons_of_mem _ mb).trans k2, g2, W1.mark g1 k2 O2⟩⟩
  subst hσ
  walk_at "wq"
  obtain ⟨dx1, ev1, ho1, _⟩ := W1.ob
  have R1 : Rq H1 v d := hR.off k1 fun b mb xs z => by
    rcases List.mem_cons.mp mb with e | mb
    · rw [e, hW.of.dc] at z; cases z
    · exact hG.ne z (fun ps z => by cases z) mb
  refine ⟨C, dx1, _, ho1, T.cl, T.n3, _, rfl, v, d, rfl, R1, od, g1, fun _ H2 k2 g2 => ?_, fun h => by rw [hd] at h; cases h⟩
  have W2 := W1.tabs k2 g1
  obtain ⟨k3, W3⟩ := W2.setTx (t := putT s.txs (pubN d) (sealS d ks))
  have z := DPut.k (k := Sum.inr (pubN d)) (v := .str (sealS d ks)) W2.tx (by rw [txK_len, show sizeLine = 16777216 from sizeLine_eq]; show s.txs.length < _; omega)
  rw [txK_put] at z
  refine ⟨A.td, rfl, _, z, q _ ?_ ?_ W3⟩
  · exact ((k1.trans (k2.mono fun b mb => List.mem_cons_of_mem _ mb)).mono fun b mb => List.mem_cons_of_mem _ mb).trans (k3.mono fun b mb => by rw [List.mem_singleton.mp mb]; exact List.mem_cons_self)
  · exact g2.kp k3 fun P mP mo => absurd mP (by rw [List.mem_singleton.mp mo]; exact g2.ne W2.tx fun ps z => by cases z)
theorem ok_wpubc (F : Fun K "_publish_charter" "Workshop._publish_charter" s_Workshop__publish_charter f fd) (T : WsC K C) (m_Workshop_keys_of : CalM P w K mg base CX0 2 C "_keys_of" (spWKeys C CD CO)) (m_Workshop_issue : CalM P w K mg base (L2.CX P w) 25 C "_issue" (spWIss C CD CO Ts)) :
    FnOk P w K mg base (L2.CX P w) 26 f fd ["self", "charter", "keys_before"] (spWPubC C CD CO Ts) := by
  refine F.okX sc_Workshop__publish_charter (fun vs H Q E h => ?_) (fun cdv A outer s H vs Q E hr h => ?_)
  · obtain ⟨_, _, _, _, _, _, _, _, _, rfl, _⟩ := h; rfl
  obtain ⟨o, off, dm, A, s, v, l, d, ks, rfl, hW, hR, hd, od, pd, hm, ht, hc, hl, lk, ky, l32, nl, hG, q⟩ := h
  refine ⟨_, (pss_cons (ps_expr (pe_bm PySem.F.plainAttrs_list PySem.F.slot_list_append PySem.F.type_list_append mt_append (pe_fld (pv 0) rfl) (pa_cons (pv 1) pa_nil)))
    (pss_one (ps_expr (m_Workshop_issue.pex hr (passX (takes_of rfl rfl rfl rfl) fun _ _ _ _ h => h) (pv 0) (pa_cons (pv 1) (pa_cons (pe_op op_cat (pv 2) (m_Workshop_keys_of.pe hr (pv 0) (pa_cons pe_str pa_nil))) pa_nil)))))), ?_⟩
  obtain ⟨dx, ev, ho, re⟩ := hW.ob
  walk_at "wq"
  obtain ⟨vs, ecl, rch⟩ := hW.ch
  obtain ⟨k1, W1⟩ := hW.addCh ecl hR pd
  obtain ⟨dx1, ev1, ho1, _⟩ := W1.ob
  have lim : sizeLine = 16777216 := sizeLine_eq
  have ir := ch_role hd (j := 0) (by decide)
  have hk16 : ((itD (ixD (rlD d 0) 1)).map strD).length ≤ 16 := rl_len ir
  have lst : ({ s with chs := s.chs ++ [d] } : Wst).chs.getLast? = some d := by simp
  have g1 := hG.kp k1 fun P mP mo => absurd mP (by rw [List.mem_singleton.mp mo]; exact hG.ne ecl fun ps z => by cases z)
  have el := k1.keep l _ (fun m => nl (by rw [List.mem_singleton.mp m]; exact List.mem_cons_self)) hl
  refine ⟨C, dx, _, ho, T.cl, T.n4, _, rfl, .inl ⟨rfl, _, SqL.of ecl⟩, A.cl, rfl, _, ecl, (by rw [rch.len]; omega), dx1, _, ho1, rfl, dx1, _, ho1, rfl, o, off, dm, A, _, _, 0, d, rfl, W1, rfl, lst, hd, fun p H2 hp ep k2 => ?_⟩
  rw [keys_last lst] at ep
  refine ⟨l, p, _, _, rfl, rfl, k2.keep _ _ List.not_mem_nil el, ep, ?_, fun p2 hp2 => ?_⟩
  · rw [List.length_map, List.length_map]; omega
  have kn := Kp.new (S := []) hp2 (.lst (ks.map V.str ++ ((itD (ixD (rlD d 0) 1)).map strD).map V.str))
  have k2' := k2.trans kn
  refine ⟨o, off, dm, A, _, v, p2, d, ks ++ (itD (ixD (rlD d 0) 1)).map strD, rfl, W1.kp0 k2', (hR.pure k1 pd).kp0 k2', by unfold isDoc; rw [hd]; rfl, od, hm, ht, by rw [upd_same, List.map_append], ?_, fun k m => ?_, l32, g1.kp0 k2', fun H3 k3 g3 W3 => q H3 ?_ g3 W3⟩
  · rw [List.length_append]; omega
  · rcases List.mem_append.mp m with m | m
    · exact ky k m
    · exact rl_kyS ir k m
  · exact ((k1.mono fun b mb => by rw [List.mem_singleton.mp mb]; exact List.mem_cons_self).trans k2'.in0).trans (k3.mono fun b mb => List.mem_cons_of_mem _ mb)
theorem ok_wturn (F : Fun K "turn" "Workshop.turn" s_Workshop_turn f fd) (B : Blt mg) (T : WsC K C) (c_require_roles : Cal P w K mg base (CXG P w) 13 "_require_roles" (spReqRoles CA Ts)) (c_require_expires : Cal P w K mg base (CXG P w) 3 "_require_expires" (spReqExp CA)) (m_Workshop_keys_of : CalM P w K mg base CX0 2 C "_keys_of" (spWKeys C CD CO)) (m_Workshop_publish_charter : CalM P w K mg base (L2.CX P w) 26 C "_publish_charter" (spWPubC C CD CO Ts)) :
    FnOk P w K mg base (CXG P w) 27 f fd ["self", "roles", "expires"] (spWTurn C CD CO CA Ts) := by
  refine F.okG sc_Workshop_turn (fun vs H Q E h => ?_) (fun cdv A outer s H vs Q E hr h => ?_)
  · obtain ⟨_, _, _, _, _, _, _, _, _, _, rfl, _⟩ := h; rfl
  obtain ⟨o, off, dm, A, s, v, u, r, e, d, rfl, hW, hR, hE, or, hl, hc, hm, ht, hch, hG, q1, q2, q3⟩ := h
  refine ⟨_, (pss_cons (ps_expr (c_require_roles.pex hr (passG (takesG_of rfl rfl rfl rfl) fun _ _ _ _ h => h) (pa_cons (pv 1) pa_nil)))
    (pss_cons (ps_expr (c_require_expires.pex hr (passG (takesG_of rfl rfl rfl rfl) fun _ _ _ _ h => h) (pa_cons (pv 2) pa_nil)))
    (pss_cons (ps_set (i := 3) sc_Workshop_turn.nd rfl (Or.inl rfl) (pe_op op_add (B.len_q (pa_cons (pe_fld (pv 0) rfl) pa_nil)) pe_int))
    (pss_one (ps_expr (m_Workshop_publish_charter.peL hr (pv 0) (pa_cons (pe_tup (pa_cons pe_str (pa_cons (pv 3) (pa_cons (pv 2) (pa_cons (pv 1) pa_nil))))) (pa_cons (m_Workshop_keys_of.pe hr (pv 0) (pa_cons pe_str pa_nil)) pa_nil)))))))), ?_⟩
  have lim : sizeLine = 16777216 := sizeLine_eq
  walk_at "wq"
  refine ⟨v, r, rfl, hR, or, hG, fun hr1 H1 k1 g1 => ?_, fun hr0 x G k g hx ex => q1 hr0 x G k g hx ex⟩
  refine ⟨u, e, rfl, hE.tabs k1 hG, fun he => ?_, fun he x G k hx ex => q2 hr1 he x G (k1.trans k.in0) (g1.kp0 k) (k1.gone g1 hx) ex⟩
  have W1 := hW.tabs k1 hG
  obtain ⟨dx, ev, ho1, _⟩ := W1.ob
  obtain ⟨vs, ecl, rch⟩ := W1.ch
  refine ⟨C, dx, _, ho1, T.cl, T.n4, _, rfl, A.cl, rfl, vs, .inl (SqL.of ecl), dx, _, ho1, rfl, by omega, fun p hp => ?_⟩
  have ei : (vs.length : Int) + 1 = ((s.chs.length + 1 : Nat) : Int) := by rw [rch.len]; omega
  rw [ei]
  rw [ei] at *
  have kn := Kp.new (S := []) hp (.tup [V.str (Str.ofString "charter"), V.int ((s.chs.length + 1 : Nat) : Int), u, v])
  have W2 := W1.kp0 kn
  obtain ⟨dx2, ev2, ho2, _⟩ := W2.ob
  obtain ⟨pr, q⟩ := q3 hr1 he
  have rC : Rq (upd H1 p (.tup [V.str (Str.ofString "charter"), V.int ((s.chs.length + 1 : Nat) : Int), u, v])) (.ref p) (chN (s.chs.length + 1) e r) := .tup upd_same (.cons (.str _) (.cons (.int _) (.cons ((hE.tabs k1 hG).kp0 kn) (.cons ((hR.tabs k1 hG).kp0 kn) .nil))))
  refine ⟨dx2, _, ho2, rfl, o, off, dm, A, s, _, 0, d, rfl, W2, rfl, hl, hc, fun l H3 hl3 el k3 => ?_⟩
  have hN := ch_new (n := s.chs.length + 1) (by omega) (by omega) he hr1
  have k16 : (s.keys 0).length ≤ 16 := by rw [keys_last hl]; exact rl_len (ch_role hc (j := 0) (by decide))
  have n16 : ((itD (ixD (rlD (chN (s.chs.length + 1) e r) 0) 1)).map strD).length ≤ 16 := rl_len (ch_role hN (j := 0) (by decide))
  refine ⟨o, off, dm, A, s, .ref p, l, _, s.keys 0, rfl, W2.kp0 k3, rC.kp0 k3, hN, ch_newok (by omega) he or, ch_newpu he pr, hm, ht, hch, el, by omega, fun k mk => (by rw [keys_last hl] at mk; exact rl_kyS (ch_role hc (j := 0) (by decide)) k mk), Nat.le_trans (uq_len _) (by rw [List.length_append]; omega), fun ml => ?_, (g1.kp0 kn).kp0 k3, fun HA kA gA WA => q HA ?_ gA WA⟩
  · obtain ⟨_, e⟩ := W2.wlv l ml
    rw [hl3] at e; cases e
  · exact (((k1.mono fun b mb => by simp [mb]).trans kn.in0).trans k3.in0).trans kA
theorem ok_winit (F : Fun K "__init__" "Workshop.__init__" s_Workshop___init f fd) (T : WsC K C) (c_require_roles : Cal P w K mg base (CXG P w) 13 "_require_roles" (spReqRoles CA Ts)) (c_require_expires : Cal P w K mg base (CXG P w) 3 "_require_expires" (spReqExp CA)) (k_Draft : CalK P w K mg base CX0 1 CD "Draft" (spDrInit CD)) (m_Workshop_publish_charter : CalM P w K mg base (L2.CX P w) 26 C "_publish_charter" (spWPubC C CD CO Ts)) :
    FnOk P w K mg base (CXG P w) 27 f fd ["self", "office", "roles", "expires"] (spWInit C CD CO CA Ts) := by
  refine F.okG sc_Workshop___init (fun vs H Q E h => ?_) (fun cdv A outer s H vs Q E hr h => ?_)
  · obtain ⟨_, _, _, _, _, _, _, _, _, rfl, _⟩ := h; rfl
  obtain ⟨o, dx, off, dm, m', v, u, r, e, rfl, ho, hO, no, hm, hR, hE, or, hG, q1, q2, q3⟩ := h
  refine ⟨_, (pss_cons (ps_expr (c_require_roles.pex hr (passG (takesG_of rfl rfl rfl rfl) fun _ _ _ _ h => h) (pa_cons (pv 2) pa_nil)))
    (pss_cons (ps_expr (c_require_expires.pex hr (passG (takesG_of rfl rfl rfl rfl) fun _ _ _ _ h => h) (pa_cons (pv 3) pa_nil)))
    (C8.pss_cut (ps_fld (pv 0) (pv 1) rfl)
    (C8.pss_cut (ps_fld (pv 0) (k_Draft.pe0 hr) rfl)
    (C8.pss_cut (ps_fld (pv 0) pe_dnewK rfl)
    (C8.pss_cut (ps_fld (pv 0) (pe_lst pa_nil) rfl)
    (C8.pss_cut (ps_fld (pv 0) (pe_lst pa_nil) rfl)
    (C8.pss_cut (ps_fld (pv 0) (pe_lst pa_nil) rfl)
    (C8.pss_cut (ps_fld (pv 0) pe_dnewK rfl)
    (C8.pss_cut (ps_fld (pv 0) pe_non rfl)
    (pss_one (ps_expr (m_Workshop_publish_charter.peL hr (pv 0) (pa_cons (pe_tup (pa_cons pe_str (pa_cons pe_int (pa_cons (pv 3) (pa_cons (pv 2) pa_nil))))) (pa_cons (pe_lst pa_nil) pa_nil))))))))))))))), ?_⟩
  have m : o ∈ [o] := List.mem_singleton.mpr rfl
  walk_at "wq"
  have no' : ∀ {x : Addr}, x ≠ o → x ∉ [o] := fun h mm => h (List.mem_singleton.mp mm)
  have ndm : dm ≠ o := ne_of hO.dc ho (by intro z; cases z)
  refine ⟨v, r, rfl, hR, or, hG, fun hr1 H1 k1 g1 => ?_, fun hr0 x G k g hx ex => q1 hr0 x G k g hx ex⟩
  have ho1 := k1.keep o _ (hG.ne ho fun ps z => by cases z) ho
  have hO1 := hO.tabs k1 hG
  refine ⟨u, e, rfl, hE.tabs k1 hG, fun he => ?_, fun he x G k hx ex => q2 hr1 he x G (k1.trans k.in0) (g1.kp0 k) (k1.gone g1 hx) ex⟩
  refine ⟨fun σ H' => σ = [some (.ref o), some (.ref off), some v, some u] ∧ H' o = some (.ins C dx [("_office", .ref off)]) ∧ Kp [o] H1 H', ?_, fun σ H2 ⟨hσ, e2, k2⟩ => ?_⟩
  · walk_at "wq"
    exact ⟨C, dx, _, ho1, T.cl, T.n1, (by show 0 < 1000; decide), rfl, Kp.insT ho1 m⟩
  subst hσ
  refine ⟨fun σ H' => ∃ dr fd gd od fi gi, σ = [some (.ref o), some (.ref off), some v, some u] ∧ Wb C CD o dx dr fd gd od H1 [("_office", .ref off), ("_draft", .ref dr)] [(fd, [(Sum.inr kL, .ref fi)]), (gd, [(Sum.inr kL, .ref gi)]), (od, []), (fi, [])] [gi] H', ?_, fun σ H3 ⟨dr, fd, gd, od, fi, gi, hσ, B3⟩ => ?_⟩
  · walk_at "wq"
    intro x dy n1 n2 n3
    have kN : Kp [] H2 (upd (upd H2 dy (.own x)) x (.ins CD dy [])) := (Kp.new n2 _).trans (Kp.new (by rw [upd_ne n3.symm]; exact n1) _)
    refine ⟨x, dy, rfl, upd_same, fun fd gd od fi gi H' f1 f2 f3 f4 f5 nd kk e0 e1' e2' e3 e4 e5 => ?_⟩
    have kD := Kp.drop n1 (kN.in0.trans kk)
    have ho' := kD.keep o _ List.not_mem_nil e2
    have fr : ∀ {b : Addr}, upd (upd H2 dy (.own x)) x (.ins CD dy []) b = none → H2 b = none := fun h => (new2 (new2 h).2).2
    have fr1 : ∀ {b : Addr}, H2 b = none → H1 b = none := fun h => k2.gone1 (fun a ma => by rw [List.mem_singleton.mp ma, e2]; simp) h
    have neo : ∀ {b : Addr}, H2 b = none → b ≠ o := fun h z => by rw [z, e2] at h; cases h
    refine ⟨rfl, C, dx, _, ho', T.cl, T.n2, (by show 1 < 1000; decide), x, fd, gd, od, fi, gi, ?_⟩
    have at' : ∀ {b : Addr} {w : HO}, H2 b = none → H' b = some w → upd H' o (.ins C dx [("_office", .ref off), ("_draft", .ref x)]) b = some w := fun h g => by rw [upd_ne (neo h)]; exact g
    refine ⟨upd_same, k2.trans (kD.in0.trans (Kp.insT ho' m)), fun p mp => ?_, fun p mp => ?_, nd, List.nodup_cons.mpr ⟨List.not_mem_nil, List.nodup_nil⟩, ⟨dy, at' n1 e0⟩, fr1 n1, neo n1⟩
    · simp only [List.mem_cons, List.not_mem_nil, or_false] at mp
      rcases mp with rfl | rfl | rfl | rfl
      · exact ⟨at' (fr f1) e1', fr1 (fr f1)⟩
      · exact ⟨at' (fr f2) e3, fr1 (fr f2)⟩
      · exact ⟨at' (fr f3) e5, fr1 (fr f3)⟩
      · exact ⟨at' (fr f4) e2', fr1 (fr f4)⟩
    · rw [List.mem_singleton.mp mp]
      exact ⟨at' (fr f5) e4, fr1 (fr f5)⟩
  subst hσ
  refine ⟨fun σ H' => ∃ td, σ = [some (.ref o), some (.ref off), some v, some u] ∧ Wb C CD o dx dr fd gd od H1 [("_office", .ref off), ("_draft", .ref dr), ("_texts", .ref td)] [(fd, [(Sum.inr kL, .ref fi)]), (gd, [(Sum.inr kL, .ref gi)]), (od, []), (fi, []), (td, [])] [gi] H', ?_, fun σ H4 ⟨td, hσ, B4⟩ => ?_⟩
  · walk_at "wq"
    exact fun p hp => ⟨C, dx, _, (fld_new (gs := []) B3.ob hp).1, T.cl, T.n3, (by show 2 < 1000; decide), p, B3.dict _ hp⟩
  subst hσ
  refine ⟨fun σ H' => ∃ cl, σ = [some (.ref o), some (.ref off), some v, some u] ∧ Wb C CD o dx dr fd gd od H1 [("_office", .ref off), ("_draft", .ref dr), ("_texts", .ref td), ("_charters", .ref cl)] [(fd, [(Sum.inr kL, .ref fi)]), (gd, [(Sum.inr kL, .ref gi)]), (od, []), (fi, []), (td, [])] [gi, cl] H', ?_, fun σ H5 ⟨cl, hσ, B5⟩ => ?_⟩
  · walk_at "wq"
    exact ⟨Nat.zero_le _, fun p hp => ⟨C, dx, _, (fld_new (gs := []) B4.ob hp).1, T.cl, T.n4, (by show 3 < 1000; decide), p, B4.list _ hp⟩⟩
  subst hσ
  refine ⟨fun σ H' => ∃ sl, σ = [some (.ref o), some (.ref off), some v, some u] ∧ Wb C CD o dx dr fd gd od H1 [("_office", .ref off), ("_draft", .ref dr), ("_texts", .ref td), ("_charters", .ref cl), ("_stamps", .ref sl)] [(fd, [(Sum.inr kL, .ref fi)]), (gd, [(Sum.inr kL, .ref gi)]), (od, []), (fi, []), (td, [])] [gi, cl, sl] H', ?_, fun σ H6 ⟨sl, hσ, B6⟩ => ?_⟩
  · walk_at "wq"
    exact ⟨Nat.zero_le _, fun p hp => ⟨C, dx, _, (fld_new (gs := []) B5.ob hp).1, T.cl, T.n5, (by show 4 < 1000; decide), p, B5.list _ hp⟩⟩
  subst hσ
  refine ⟨fun σ H' => ∃ nl, σ = [some (.ref o), some (.ref off), some v, some u] ∧ Wb C CD o dx dr fd gd od H1 [("_office", .ref off), ("_draft", .ref dr), ("_texts", .ref td), ("_charters", .ref cl), ("_stamps", .ref sl), ("_snapshots", .ref nl)] [(fd, [(Sum.inr kL, .ref fi)]), (gd, [(Sum.inr kL, .ref gi)]), (od, []), (fi, []), (td, [])] [gi, cl, sl, nl] H', ?_, fun σ H7 ⟨nl, hσ, B7⟩ => ?_⟩
  · walk_at "wq"
    exact ⟨Nat.zero_le _, fun p hp => ⟨C, dx, _, (fld_new (gs := []) B6.ob hp).1, T.cl, T.n6, (by show 5 < 1000; decide), p, B6.list _ hp⟩⟩
  subst hσ
  refine ⟨fun σ H' => ∃ ld, σ = [some (.ref o), some (.ref off), some v, some u] ∧ Wb C CD o dx dr fd gd od H1 [("_office", .ref off), ("_draft", .ref dr), ("_texts", .ref td), ("_charters", .ref cl), ("_stamps", .ref sl), ("_snapshots", .ref nl), ("_latest", .ref ld)] [(fd, [(Sum.inr kL, .ref fi)]), (gd, [(Sum.inr kL, .ref gi)]), (od, []), (fi, []), (td, []), (ld, [])] [gi, cl, sl, nl] H', ?_, fun σ H8 ⟨ld, hσ, B8⟩ => ?_⟩
  · walk_at "wq"
    exact fun p hp => ⟨C, dx, _, (fld_new (gs := []) B7.ob hp).1, T.cl, T.n7, (by show 6 < 1000; decide), p, B7.dict _ hp⟩
  subst hσ
  refine ⟨fun σ H' => σ = [some (.ref o), some (.ref off), some v, some u] ∧ Wb C CD o dx dr fd gd od H1 [("_office", .ref off), ("_draft", .ref dr), ("_texts", .ref td), ("_charters", .ref cl), ("_stamps", .ref sl), ("_snapshots", .ref nl), ("_latest", .ref ld), ("_entry", .non)] [(fd, [(Sum.inr kL, .ref fi)]), (gd, [(Sum.inr kL, .ref gi)]), (od, []), (fi, []), (td, []), (ld, [])] [gi, cl, sl, nl] H', ?_, fun σ H9 ⟨hσ, B9⟩ => ?_⟩
  · walk_at "wq"
    exact ⟨C, dx, _, B8.ob, T.cl, T.n8, (by show 7 < 1000; decide), B8.step (Kp.insT B8.ob m) upd_same⟩
  subst hσ
  walk_at "wq"
  have lim : sizeLine = 16777216 := sizeLine_eq
  refine ⟨dx, _, B9.ob, rfl, by omega, fun p hp => ⟨Nat.zero_le _, fun l hl => ?_⟩⟩
  have D : ∀ {a : Addr} {kv : List (Key × V)}, (a, kv) ∈ [(fd, [(Sum.inr kL, V.ref fi)]), (gd, [(Sum.inr kL, V.ref gi)]), (od, []), (fi, []), (td, []), (ld, [])] → H9 a = some (.dK kv) := fun h => (B9.dd _ h).1
  have L : ∀ {a : Addr}, a ∈ [gi, cl, sl, nl] → H9 a = some (.lst []) := fun h => (B9.ll _ h).1
  have hfd : H9 fd = some (.dK [(Sum.inr kL, V.ref fi)]) := D (by simp)
  have hgd : H9 gd = some (.dK [(Sum.inr kL, V.ref gi)]) := D (by simp)
  have hod : H9 od = some (.dK []) := D (by simp)
  have hfi : H9 fi = some (.dK []) := D (by simp)
  have htd : H9 td = some (.dK []) := D (by simp)
  have hld : H9 ld = some (.dK []) := D (by simp)
  have hgi : H9 gi = some (.lst []) := L (by simp)
  have hcl : H9 cl = some (.lst []) := L (by simp)
  have hsl : H9 sl = some (.lst []) := L (by simp)
  have hnl : H9 nl = some (.lst []) := L (by simp)
  let A : WA := { dr := dr, fd := fd, gd := gd, od := od, td := td, cl := cl, sl := sl, nl := nl, ld := ld, fis := [fi], gis := [gi], ois := [], sds := [], kls := [] }
  have W0 : Wsh C CD CO o off dm A (Wst.new m') H9 := by
    refine ⟨⟨dx, .non, B9.ob, .non⟩, hO1.kp B9.k (by simpa using no) (by simpa using ndm), B9.dr.1, ⟨_, hfd, .cons hfi .nil .nil⟩, ⟨_, hgd, .cons hgi .nil .nil⟩, ⟨_, hod, .nil⟩, htd, ⟨_, hcl, .nil⟩, hsl, ⟨_, hnl, .nil⟩, ⟨_, hld, .nil⟩, ?_, ?_, fun a ma => absurd ma List.not_mem_nil, fun a ma => absurd ma List.not_mem_nil, ⟨B9.dr.2.2.symm, no.symm, ?_⟩, ?_⟩
    · exact (List.perm_append_comm (l₁ := [gi]) (l₂ := [cl, sl, nl])).nodup_iff.mp B9.nl
    · exact (List.perm_append_comm (l₁ := [fd, gd, od, fi]) (l₂ := [td, ld])).nodup_iff.mp B9.nd
    · intro z
      obtain ⟨dq, eq⟩ := hO1.ob
      rw [← z, B9.dr.2.1] at eq
      cases eq
    · exact ⟨fun q mq => by rw [List.mem_singleton.mp mq]; exact fun _ h => absurd h List.not_mem_nil, fun q mq => by rw [List.mem_singleton.mp mq]; rfl, rfl, fun q mq => absurd mq List.not_mem_nil, fun q mq => absurd mq List.not_mem_nil, rfl⟩
  have own : ∀ a ∈ A.own, H1 a = none := fun a ma => by
    have D1 : ∀ {a : Addr} {kv : List (Key × V)}, (a, kv) ∈ [(fd, [(Sum.inr kL, V.ref fi)]), (gd, [(Sum.inr kL, V.ref gi)]), (od, []), (fi, []), (td, []), (ld, [])] → H1 a = none := fun h => (B9.dd _ h).2
    have L1 : ∀ {a : Addr}, a ∈ [gi, cl, sl, nl] → H1 a = none := fun h => (B9.ll _ h).2
    have ma : a ∈ dr :: ([cl, sl, nl, gi] ++ ([td, ld, fd, gd, od, fi] ++ [])) := ma
    simp only [List.mem_cons, List.mem_append, List.not_mem_nil, or_false] at ma
    rcases ma with rfl | (rfl | rfl | rfl | rfl) | rfl | rfl | rfl | rfl | rfl | rfl
    · exact B9.dr.2.1
    · exact L1 (by simp)
    · exact L1 (by simp)
    · exact L1 (by simp)
    · exact L1 (by simp)
    · exact D1 (kv := []) (by simp)
    · exact D1 (kv := []) (by simp)
    · exact D1 (kv := [(Sum.inr kL, V.ref fi)]) (by simp)
    · exact D1 (kv := [(Sum.inr kL, V.ref gi)]) (by simp)
    · exact D1 (kv := []) (by simp)
    · exact D1 (kv := []) (by simp)
  obtain ⟨i, ei, i0, i1⟩ := num_int he
  obtain ⟨pr, q⟩ := q3 hr1 he
  have kn := (Kp.new (S := []) hp (.tup [V.str (Str.ofString "charter"), V.int 1, u, v])).trans (Kp.new (S := []) hl (.lst []))
  have k19 : Kp (o :: Ts) H H9 := (k1.mono fun b mb => List.mem_cons_of_mem _ mb).trans (B9.k.mono fun b mb => by rw [List.mem_singleton.mp mb]; exact List.mem_cons_self)
  have g9 : Tabs Ts H9 := g1.kp B9.k fun P mP mo => absurd mP (by rw [List.mem_singleton.mp mo]; exact g1.ne ho1 fun ps z => by cases z)
  have rE : Rq H1 u e := hE.tabs k1 hG
  have rR : Rq H1 v r := hR.tabs k1 hG
  have pe : purD e = true := by rw [ei]; rfl
  have rC : Rq (upd (upd H9 p (.tup [V.str (Str.ofString "charter"), V.int 1, u, v])) l (.lst [])) (.ref p) (chN 1 e r) := .tup (by rw [upd_ne (fun z => by rw [z, upd_same] at hl; cases hl)]; exact upd_same) (.cons (.str _) (.cons (.int _) (.cons (((rE.pure B9.k pe)).kp0 kn) (.cons ((rR.pure B9.k pr).kp0 kn) .nil))))
  refine ⟨o, off, dm, A, Wst.new m', .ref p, l, chN 1 e r, [], rfl, W0.kp0 kn, rC, ch_new (Nat.le_refl _) (by decide) he hr1, ch_newok (by decide) he or, ch_newpu he pr, hm, Nat.zero_le _, Nat.zero_le _, upd_same, Nat.zero_le _, fun k mk => absurd mk List.not_mem_nil, ?_, fun ml => ?_, g9.kp0 kn, fun HA kA gA WA' => q A HA (fun a ma => k1.gone g1 (own a ma)) ?_ gA WA'⟩
  · have := rl_len (ch_role (ch_new (Nat.le_refl 1) (by decide) he hr1) (j := 0) (by decide))
    exact Nat.le_trans (uq_len _) (by rw [List.nil_append]; exact Nat.le_trans this (by decide))
  · have := L (a := l) (by
      have ml : l ∈ [cl, sl, nl, gi] := ml
      simp only [List.mem_cons, List.not_mem_nil, or_false] at ml ⊢
      rcases ml with h | h | h | h <;> simp [h])
    rw [(new2 hl).2] at this
    cases this
  · have f1 : H cl = none := k1.gone g1 (own cl (by show cl ∈ dr :: ([cl, sl, nl, gi] ++ ([td, ld, fd, gd, od, fi] ++ [])); simp))
    have f2 : H td = none := k1.gone g1 (own td (by show td ∈ dr :: ([cl, sl, nl, gi] ++ ([td, ld, fd, gd, od, fi] ++ [])); simp))
    have kA : Kp (cl :: td :: dm :: Ts) _ HA := kA
    have kk : Kp (cl :: td :: o :: dm :: Ts) H HA := ((k19.mono fun b mb => by
      rcases List.mem_cons.mp mb with e | mb
      · rw [e]; simp
      · simp [mb]).trans kn.in0).trans (kA.mono fun b mb => by
      rcases List.mem_cons.mp mb with e | mb
      · rw [e]; simp
      rcases List.mem_cons.mp mb with e | mb
      · rw [e]; simp
      rcases List.mem_cons.mp mb with e | mb
      · rw [e]; simp
      · simp [mb])
    exact Kp.drop f2 (Kp.drop f1 kk)
end
/-! the draft: a file is put -/
abbrev s_require_path : Stmt := top 71
abbrev N_require_path : List Str := ["path"]
theorem sc_require_path : FnScope N_require_path ["path"] (defScope s_require_path) := ⟨rfl, rfl, rfl, by decide +kernel, rfl, by decide +kernel, by decide +kernel⟩
abbrev s_Draft__require_list : Stmt := inClass (top 70) 12
abbrev N_Draft__require_list : List Str := ["self", "name"]
theorem sc_Draft__require_list : FnScope N_Draft__require_list ["self", "name"] (defScope s_Draft__require_list) := ⟨rfl, rfl, rfl, by decide +kernel, rfl, by decide +kernel, by decide +kernel⟩
abbrev s_Draft_put : Stmt := inClass (top 70) 1
abbrev N_Draft_put : List Str := ["self", "name", "path", "text", "files"]
theorem sc_Draft_put : FnScope N_Draft_put ["self", "name", "path", "text"] (defScope s_Draft_put) := ⟨rfl, rfl, rfl, by decide +kernel, rfl, by decide +kernel, by decide +kernel⟩
abbrev s_Workshop_put : Stmt := inClass (top 79) 2
abbrev N_Workshop_put : List Str := ["self", "name", "path", "text"]
theorem sc_Workshop_put : FnScope N_Workshop_put ["self", "name", "path", "text"] (defScope s_Workshop_put) := ⟨rfl, rfl, rfl, by decide +kernel, rfl, by decide +kernel, by decide +kernel⟩
theorem len_dK {X : Cx} {p pos : Pos} {e : Expr} {es : List Expr} {t : TA} (B : Blt X.mg) (ha : PA X (e :: es) t) (hg : Gl X "len" := by rfl) (he : starEach (e :: es) X.env = (false, eval e X.env) :: starEach es X.env := by rfl) (hpl : (backTo pos (starEach es X.env)).any (·.1) = false := by rfl) :
    PE X (.Call (.Name "len" p) (e :: es) [] pos) (tCB (fun xs H Q => ∃ (a : Addr) (kvs : List (Key × V)), xs = [V.ref a] ∧ H a = some (HO.dK kvs) ∧ Q (V.int (kvs.length : Nat)) H) t) := pe_callB call_lenD hg B.len PySem.boot_len ha (he := he) (hpl := hpl)
/-- the first entry of a name is set -/
def setA {α : Type} : List (Str × α) → Str → α → List (Str × α)
  | [], _, _ => []
  | q :: r, n, x => if q.1 = n then (n, x) :: r else q :: setA r n x
def nmV {α : Type} (l : List (Str × α)) : V → Option α
  | .str n => getA l n
  | _ => none
def rowF (z : Str) : PyData := .tuple [.int z.length, .str (dgs z), .str z]
def dputF (d : Dft) (nv xp tv : V) : Except String Dft :=
  match nv, nmV d.fls nv with
  | .str n, some fs => match xp, hpV paM xp with
    | .str p, true => match tv with
      | .str t => if prn t = true ∧ t.length ≤ 100000 then (if getA fs p = none ∧ 64 ≤ fs.length then .error "full" else .ok { d with fls := setA d.fls n (putA fs p (rowF t)) }) else .error "text"
      | _ => .error "text"
    | _, _ => .error "path"
  | _, _ => .error "list"
theorem FlA.gone {H : Hp} {n : Str} : ∀ {kvs : List (Key × V)} {as : List Addr} {l : List (Str × List (Str × PyData))}, FlA H kvs as l → getA l n = none → valV kvs (Sum.inr n) = none
  | _, _, _, .nil, _ => rfl
  | _, _, _, .cons (n := m) (r := r) (l := l) e k t, h => by
    by_cases c : m = n
    · subst c
      unfold getA at h
      simp at h
    · have h : getA l n = none := by
        unfold getA at h ⊢
        rw [List.find?_cons, decide_eq_false c] at h
        exact h
      have := t.gone h
      unfold valV at this ⊢
      rw [List.find?_cons, decide_eq_false (fun z => c (Sum.inr.inj z))]
      exact this
theorem FlA.get {H : Hp} {n : Str} {fs : List (Str × PyData)} : ∀ {kvs : List (Key × V)} {as : List Addr} {l : List (Str × List (Str × PyData))}, FlA H kvs as l → getA l n = some fs → ∃ a kv, valV kvs (Sum.inr n) = some (.ref a) ∧ a ∈ as ∧ H a = some (.dK kv) ∧ KvD H kv fs
  | _, _, _, .nil, h => by cases h
  | _, _, _, .cons (n := m) (a := a) (kvs := kv) (r := r) (l := l) e k t, h => by
    by_cases c : m = n
    · subst c
      unfold getA at h
      simp at h
      subst h
      exact ⟨a, kv, by simp [valV], List.mem_cons_self, e, k⟩
    · have h : getA l n = some fs := by
        unfold getA at h ⊢
        rw [List.find?_cons, decide_eq_false c] at h
        exact h
      obtain ⟨a, kv, h1, h2, h3, h4⟩ := t.get h
      refine ⟨a, kv, ?_, List.mem_cons_of_mem _ h2, h3, h4⟩
      unfold valV at h1 ⊢
      rw [List.find?_cons, decide_eq_false (fun z => c (Sum.inr.inj z))]
      exact h1
theorem FlA.at_mem {H : Hp} {n : Str} {a : Addr} : ∀ {kvs : List (Key × V)} {as : List Addr} {l : List (Str × List (Str × PyData))}, FlA H kvs as l → valV kvs (Sum.inr n) = some (.ref a) → a ∈ as
  | _, _, _, .nil, h => by cases h
  | _, _, _, .cons (n := m) (a := b) (r := r) (l := l) e kd t, h => by
    by_cases c : m = n
    · subst c
      have h : b = a := by simpa [valV] using h
      rw [← h]; exact List.mem_cons_self
    · have h : valV r (Sum.inr n) = some (.ref a) := by
        unfold valV at h ⊢
        rw [List.find?_cons, decide_eq_false (fun z => c (Sum.inr.inj z))] at h
        exact h
      exact List.mem_cons_of_mem _ (t.at_mem h)
theorem FlA.set {H H' : Hp} {n : Str} {a : Addr} {kv : List (Key × V)} {fs : List (Str × PyData)} (k : Kp [a] H H') (e' : H' a = some (.dK kv)) (k' : KvD H' kv fs) : ∀ {kvs : List (Key × V)} {as : List Addr} {l : List (Str × List (Str × PyData))}, FlA H kvs as l → as.Nodup → (∀ q ∈ l, ∀ g ∈ q.2, purD g.2 = true) → valV kvs (Sum.inr n) = some (.ref a) → FlA H' kvs as (setA l n fs)
  | _, _, _, .nil, _, _, h => by cases h
  | _, _, _, .cons (n := m) (a := b) (as := as) (r := r) (l := l) e kd t, nd, pu, h => by
    by_cases c : m = n
    · subst c
      have h : b = a := by simpa [valV] using h
      subst h
      unfold setA
      rw [if_pos rfl]
      exact .cons e' k' (t.kp k (fun x mx z => (List.nodup_cons.mp nd).1 (by rw [← List.mem_singleton.mp z]; exact mx)) fun q mq => pu q (List.mem_cons_of_mem _ mq))
    · have h : valV r (Sum.inr n) = some (.ref a) := by
        unfold valV at h ⊢
        rw [List.find?_cons, decide_eq_false (fun z => c (Sum.inr.inj z))] at h
        exact h
      have ih := t.set k e' k' (List.nodup_cons.mp nd).2 (fun q mq => pu q (List.mem_cons_of_mem _ mq)) h
      have ma : a ∈ as := t.at_mem h
      unfold setA
      rw [if_neg c]
      exact .cons (k.keep _ _ (fun z => (List.nodup_cons.mp nd).1 (by rw [List.mem_singleton.mp z]; exact ma)) e) (kd.kp k (pu _ List.mem_cons_self)) ih
theorem setA_mem {α : Type} {n : Str} {x : α} : ∀ {l : List (Str × α)} {q : Str × α}, q ∈ setA l n x → q ∈ l ∨ q = (n, x)
  | [], _, h => absurd h List.not_mem_nil
  | p :: r, q, h => by
    unfold setA at h
    split at h
    · rcases List.mem_cons.mp h with e | m
      · exact .inr e
      · exact .inl (List.mem_cons_of_mem _ m)
    · rcases List.mem_cons.mp h with e | m
      · exact .inl (by rw [e]; exact List.mem_cons_self)
      · rcases setA_mem m with m | e
        · exact .inl (List.mem_cons_of_mem _ m)
        · exact .inr e
/-- the files of one list are written -/
theorem Wsh.setFile {C CD CO o off dm a : Addr} {A : WA} {s : Wst} {H : Hp} (h : Wsh C CD CO o off dm A s H) {n : Str} {kvs kv kv' : List (Key × V)} {fs' : List (Str × PyData)} (ef : H A.fd = some (.dK kvs)) (v : valV kvs (Sum.inr n) = some (.ref a)) (ma : a ∈ A.fis) (ea : H a = some (.dK kv)) (k' : KvD H kv' fs') (pu : ∀ g ∈ fs', purD g.2 = true) :
    Kp [a] H (upd H a (.dK kv')) ∧ Wsh C CD CO o off dm A { s with drf := { s.drf with fls := setA s.drf.fls n fs' } } (upd H a (.dK kv')) := by
  have k : Kp [a] H (upd H a (.dK kv')) := kp_dk ea (List.mem_singleton.mpr rfl)
  refine ⟨k, ?_⟩
  obtain ⟨n1, n2, n3, n4, n5, n6, n7⟩ := h.byD ea
  obtain ⟨dx, ev, e1, r1⟩ := h.ob
  obtain ⟨dy, e2⟩ := h.dr
  obtain ⟨k3, e3, r3⟩ := h.fl
  obtain ⟨k4, e4, r4⟩ := h.gr
  obtain ⟨k5, e5, r5⟩ := h.ol
  obtain ⟨k6, e6, r6⟩ := h.ch
  obtain ⟨k7, e7, r7⟩ := h.sn
  obtain ⟨k8, e8, r8⟩ := h.la
  rw [ef] at e3
  cases e3
  have nD := h.nD
  unfold WA.wd at nD
  have wd : ∀ {b}, b ∈ [A.td, A.ld, A.fd, A.gd, A.od] → b ∉ [a] := fun {b} m z => by
    have z := List.mem_singleton.mp z
    have : (([A.td, A.ld, A.fd, A.gd, A.od] ++ A.fis)).Nodup := nD
    exact (List.nodup_append.mp this).2.2 b m a ma z
  have nf : A.fis.Nodup := by
    have : (([A.td, A.ld, A.fd, A.gd, A.od] ++ A.fis)).Nodup := nD
    exact (List.nodup_append.mp this).2.1
  have wl : ∀ {b}, b ∈ A.wl → b ∉ [a] := fun m => n5 _ m
  have sd : ∀ b ∈ A.sds, b ∉ [a] := fun b m z => h.xD b m (by rw [List.mem_singleton.mp z]; unfold WA.wd; simp [ma])
  unfold WA.wl at wl
  exact ⟨⟨dx, ev, k.keep _ _ n1 e1, r1.pure k h.pu.en⟩, h.of.kp k n2 n3, ⟨dy, k.keep _ _ n4 e2⟩, ⟨_, k.keep _ _ (wd (by simp)) ef, FlA.set k upd_same (k'.kp k pu) r3 nf h.pu.fl v⟩, ⟨k4, k.keep _ _ (wd (by simp)) e4, r4.kp k (fun a m => wl (by simp [m])) h.pu.gr⟩, ⟨k5, k.keep _ _ (wd (by simp)) e5, r5.kp k n6⟩,
    k.keep _ _ (wd (by simp)) h.tx, ⟨k6, k.keep _ _ (wl (by simp)) e6, r6.pure k h.pu.ch⟩, k.keep _ _ (wl (by simp)) h.st, ⟨k7, k.keep _ _ (wl (by simp)) e7, r7.kp k sd h.pu.sn⟩, ⟨k8, k.keep _ _ (wd (by simp)) e8, r8.kp k n7 h.pu.la⟩, h.nL, h.nD, h.xL, h.xD, h.no, ⟨fun q mq => by
      rcases setA_mem mq with m | e
      · exact h.pu.fl q m
      · rw [e]; exact pu, h.pu.gr, h.pu.ch, h.pu.sn, h.pu.la, h.pu.en⟩⟩
theorem put_bad {d : Dft} {n p : Str} {xp tv : V} {fs : List (Str × PyData)} (en : getA d.fls n = some fs) : (hpV paM xp = false → dputF d (.str n) xp tv = .error "path") ∧ (hpV paM (.str p) = true → (prV tv = false → dputF d (.str n) (.str p) tv = .error "text") ∧ ∀ t, dputF d (.str n) (.str p) (.str t) = if prn t = true ∧ t.length ≤ 100000 then (if getA fs p = none ∧ 64 ≤ fs.length then .error "full" else .ok { d with fls := setA d.fls n (putA fs p (rowF t)) }) else .error "text") := by
  have nm : nmV d.fls (.str n) = some fs := en
  refine ⟨fun h => ?_, fun h => ⟨fun g => ?_, fun t => ?_⟩⟩
  · unfold dputF
    rw [nm]
    simp only
    rw [h]
    cases xp <;> rfl
  · unfold dputF
    rw [nm]
    simp only
    rw [h]
    cases tv with
    | str t => exact if_neg fun z => by rw [show prn t = false from g] at z; cases z.1
    | _ => rfl
  · unfold dputF
    rw [nm]
    simp only
    rw [h]
structure DmC (mg : Str → Option Value) : Prop where
  c_MOST_GOODS : ∃ t, mg "MOST_GOODS" = some (.int 64 t)
  c_MOST_TEXT : ∃ t, mg "MOST_TEXT" = some (.int 100000 t)
def spReqPath (CA : Addr) (Ts : List Addr) : Sp := fun vs H Q E => ∃ v : V, vs = [v] ∧ Tabs Ts H ∧ (∃ t, tyN H v = some t) ∧ szV v ∧ (hpV paM v = true → ∀ H', Kp Ts H H' → Tabs Ts H' → Q .non H') ∧
  (hpV paM v = false → ∀ (x : Addr) (H' : Hp), Kp Ts H H' → Tabs Ts H' → H x = none → H' x = some (xR "path") → E (.ref CA) (some x) H')
def spReqList (C CD CO CA : Addr) : Sp := fun vs H Q E => ∃ (o off dm : Addr) (A : WA) (s : Wst) (v : V), vs = [.ref A.dr, v] ∧ Wsh C CD CO o off dm A s H ∧ (∃ t, tyN H v = some t) ∧ (nmV s.drf.fls v ≠ none → Q .non H) ∧
  (nmV s.drf.fls v = none → ∀ (x : Addr) (H' : Hp), Kp [] H H' → H x = none → H' x = some (xR "list") → E (.ref CA) (some x) H')
def spDPut (C CD CO CA : Addr) (Ts : List Addr) (who : Addr → WA → Addr) : Sp := fun vs H Q E => ∃ (o off dm : Addr) (A : WA) (s : Wst) (nv xp tv : V), vs = [.ref (who o A), nv, xp, tv] ∧ Wsh C CD CO o off dm A s H ∧ Tabs Ts H ∧ (∃ t, tyN H nv = some t) ∧ (∃ t, tyN H xp = some t) ∧ szV xp ∧ (∃ t, tyN H tv = some t) ∧
  (∀ z, tv = .str z → z.length ≤ 10000000) ∧ (∀ q ∈ s.drf.fls, q.2.length ≤ 100000) ∧
  (∀ r, dputF s.drf nv xp tv = .error r → ∀ (x : Addr) (H' : Hp), Kp Ts H H' → Tabs Ts H' → H x = none → H' x = some (xR r) → E (.ref CA) (some x) H') ∧
  ∀ d', dputF s.drf nv xp tv = .ok d' → ∀ H', Kp (A.fis ++ Ts) H H' → Tabs Ts H' → Wsh C CD CO o off dm A { s with drf := d' } H' → Q .non H'
section
variable {P : Program} {w : World} {K : PySem.W.Frag} {mg : Str → Option Value} {base : Heap} {f : Addr} {fd : FuncData} {C CD CO CA Pp Pt : Addr} {Ts : List Addr}
theorem ok_reqpath (F : Fun K "_require_path" "_require_path" s_require_path f fd) (T : WaC P w K mg base CA) (c_is_path : Cal P w K mg base CX0 7 "is_path" (spPa paM Ts)) : FnOk P w K mg base (CXG P w) 8 f fd ["path"] (spReqPath CA Ts) := by
  refine F.okG sc_require_path (fun vs H Q E h => ?_) (fun cdv A outer s H vs Q E hr h => ?_)
  · obtain ⟨_, rfl, _⟩ := h; rfl
  obtain ⟨v, rfl, hG, ht, hz, q, qe⟩ := h
  refine ⟨_, (pss_one (ps_if (pt_not (pt_val (c_is_path.pe hr (pa_cons (pv 0) pa_nil)))) (pss_one (T.BadAct.raiseG hr (takesG_of rfl rfl rfl rfl))) pss_nil)), ?_⟩
  walk_at "wq"
  refine ⟨v, rfl, hG, ht, hz, fun H1 k g => ?_⟩
  cases c : hpV paM v with
  | true => exact ⟨true, rfl, if_no (by simp) (q c H1 k g)⟩
  | false => exact ⟨false, rfl, if_yes rfl fun e G he hx k2 => qe c e G (k.trans k2.in0) (g.kp0 k2) (k.gone g he) hx⟩
theorem ok_reqlist (F : Fun K "_require_list" "Draft._require_list" s_Draft__require_list f fd) (B : Blt mg) (TD : DrC K CD) (T : WaC P w K mg base CA) : FnOk P w K mg base (CXG P w) 3 f fd ["self", "name"] (spReqList C CD CO CA) := by
  refine F.okG sc_Draft__require_list (fun vs H Q E h => ?_) (fun cdv A outer s H vs Q E hr h => ?_)
  · obtain ⟨_, _, _, _, _, _, rfl, _⟩ := h; rfl
  obtain ⟨o, off, dm, A, s, v, rfl, hW, ⟨t, ht⟩, q, qe⟩ := h
  refine ⟨_, (pss_one (ps_if (PW.pt (pw_or (pt_not (pt_val (B.isT (pv 1) B.v_str))) (pw_or1 (pt_cmp (pc_dnotin (hu_of hr) (pv 1) (pe_fld (pv 0) rfl)))))) (pss_one (T.BadAct.raiseG hr (takesG_of rfl rfl rfl rfl))) pss_nil)), ?_⟩
  obtain ⟨dy, hd⟩ := hW.dr
  obtain ⟨kvs, efd, rfl'⟩ := hW.fl
  walk_at "wq"
  refine ⟨t, ht, ?_⟩
  cases c : isaB t "str" with
  | false =>
    refine if_yes rfl fun e G he hx k => qe ?_ e G k he hx
    cases v with
    | str z => cases ht; exact absurd c (by decide)
    | _ => rfl
  | true =>
    obtain ⟨n, rfl⟩ := isa_str ht c
    refine if_no (by decide) ⟨CD, dy, _, hd, TD.cl, TD.n1, _, rfl, A.fd, rfl, _, DGet.k (k := Sum.inr n) efd, ?_⟩
    cases en : getA s.drf.fls n with
    | none =>
      rw [rfl'.gone en]
      exact if_yes rfl fun e G he hx k => qe en e G k he hx
    | some fs =>
      obtain ⟨a, kv, h1, _⟩ := rfl'.get en
      rw [h1]
      exact if_no (fun z => by cases z) (q (by show getA s.drf.fls n ≠ none; rw [en]; exact fun z => by cases z))
theorem ok_dput (F : Fun K "put" "Draft.put" s_Draft_put f fd) (B : Blt mg) (D : DmC mg) (TD : DrC K CD) (T : WaC P w K mg base CA) (mp : Pp ∈ Ts) (m_Draft_require_list : CalM P w K mg base (CXG P w) 3 CD "_require_list" (spReqList C CD CO CA)) (c_require_path : Cal P w K mg base (CXG P w) 8 "_require_path" (spReqPath CA Ts)) (c_is_printable : Cal P w K mg base CX0 3 "is_printable" (spPrn Pp)) (c_digest : Cal P w K mg base CX0 1 "digest" spDigest) : FnOk P w K mg base (CXG P w) 9 f fd ["self", "name", "path", "text"] (spDPut C CD CO CA Ts fun _ A => A.dr) := by
  refine F.okG sc_Draft_put (fun vs H Q E h => ?_) (fun cdv A outer s H vs Q E hr h => ?_)
  · obtain ⟨_, _, _, _, _, _, _, _, rfl, _⟩ := h; rfl
  obtain ⟨o, off, dm, A, s, nv, xp, tv, rfl, hW, hG, hn, hp, hpz, ht, htz, hfl, qe, q⟩ := h
  refine ⟨_, (pss_cons (ps_expr (m_Draft_require_list.pex hr (passG (takesG_of rfl rfl rfl rfl) fun _ _ _ _ h => h) (pv 0) (pa_cons (pv 1) pa_nil)))
    (pss_cons (ps_expr (c_require_path.pex hr (passG (takesG_of rfl rfl rfl rfl) fun _ _ _ _ h => h) (pa_cons (pv 2) pa_nil)))
    (pss_cons (ps_if (PW.pt (pw_or (pt_not (pt_val (c_is_printable.pe hr (pa_cons (pv 3) pa_nil)))) (pw_or1 (pt_cmpR op_gt (B.len_s (pa_cons (pv 3) pa_nil)) (pe_cE D.c_MOST_TEXT) (nomark _))))) (pss_one (T.BadAct.raiseG hr (takesG_of rfl rfl rfl rfl))) pss_nil)
    (C8.pss_cut (ps_set (i := 4) sc_Draft_put.nd rfl (Or.inl rfl) (pe_dget (hu_of hr) (pe_fld (pv 0) rfl) (pv 1) (fun _ _ => rfl)))
    (C8.pss_cut (ps_if (PW.pt (pw_and (pt_cmp (pc_dnotin (hu_of hr) (pv 2) (pv 4))) (pw_and1 (pt_cmpR op_ge (len_dK B (pa_cons (pv 4) pa_nil)) (pe_cE D.c_MOST_GOODS) (nomark _))))) (pss_one (T.BadAct.raiseG hr (takesG_of rfl rfl rfl rfl))) pss_nil)
    (pss_one (ps_dput (hu_of hr) (pv 4) (pv 2) (pe_tup (pa_cons (B.len_s (pa_cons (pv 3) pa_nil)) (pa_cons (c_digest.pe hr (pa_cons (pv 3) pa_nil)) (pa_cons (pv 3) pa_nil)))) rfl))))))), ?_⟩
  obtain ⟨dy, hd⟩ := hW.dr
  have lim : sizeLine = 16777216 := sizeLine_eq
  walk_at "wq"
  refine ⟨dy, _, hd, rfl, o, off, dm, A, s, nv, rfl, hW, hn, fun e1 => ?_, fun e1 x H' k hx ex => qe "list" (by unfold dputF; rw [e1]; cases nv <;> rfl) x H' k.in0 (hG.kp0 k) hx ex⟩
  obtain ⟨n, fs, rfl, en⟩ : ∃ n fs, nv = .str n ∧ getA s.drf.fls n = some fs := by
    cases nv with
    | str n =>
      have e1 : getA s.drf.fls n ≠ none := e1
      cases e : getA s.drf.fls n with
      | none => exact absurd e e1
      | some fs => exact ⟨n, fs, rfl, e⟩
    | _ => exact absurd rfl e1
  refine ⟨xp, rfl, hG, hp, hpz, fun e2 H1 k1 g1 => ?_, fun e2 x H' k g hx ex => qe "path" ((put_bad (p := n) en).1 e2) x H' k g hx ex⟩
  obtain ⟨p, rfl⟩ : ∃ p, xp = .str p := by
    cases xp with
    | str p => exact ⟨p, rfl⟩
    | _ => cases e2
  obtain ⟨b1, b2⟩ := (put_bad (xp := .str p) (tv := tv) en).2 e2
  obtain ⟨tt, htt⟩ := ht
  refine ⟨tv, rfl, g1 _ mp, ⟨tt, k1.tys hG htt⟩, fun H2 k2 g2 => ⟨_, rfl, ?_⟩⟩
  have K2 : Kp Ts H H2 := k1.trans (k2.in1 mp)
  have G2 := g1.kp1 k2 g2
  have W2 := hW.tabs K2 hG
  cases c : prV tv with
  | false => exact if_yes rfl fun x G hx ex k => qe "text" (b1 c) x G (K2.trans k.in0) (G2.kp0 k) (K2.gone G2 hx) ex
  | true =>
  obtain ⟨t, rfl⟩ : ∃ t, tv = .str t := by
    cases tv with
    | str t => exact ⟨t, rfl⟩
    | _ => cases c
  have pt' : prn t = true := c
  have lt := htz t rfl
  refine if_no (by decide) ⟨t, rfl, by omega, ite_dec (fun c2 => ?_) (fun c2 => ?_)⟩
  · exact fun x G hx ex k => qe "text" (by rw [b2 t, if_neg (fun z => by omega)]) x G (K2.trans k.in0) (G2.kp0 k) (K2.gone G2 hx) ex
  obtain ⟨kvs, ef, rf⟩ := W2.fl
  obtain ⟨a, kv, hv, ma, ea, ka⟩ := rf.get en
  refine ⟨fun σ H' => σ = [some (.ref A.dr), some (.str n), some (.str p), some (.str t), some (.ref a)] ∧ H' = H2, ?_, fun σ H3 ⟨hσ, hH⟩ => ?_⟩
  · walk_at "wq"
    obtain ⟨dy2, hd2⟩ := W2.dr
    refine ⟨CD, dy2, _, hd2, TD.cl, TD.n1, _, rfl, A.fd, rfl, ?_⟩
    have := DGet.k (k := Sum.inr n) ef
    rw [hv] at this
    exact this
  subst hσ
  subst hH
  refine ⟨fun σ H' => σ = [some (.ref A.dr), some (.str n), some (.str p), some (.str t), some (.ref a)] ∧ H' = H3 ∧ ¬ (getA fs p = none ∧ 64 ≤ fs.length), ?_, fun σ H4 ⟨hσ, hH, nf⟩ => ?_⟩
  · walk_at "wq"
    refine ⟨_, DGet.k (k := Sum.inr p) ea, ?_⟩
    rcases ka.val (n := p) with ⟨v, d, x1, x2, x3⟩ | ⟨x1, x2⟩
    · rw [x1]
      exact if_no (fun z => by cases z) (fun z => by rw [x2] at z; cases z.1)
    · rw [x1]
      refine if_yes rfl ⟨_, ea, ite_dec (fun z => ?_) (fun z => fun y => z (by rw [ka.len]; omega))⟩
      exact fun x G hx ex k => qe "full" (by rw [b2 t, if_pos ⟨pt', by omega⟩, if_pos ⟨x2, by rw [ka.len] at z; omega⟩]) x G (K2.trans k.in0) (G2.kp0 k) (K2.gone G2 hx) ex
  subst hσ
  subst hH
  walk_at "wq"
  refine ⟨by omega, t, rfl, by omega, by omega, fun p1 hp1 => ?_⟩
  have k1' := Kp.new (S := []) hp1 (.tup [V.int (t.length : Nat), V.str (dgs t), V.str t])
  have W5 := W2.kp0 k1'
  have pfs : ∀ g ∈ fs, purD g.2 = true := W2.pu.fl _ (getA_mem en)
  have ka5 := ka.kp k1' pfs
  have ea5 := k1'.keep _ _ List.not_mem_nil ea
  have ef5 := k1'.keep _ _ List.not_mem_nil ef
  have rr : Rq (upd H4 p1 (.tup [V.int (t.length : Nat), V.str (dgs t), V.str t])) (.ref p1) (rowF t) := .tup upd_same (.cons (.int _) (.cons (.str _) (.cons (.str _) .nil)))
  obtain ⟨k6, W6⟩ := W5.setFile (n := n) (fs' := putA fs p (rowF t)) ef5 hv ma ea5 (ka5.put rr) (fun g mg' => by
    rcases putA_mem mg' with m | e
    · exact pfs g m
    · rw [e]; rfl)
  refine ⟨_, DPut.k (k := Sum.inr p) ea5 (by rw [ka5.len]; have : fs.length ≤ 100000 := hfl _ (getA_mem en); omega), q _ (by rw [b2 t, if_pos ⟨pt', by omega⟩, if_neg nf]) _ ?_ ?_ W6⟩
  · exact ((K2.trans k1'.in0).mono fun b mb => List.mem_append_right _ mb).trans (k6.mono fun b mb => List.mem_append_left _ (by rw [List.mem_singleton.mp mb]; exact ma))
  · exact (G2.kp0 k1').kp k6 fun P mP mo => absurd mP (by rw [List.mem_singleton.mp mo]; exact (G2.kp0 k1').ne ea5 fun ps z => by cases z)
theorem ok_wput (F : Fun K "put" "Workshop.put" s_Workshop_put f fd) (TW : WsC K C) (m_Draft_put : CalM P w K mg base (CXG P w) 9 CD "put" (spDPut C CD CO CA Ts fun _ A => A.dr)) : FnOk P w K mg base (CXG P w) 10 f fd ["self", "name", "path", "text"] (spDPut C CD CO CA Ts fun o _ => o) := by
  refine F.okG sc_Workshop_put (fun vs H Q E h => ?_) (fun cdv A outer s H vs Q E hr h => ?_)
  · obtain ⟨_, _, _, _, _, _, _, _, rfl, _⟩ := h; rfl
  obtain ⟨o, off, dm, A, s, nv, xp, tv, rfl, hW, hG, hn, hp, hpz, ht, htz, hfl, qe, q⟩ := h
  refine ⟨_, (pss_one (ps_expr (m_Draft_put.pex hr (passG (takesG_of rfl rfl rfl rfl) fun _ _ _ _ h => h) (pe_fld (pv 0) rfl) (pa_cons (pv 1) (pa_cons (pv 2) (pa_cons (pv 3) pa_nil)))))), ?_⟩
  walk_at "wq"
  obtain ⟨dx, ev, ho, re⟩ := hW.ob
  obtain ⟨dy, hd⟩ := hW.dr
  exact ⟨C, dx, _, ho, TW.cl, TW.n2, _, rfl, A.dr, rfl, dy, _, hd, rfl, o, off, dm, A, s, nv, xp, tv, rfl, hW, hG, hn, hp, hpz, ht, htz, hfl, qe, q⟩
end
/-! the workshop's laws: seals, roles that are asked of -/
abbrev s_law_are_roles : Stmt := top 105
abbrev N_law_are_roles : List Str := ["value", "role"]
theorem sc_law_are_roles : FnScope N_law_are_roles ["value"] (defScope s_law_are_roles) := ⟨rfl, rfl, rfl, by decide +kernel, rfl, by decide +kernel, by decide +kernel⟩
abbrev s_law_seal : Stmt := top 104
abbrev N_law_seal : List Str := ["text", "keys", "key"]
theorem sc_law_seal : FnScope N_law_seal ["text", "keys"] (defScope s_law_seal) := ⟨rfl, rfl, rfl, by decide +kernel, rfl, by decide +kernel, by decide +kernel⟩
theorem exm1 {K : PySem.W.Frag} {c v : Value} {b : Bool} (h : PySem.W.exmOne K c v = some b) : PySem.W.exmAny K c [v] = some b := by
  unfold PySem.W.exmAny
  rw [h]
  show some (b || false) = some b
  rw [Bool.or_false]
def spLSeal (K : PySem.W.Frag) : Sp := fun vs H Q _ => ∃ (z : Str) (a : Addr) (ks : List Str), vs = [.str z, .ref a] ∧ SqL K H a (ks.map V.str) ∧ ks.length ≤ 1000 ∧ (∀ k ∈ ks, kyS k = true) ∧ (uq ks).length ≤ 32 ∧ prn z = true ∧ z.length ≤ 32000 ∧ ∀ H', Kp [] H H' → Q (.str ⟨(txt (sealT z (uq ks))).toArray⟩) H'
section
variable {P : Program} {w : World} {K : PySem.W.Frag} {mg : Str → Option Value} {base : Heap} {f : Addr} {fd : FuncData} {C C2 CD CO CA CB CK CT : Addr} {Ts : List Addr}
theorem ok_lareroles (F : Fun K "_law_are_roles" "_law_are_roles" s_law_are_roles f fd) (B : Blt mg) (c_law_tuple : Cal P w K mg base CX0 1 "_law_tuple" spTIn) (c_law_is_role : Cal P w K mg base CX0 3 "_law_is_role" (spAsk isRole)) : FnOk P w K mg base CX0 4 f fd ["value"] (spAsk isRoles) := by
  refine F.ok sc_law_are_roles (fun vs H Q E h => ?_) (fun cdv A outer s H vs Q E hr h => ?_)
  · obtain ⟨v, d, rfl, _⟩ := h; rfl
  obtain ⟨v, d, rfl, hR, ho, q⟩ := h
  refine ⟨_, (pss_cons (ps_if (pt_not (pt_val (c_law_tuple.pe hr (pa_cons (pv 0) (pa_cons pe_int (pa_cons pe_int pa_nil)))))) (pss_one (ps_ret pe_bl)) pss_nil)
    (pss_cons (ps_for PassesOwn.never rfl (pi_tup (pv 0)) (pg_name (i := 1) sc_law_are_roles.nd rfl (Or.inl rfl)) (pss_one (ps_if (pt_not (pt_val (c_law_is_role.pe hr (pa_cons (pv 1) pa_nil)))) (pss_one (ps_ret pe_bl)) pss_nil)))
    (pss_one (ps_ret pe_bl)))), ?_⟩
  walk_at "wp"
  have off : isRoles d = false → Q (.bl false) H := fun h => by rw [h] at q; exact q
  refine ⟨v, d, 4, 4, rfl, hR, _, rfl, ?_⟩
  cases h1 : tupB 4 4 d with
  | false =>
    rw [if_pos rfl]
    exact off (by unfold isRoles; rw [h1]; rfl)
  | true =>
  rw [if_neg (by decide)]
  obtain ⟨b, ys, es, rfl, eb, rfl, rr, l3, l4⟩ := tupB_of hR h1
  have e1 : isRoles (.tuple es) = es.all isRole := by unfold isRoles; rw [h1]; rfl
  rw [e1] at off q
  obtain ⟨o3, o4⟩ := okD_tup.mp ho
  refine ⟨_, rfl, b, rfl, ⟨ys, SqT.of eb⟩, ?_⟩
  refine for_tup (K := K) (a := b) (xs := ys) (fun i σ H' => H' = H ∧ (es.take i).all isRole = true ∧ ∃ o : Option V, σ = [some (.ref b), o]) ⟨rfl, rfl, _, rfl⟩ (fun i σ H' _ ⟨e, _⟩ => by rw [e]; exact SqT.of eb) (fun i x σ H' hx ⟨hH, ha, o, hσ⟩ => ?_) (fun σ H' ⟨hH, ha, o, hσ⟩ => ?_)
  · subst hσ
    subst hH
    obtain ⟨e, he, Re⟩ := rr.get hx
    have me := List.mem_of_getElem? he
    walk_at "wp"
    refine ⟨x, e, rfl, Re, ok_mono _ 12 e (by decide) (o4 e me), _, rfl, ?_⟩
    cases hk : isRole e with
    | false =>
      rw [if_pos rfl]
      exact off (List.all_eq_false.mpr ⟨e, me, by rw [hk]; decide⟩)
    | true =>
      rw [if_neg (by decide)]
      exact ⟨rfl, by rw [List.take_add_one, he, List.all_append, ha]; simp [hk], _, rfl⟩
  · subst hσ
    subst hH
    walk_at "wp"
    rw [rr.len, List.take_length] at ha
    rw [ha] at q
    exact q
theorem ok_lseal60 (F : Fun K "_law_seal" "_law_seal" s_law_seal f fd) (B : Blt mg) (c_law_once : Cal P w K mg base CX0 1 "_law_once" (spOnce K)) (c_law_digest : Cal P w K mg base CX0 1 "_law_digest" spLDig) (c_law_text : Cal P w K mg base CX0 9 "_law_text" (spLText 8)) : FnOk P w K mg base CX0 10 f fd ["text", "keys"] (spLSeal K) := by
  refine F.ok sc_law_seal (fun vs H Q E h => ?_) (fun cdv A outer s H vs Q E hr h => ?_)
  · obtain ⟨_, _, _, rfl, _⟩ := h; rfl
  obtain ⟨z, a, ks, rfl, hS, l1, ky, l32, pz, lz, q⟩ := h
  refine ⟨_, (pss_one (ps_ret (c_law_text.pe hr (pa_cons (pe_tup (pa_cons (pv 0) (pa_cons (B.tuple_l (pa_cons (pe_lc (own := [("key", 2)]) (g := gName 2) (tt := tYes) rfl sc_law_seal.nd (pi_list (c_law_once.pe hr (pa_cons (pv 1) pa_nil))) (blkOk_by (own := [("key", 2)]) (N := N_law_seal) (sc := defScope s_law_seal) (by decide +kernel)) (fun _ _ _ _ _ => pg_name (i := 2) sc_law_seal.nd rfl (Or.inl rfl)) (fun _ _ _ _ _ => pts_nil) (fun _ _ _ _ _ => (pe_tup (pa_cons (pv 2) (pa_cons (c_law_digest.pe hr (pa_cons (pe_op op_add_str (pe_op op_add_str (pv 2) pe_str) (pv 0)) pa_nil)) pa_nil))))) pa_nil)) pa_nil))) pa_nil)))), ?_⟩
  walk_at "wp"
  have lim : sizeLine = 16777216 := sizeLine_eq
  refine ⟨_, rfl, a, ks, rfl, hS, l1, fun k m => strOk_ky (ky k m), fun ys p H2 ha mem ly hp e2 k2 => ⟨p, rfl, ⟨_, SqL.of e2⟩, fun D hD => ?_⟩⟩
  obtain rfl := uq_eq ha mem
  generalize uq ks = ys at *
  have kky : ∀ k ∈ ys, kyS k = true := fun k m => ky k ((mem k).mp m)
  have nDp : p ≠ D := ne_of_none e2 hD
  refine lc_list (K := K) (a := p) (xs := ys.map V.str) (fun i H' => Kp [] H2 H' ∧ ∃ vs, H' D = some (.lst vs) ∧ RepAll H' vs ((ys.take i).map (rowT z))) ⟨Kp.new hD _, [], upd_same, .nil⟩ (fun i H' _ ⟨k, _⟩ => SqL.of (k.keep _ _ List.not_mem_nil e2)) (fun i x H' hi ⟨k3, vs, eD, rD⟩ => ?_) (fun H' ⟨k3, vs, eD, rD⟩ => ?_)
  · rw [List.getElem?_map] at hi
    obtain ⟨k, hi2, rfl⟩ := Option.map_eq_some_iff.mp hi
    have tk : ys.take (i + 1) = ys.take i ++ [k] := by rw [List.take_add_one, hi2]; rfl
    have li := (List.getElem?_eq_some_iff.mp hi2).1
    have lv := rD.len
    rw [List.length_map, List.length_take] at lv
    have lk := kyl12 (kky k (List.mem_of_getElem? hi2))
    have la : ∀ x y : Str, (x ++ y).length = x.length + y.length := fun x y => by rw [TL.len_tl, TL.tl_append, List.length_append, ← TL.len_tl, ← TL.len_tl]
    have l1' : (Str.ofString " ").length = 1 := rfl
    refine ⟨rfl, ?_⟩
    simp only [tYes, if_true]
    walk_at "wp"
    refine ⟨_, rfl, _, rfl, k, rfl, by rw [l1']; omega, _, rfl, z, rfl, by rw [la, l1']; omega, _, rfl, by rw [la, la, l1']; omega, by omega, fun r hr2 => ?_⟩
    have kr := Kp.new (S := []) hr2 (.tup [V.str k, V.str (mkS k z)])
    have nrD : D ≠ r := ne_of_none eD hr2
    refine ⟨vs, by rw [upd_ne nrD]; exact eD, by omega, ?_, ?_⟩
    · exact (k3.trans kr).upd hD (by rw [upd_ne nrD]; exact eD)
    · have kl : Kp [D] (upd H' r (.tup [V.str k, V.str (mkS k z)])) (upd (upd H' r (.tup [V.str k, V.str (mkS k z)])) D (.lst (vs ++ [V.ref r]))) := Kp.lst (by rw [upd_ne nrD]; exact eD) (List.mem_singleton.mpr rfl)
      rw [tk, List.map_append]
      exact ((rD.kp0 kr).any kl (rowsT_pure _ _)).app (.cons (.tup (kl.tup _ _ upd_same) (.cons (.str _) (.cons (.str _) .nil))) .nil)
  rw [List.length_map, List.take_length] at rD
  refine ⟨D, rfl, vs, .inl ⟨SqL.of eD, fun l hl2 => ⟨by omega, fun p2 h2 => ?_⟩⟩⟩
  have kl := Kp.new (S := []) hl2 (.tup vs)
  have kp2 := Kp.new (S := []) h2 (.tup [V.str z, V.ref l])
  have K4 : Kp [] H2 (upd (upd H' l (.tup vs)) p2 (.tup [V.str z, V.ref l])) := (k3.trans kl).trans kp2
  have R4 : Rep (upd (upd H' l (.tup vs)) p2 (.tup [V.str z, V.ref l])) (.ref p2) (sealT z ys) := .tup upd_same (.cons (.str _) (.cons (.tup (kp2.tup _ _ upd_same) ((rD.kp0 kl).kp0 kp2)) .nil))
  have hpl : pl 8 (sealT z ys) = true := pl_sealT pz fun k m => kyPrn (kky k m)
  have hln := seal_le lz l32 kky
  exact ⟨.ref p2, _, rfl, R4, hpl, sml_of 8 _ hpl (by omega), by omega, fun H5 k5 => q H5 ((k2.trans K4).trans k5)⟩
end
/-! law k61: its small defs -/
abbrev s_law_role : Stmt := top 101
abbrev N_law_role : List Str := ["stream", "base", "keys", "k"]
theorem sc_law_role : FnScope N_law_role ["stream"] (defScope s_law_role) := ⟨rfl, rfl, rfl, by decide +kernel, rfl, by decide +kernel, by decide +kernel⟩
abbrev s_law_roles : Stmt := top 102
abbrev N_law_roles : List Str := ["stream", "k"]
theorem sc_law_roles : FnScope N_law_roles ["stream"] (defScope s_law_roles) := ⟨rfl, rfl, rfl, by decide +kernel, rfl, by decide +kernel, by decide +kernel⟩
abbrev s_law_time : Stmt := top 103
abbrev N_law_time : List Str := ["stream"]
theorem sc_law_time : FnScope N_law_time ["stream"] (defScope s_law_time) := ⟨rfl, rfl, rfl, by decide +kernel, rfl, by decide +kernel, by decide +kernel⟩
abbrev s_law_turned : Stmt := top 106
abbrev N_law_turned : List Str := ["shop", "roles", "expires", "e"]
theorem sc_law_turned : FnScope N_law_turned ["shop", "roles", "expires"] (defScope s_law_turned) := ⟨rfl, rfl, rfl, by decide +kernel, rfl, by decide +kernel, by decide +kernel⟩
abbrev s_law_holds : Stmt := top 107
abbrev N_law_holds : List Str := ["shop", "charters", "texts", "known", "k"]
theorem sc_law_holds : FnScope N_law_holds ["shop", "charters", "texts"] (defScope s_law_holds) := ⟨rfl, rfl, rfl, by decide +kernel, rfl, by decide +kernel, by decide +kernel⟩
def nmC (k : Nat) : Str := vS (k : Nat) ++ Str.ofString ".charter"
/-- names and texts of the charters from the number k on -/
def nt : Nat → List Str → List (Str × Str)
  | _, [] => []
  | k, t :: r => (nmC k, t) :: nt (k + 1) r
structure HasC (C CD CO : Addr) (H : Hp) (o off dm : Addr) (A : WA) (s : Wst) (la lt : Addr) (ds : List PyData) (ts : List Str) : Prop where
  W : Wsh C CD CO o off dm A s H
  ec : ∃ us, H la = some (.lst us) ∧ RqA H us ds
  et : H lt = some (.lst (ts.map V.str))
  chs : s.chs = ds
  txs : s.txs = nt 1 ts
  l : ts.length = ds.length
  n1 : 1 ≤ ds.length
  n2 : ds.length ≤ 13
  dk : ∀ i d, ds[i]? = some d → isCharter d = true ∧ okD 12 d = true ∧ purD d = true ∧ pubN d = nmC (i + 1)
  tk : ∀ t ∈ ts, prn t = true ∧ t.length ≤ 100000
  vk : ∀ i d, ds[i]? = some d → ∃ e r, d = chN (i + 1) e r ∧ isRoles r = true
theorem HasC.kp0 {C CD CO : Addr} {H H' : Hp} {o off dm : Addr} {A : WA} {s : Wst} {la lt : Addr} {ds : List PyData} {ts : List Str} (h : HasC C CD CO H o off dm A s la lt ds ts) (k : Kp [] H H') : HasC C CD CO H' o off dm A s la lt ds ts := by
  obtain ⟨us, e, r⟩ := h.ec
  exact ⟨h.W.kp0 k, ⟨us, k.keep _ _ List.not_mem_nil e, r.kp0 k⟩, k.keep _ _ List.not_mem_nil h.et, h.chs, h.txs, h.l, h.n1, h.n2, h.dk, h.tk, h.vk⟩
theorem HasC.tabs {C CD CO : Addr} {Ts : List Addr} {H H' : Hp} {o off dm : Addr} {A : WA} {s : Wst} {la lt : Addr} {ds : List PyData} {ts : List Str} (h : HasC C CD CO H o off dm A s la lt ds ts) (k : Kp Ts H H') (g : Tabs Ts H) : HasC C CD CO H' o off dm A s la lt ds ts := by
  obtain ⟨us, e, r⟩ := h.ec
  exact ⟨h.W.tabs k g, ⟨us, k.keep _ _ (g.ne e fun ps z => by cases z) e, r.tabs k g⟩, k.keep _ _ (g.ne h.et fun ps z => by cases z) h.et, h.chs, h.txs, h.l, h.n1, h.n2, h.dk, h.tk, h.vk⟩
theorem nm_inj : ∀ i < 16, ∀ j < 16, nmC i = nmC j → i = j := by decide +kernel
theorem nt_len : ∀ (ts : List Str) (k : Nat), (nt k ts).length = ts.length
  | [], _ => rfl
  | t :: r, k => by unfold nt; rw [List.length_cons, List.length_cons, nt_len r]
theorem nt_at : ∀ (ts : List Str) (k i : Nat), k + ts.length ≤ 15 → i ≤ ts.length → getT (nt k ts) (nmC (k + i)) = ts[i]?
  | [], _, _, _, _ => by simp [nt, getT]
  | t :: r, k, 0, _, _ => by
    show ((nt k (t :: r)).find? fun p => decide (p.1 = nmC (k + 0))).map (·.2) = _
    unfold nt
    rw [List.find?_cons, decide_eq_true (show (nmC k, t).1 = nmC (k + 0) from rfl)]; rfl
  | t :: r, k, i + 1, h, g => by
    rw [List.length_cons] at h g
    have n : nmC k ≠ nmC (k + (i + 1)) := fun z => by
      have := nm_inj k (by omega) (k + (i + 1)) (by omega) z
      omega
    have ih := nt_at r (k + 1) i (by omega) (by omega)
    rw [show k + 1 + i = k + (i + 1) by omega] at ih
    show ((nt k (t :: r)).find? fun p => decide (p.1 = nmC (k + (i + 1)))).map (·.2) = _
    unfold nt
    rw [List.find?_cons, decide_eq_false (show ¬ (nmC k, t).1 = nmC (k + (i + 1)) from n)]
    exact ih
theorem nt_any : ∀ (ts : List Str) (k j : Nat), k + ts.length ≤ j → j ≤ 15 → ((nt k ts).any fun p => decide (p.1 = nmC j)) = false
  | [], _, _, _, _ => rfl
  | t :: r, k, j, h, g => by
    rw [List.length_cons] at h
    have n : nmC k ≠ nmC j := fun z => by
      have := nm_inj k (by omega) j (by omega) z
      omega
    unfold nt
    rw [List.any_cons, decide_eq_false (show ¬ (nmC k, t).1 = nmC j from n), Bool.false_or]
    exact nt_any r (k + 1) j (by omega) g
theorem nt_snoc (t : Str) : ∀ (ts : List Str) (k : Nat), nt k ts ++ [(nmC (k + ts.length), t)] = nt k (ts ++ [t])
  | [], k => rfl
  | u :: r, k => by
    show (nmC k, u) :: (nt (k + 1) r ++ [(nmC (k + (u :: r).length), t)]) = (nmC k, u) :: nt (k + 1) (r ++ [t])
    rw [← nt_snoc t r (k + 1), List.length_cons, show k + (r.length + 1) = k + 1 + r.length by omega]
theorem nt_put {ts : List Str} {t : Str} (h : ts.length ≤ 14) : putT (nt 1 ts) (nmC (1 + ts.length)) t = nt 1 (ts ++ [t]) := by
  unfold putT
  rw [nt_any ts 1 _ (Nat.le_refl _) (by omega), if_neg (by decide)]
  exact nt_snoc t ts 1
def spTurned61 (C CD CO : Addr) (Ts : List Addr) : Sp := fun vs H Q _ => ∃ (o off dm : Addr) (A : WA) (s : Wst) (v u : V) (r e d : PyData), vs = [.ref o, v, u] ∧ Wsh C CD CO o off dm A s H ∧ Rq H v r ∧ Rq H u e ∧ okD 10 r = true ∧ s.chs.getLast? = some d ∧ isCharter d = true ∧ s.mde.length ≤ 900 ∧ s.txs.length ≤ 100000 ∧ s.chs.length ≤ 100000 ∧ Tabs Ts H ∧
  (isRoles r = false → ∀ H', Kp Ts H H' → Tabs Ts H' → Q (.str (Str.ofString "roles")) H') ∧
  (isRoles r = true → numB 0 1000000000000 e = false → ∀ H', Kp Ts H H' → Tabs Ts H' → Q (.str (Str.ofString "expires")) H') ∧
  (isRoles r = true → numB 0 1000000000000 e = true → purD r = true ∧ ∀ H', Kp (A.cl :: A.td :: dm :: Ts) H H' → Tabs Ts H' → Wsh C CD CO o off dm A (s.charter (chN (s.chs.length + 1) e r) (s.keys 0)) H' → Q (.str (Str.ofString "")) H')
def spHolds61 (C CD CO : Addr) (Ts : List Addr) : Sp := fun vs H Q _ => ∃ (o off dm : Addr) (A : WA) (s : Wst) (la lt : Addr) (ds : List PyData) (ts : List Str), vs = [.ref o, .ref la, .ref lt] ∧ HasC C CD CO H o off dm A s la lt ds ts ∧ Tabs Ts H ∧ ∀ H', Kp Ts H H' → Tabs Ts H' → Q (.bl true) H'
def spRoles61 : Sp := fun vs H Q _ => ∃ s : Addr, vs = [.ref s] ∧ Strm H s ∧ ∀ (p : Addr) (rs : List PyData) (H' : Hp), Rq H' (.ref p) (.tuple rs) → rs.length = 4 → (∀ d ∈ rs, inD 3 d = true ∧ isRole d = true) → Kp [s] H H' → Strm H' s → Q (.ref p) H'
def spTime61 : Sp := fun vs H Q _ => ∃ s : Addr, vs = [.ref s] ∧ Strm H s ∧ ∀ (e : Int) (H' : Hp), 0 ≤ e → e ≤ 1000000000000 → Kp [s] H H' → Strm H' s → Q (.int e) H'
section
variable {P : Program} {w : World} {K : PySem.W.Frag} {mg : Str → Option Value} {base : Heap} {f : Addr} {fd : FuncData} {C C2 CD CO CA CB CK CT : Addr} {Ts : List Addr}
theorem ok_lrole61 (F : Fun K "_law_role" "_law_role" s_law_role f fd) (B : Blt mg) (c_law_take : Cal P w K mg base CX0 1 "_law_take" spTake) (c_law_once : Cal P w K mg base CX0 1 "_law_once" (spOnce K)) : FnOk P w K mg base CX0 3 f fd ["stream"] spLRole := by
  refine F.ok sc_law_role (fun vs H Q E h => ?_) (fun cdv A outer s H vs Q E hr h => ?_)
  · obtain ⟨st, rfl, _⟩ := h; rfl
  obtain ⟨st, rfl, hs, q⟩ := h
  refine ⟨_, (pss_cons (ps_set (i := 1) sc_law_role.nd rfl (Or.inr rfl) (pe_ix ix_lM (pe_lst (pa_cons pe_int (pa_cons pe_int (pa_cons pe_int pa_nil)))) (c_law_take.pe hr (pa_cons (pv 0) (pa_cons pe_int pa_nil))) (fun _ _ => rfl)))
    (pss_cons (ps_set (i := 2) sc_law_role.nd rfl (Or.inl rfl) (c_law_once.pe hr (pa_cons (pe_lc (own := [("k", 3)]) (g := gName 3) (tt := tYes) rfl sc_law_role.nd (B.range1 (pa_cons (pe_op op_add pe_int (c_law_take.pe hr (pa_cons (pv 0) (pa_cons pe_int pa_nil)))) pa_nil)) (blkOk_by (own := [("k", 3)]) (N := N_law_role) (sc := defScope s_law_role) (by decide +kernel)) (fun _ _ _ _ _ => pg_name (i := 3) sc_law_role.nd rfl (Or.inl rfl)) (fun _ _ _ _ _ => pts_nil) (fun _ _ _ _ _ => (pe_op op_add_str pe_str (B.str_i (pa_cons (pe_op op_add (pv 1) (c_law_take.pe hr (pa_cons (pv 0) (pa_cons pe_int pa_nil)))) pa_nil))))) pa_nil)))
    (pss_one (ps_ret (pe_tup (pa_cons (pe_op op_add pe_int (c_law_take.pe hr (pa_cons (pv 0) (pa_cons (B.len_q (pa_cons (pv 2) pa_nil)) pa_nil)))) (pa_cons (B.tuple_l (pa_cons (pv 2) pa_nil)) pa_nil))))))), ?_⟩
  walk_at "wp"
  have lim : sizeLine = 16777216 := sizeLine_eq
  have nst : ∀ {Hx : Hp} {p : Addr}, Strm Hx st → Hx p = none → p ≠ st := fun s hp z => by
    obtain ⟨x, y, e⟩ := s
    rw [z, e] at hp; cases hp
  refine ⟨by omega, fun p1 h1 => ?_⟩
  have k1 := Kp.new (S := []) h1 (.lst [.int 1, .int 10, .int 40])
  have s1 := hs.kp k1 List.not_mem_nil
  have n1 := nst hs h1
  refine ⟨st, 3, rfl, s1, ⟨by decide, by decide⟩, fun v H2 v0 v1 k2 s2 => ?_⟩
  have f2 := k2.keep p1 _ (by simpa using n1) upd_same
  obtain ⟨bs, em, m0, m1⟩ : ∃ bs : Int, atI [V.int 1, V.int 10, V.int 40] v = some (.int bs) ∧ 0 < bs ∧ bs ≤ 40 := by
    have : v = 0 ∨ v = 1 ∨ v = 2 := by omega
    rcases this with rfl | rfl | rfl <;> exact ⟨_, rfl, by decide, by decide⟩
  refine ⟨_, f2, v, rfl, _, em, ?_⟩
  refine draw_lst (st := st) (fun n H' => 1 ≤ n ∧ n ≤ 3 ∧ Kp [st] H2 H' ∧ Strm H' st) (fun k => kyS k = true) (fun R h => by walk_at "wp"; exact ⟨st, 3, rfl, s2, ⟨by decide, by decide⟩, fun n H3 n0 n1 k3 s3 => ⟨n, rfl, h (1 + n) H3 ⟨by omega, by omega, k3, s3⟩⟩⟩) (fun n H' ⟨n0, n1, k, s⟩ => ⟨by omega, by omega, s⟩) (fun _ => rfl)
    (fun x H3 R s3 h => ?_) (fun n H3 D cs H4 ⟨n0, n1, k3, s3⟩ eD lc pc k4 s4 hD => ?_)
  · walk_at "wp"
    refine ⟨_, rfl, _, rfl, st, 4, rfl, s3, ⟨by decide, by decide⟩, fun n H4 n0 n1 k4 s4 => ?_⟩
    obtain ⟨hky, hln, hlg⟩ := ky_num (n := bs + n) (by omega) (by omega)
    exact ⟨bs, rfl, n, rfl, hlg, by show 1 + _ ≤ _; omega, h _ H4 hky k4 s4⟩
  refine ⟨D, cs, rfl, SqL.of eD, by omega, fun z hz => strOk_ky (pc z hz), fun ks p2 H5 ha mem lk hp2 e5 k5 => ?_⟩
  have s5 := s4.kp k5 List.not_mem_nil
  have np2 := nst s4 hp2
  have K5 : Kp [st] H H5 := (((k1.in0.trans k2).trans k3).trans k4).trans k5.in0
  have kne : ks ≠ [] := by
    cases cs with
    | nil => simp at lc; omega
    | cons c r => intro e; have := (mem c).mpr List.mem_cons_self; rw [e] at this; cases this
  have k0 : 0 < ks.length := List.length_pos_iff.mpr kne
  have kl : (ks.map V.str).length = ks.length := List.length_map _
  refine ⟨p2, rfl, _, .inl (SqL.of e5), st, _, rfl, s5, ⟨by omega, by omega⟩, fun t H6 t0 t1 k6 s6 => ⟨t, rfl, p2, rfl, _, .inl ⟨SqL.of (k6.keep p2 _ (by simpa using np2) e5), fun l hl => ⟨by omega, fun p hp => ?_⟩⟩⟩⟩
  have k7 := Kp.new (S := []) hl (.tup (ks.map V.str))
  have k8 := Kp.new (S := []) hp (.tup [V.int (1 + t), V.ref l])
  refine q p l (1 + t) ks _ upd_same (k8.tup _ _ upd_same) ⟨by omega, by omega, by omega, fun k hk => pc k ((mem k).mp hk), ha⟩ (((K5.trans k6).trans k7.in0).trans k8.in0) ((s6.kp k7 List.not_mem_nil).kp k8 List.not_mem_nil)
theorem ok_lroles61 (F : Fun K "_law_roles" "_law_roles" s_law_roles f fd) (B : Blt mg) (c_law_role : Cal P w K mg base CX0 3 "_law_role" spLRole) : FnOk P w K mg base CX0 4 f fd ["stream"] spRoles61 := by
  refine F.ok sc_law_roles (fun vs H Q E h => ?_) (fun cdv A outer s H vs Q E hr h => ?_)
  · obtain ⟨st, rfl, _⟩ := h; rfl
  obtain ⟨st, rfl, hs, q⟩ := h
  refine ⟨_, (pss_one (ps_ret (B.tuple_l (pa_cons (pe_lc (own := [("k", 1)]) (g := gName 1) (tt := tYes) rfl sc_law_roles.nd (B.range1 (pa_cons pe_int pa_nil)) (blkOk_by (own := [("k", 1)]) (N := N_law_roles) (sc := defScope s_law_roles) (by decide +kernel)) (fun _ _ _ _ _ => pg_name (i := 1) sc_law_roles.nd rfl (Or.inl rfl)) (fun _ _ _ _ _ => pts_nil) (fun _ _ _ _ _ => (c_law_role.pe hr (pa_cons (pv 0) pa_nil)))) pa_nil)))), ?_⟩
  walk_at "wp"
  refine draw_rq (st := st) (fun n H' => n = 4 ∧ H' = H) (fun d => inD 3 d = true ∧ isRole d = true) (fun d h => in_pur _ _ h.1) (fun R h => by exact h 4 H ⟨rfl, rfl⟩) (fun n H' ⟨hn, hH⟩ => ⟨by omega, by omega, hH ▸ hs⟩) (fun _ => rfl)
    (fun x H2 R s2 h => by exact ⟨_, rfl, st, rfl, s2, fun p b t ks H3 e1 e2 ok k s => h _ _ H3 (RoleOk.rq e1 e2) ⟨ok.inD 1, ok.is⟩ k s⟩) (fun n H1 D vs ds H3 ⟨hn, hH⟩ eD r lc pd k2 s2 hD => ?_)
  subst hn
  subst hH
  refine ⟨D, rfl, vs, .inl ⟨SqL.of eD, fun l hl => ?_⟩⟩
  have kn := Kp.new (S := []) hl (.tup vs)
  exact q l ds _ (.tup upd_same (r.kp0 kn)) lc pd (k2.trans kn.in0) (s2.kp kn List.not_mem_nil)
theorem ok_ltime61 (F : Fun K "_law_time" "_law_time" s_law_time f fd) (B : Blt mg) (c_law_take : Cal P w K mg base CX0 1 "_law_take" spTake) : FnOk P w K mg base CX0 2 f fd ["stream"] spTime61 := by
  refine F.ok sc_law_time (fun vs H Q E h => ?_) (fun cdv A outer s H vs Q E hr h => ?_)
  · obtain ⟨st, rfl, _⟩ := h; rfl
  obtain ⟨st, rfl, hs, q⟩ := h
  refine ⟨_, (pss_one (ps_ret (pe_ix ix_lM (pe_lst (pa_cons pe_int (pa_cons pe_int (pa_cons pe_int (pa_cons pe_int (pa_cons pe_int (pa_cons (c_law_take.pe hr (pa_cons (pv 0) (pa_cons (pe_op op_add (pe_op op_pow pe_int pe_int) pe_int) pa_nil))) pa_nil))))))) (c_law_take.pe hr (pa_cons (pv 0) (pa_cons pe_int pa_nil))) (fun _ _ => rfl)))), ?_⟩
  walk_at "wp"
  have pw : CPow 10 12 := ⟨by decide, by decide, by decide⟩
  have e12 : (10 : Int) ^ Int.toNat 12 = 1000000000000 := by decide
  have lim : sizeLine = 16777216 := sizeLine_eq
  rw [e12]
  refine ⟨pw, st, _, rfl, hs, ⟨by decide, by decide⟩, fun t HX t0 t1 kx sx => ⟨by omega, fun p hp => ?_⟩⟩
  have kp := Kp.new (S := []) hp (.lst [V.int 0, V.int 10, V.int 10, V.int 20, V.int 50, V.int t])
  have np : p ≠ st := fun z => by
    obtain ⟨x, y, e⟩ := sx
    rw [z, e] at hp; cases hp
  refine ⟨st, 6, rfl, sx.kp kp List.not_mem_nil, ⟨by decide, by decide⟩, fun v HY v0 v1 ky sy => ?_⟩
  have ep := ky.keep p _ (by simpa using np) upd_same
  obtain ⟨e, em, e0, e1⟩ : ∃ e : Int, atI [V.int 0, V.int 10, V.int 10, V.int 20, V.int 50, V.int t] v = some (.int e) ∧ 0 ≤ e ∧ e ≤ 1000000000000 := by
    have : v = 0 ∨ v = 1 ∨ v = 2 ∨ v = 3 ∨ v = 4 ∨ v = 5 := by omega
    rcases this with rfl | rfl | rfl | rfl | rfl | rfl
    · exact ⟨_, rfl, by decide, by decide⟩
    · exact ⟨_, rfl, by decide, by decide⟩
    · exact ⟨_, rfl, by decide, by decide⟩
    · exact ⟨_, rfl, by decide, by decide⟩
    · exact ⟨_, rfl, by decide, by decide⟩
    · exact ⟨_, rfl, by omega, by omega⟩
  exact ⟨_, ep, v, rfl, _, em, q e HY e0 e1 ((kx.trans kp.in0).trans ky) sy⟩
theorem ok_lturned61 (F : Fun K "_law_turned" "_law_turned" s_law_turned f fd) (B : Blt mg) (T : WaC P w K mg base CA) (m_Workshop_turn : CalM P w K mg base (CXG P w) 27 C "turn" (spWTurn C CD CO CA Ts)) :
    FnOk P w K mg base CX0 29 f fd ["shop", "roles", "expires"] (spTurned61 C CD CO Ts) := by
  refine F.ok sc_law_turned (fun vs H Q E h => ?_) (fun cdv A outer s H vs Q E hr h => ?_)
  · obtain ⟨_, _, _, _, _, _, _, _, _, _, rfl, _⟩ := h; rfl
  obtain ⟨o, off, dm, A, s, v, u, r, e, d, rfl, hW, hR, hE, or, hl, hc, hm, ht, hch, hG, q1, q2, q3⟩ := h
  refine ⟨_, (pss_cons (ps_try_G (i := 3) (n := "e") (out := fun _ _ _ _ => False) rfl rfl sc_law_turned.nd rfl rfl (fun hd => PySem.PassesOwnAt.never) takes0G (fun V held ex tk _ => by_given (pss_one (ps_expr (m_Workshop_turn.peG hr tk (pv 0) (pa_cons (pv 1) (pa_cons (pv 2) pa_nil))))) rfl) (.one (k := (_, _)) (.one ⟨rfl, by decide, .inl T.BadAct.g⟩) (fun a oe cls d pn hz hf hot => (by_given (pss_cons (ps_if (pt_val (B.isT (pe_xf T.BadAct.xf T.BadAct.n hz hf (pv 3)) B.v_str)) (pss_one (ps_ret (pe_xf T.BadAct.xf T.BadAct.n hz hf (pv 3)))) pss_nil)
    (pss_one (ps_ret pe_non))) rfl)) .none))
    (pss_one (ps_ret pe_str))), ?_⟩
  obtain ⟨dx, ev, ho, re⟩ := hW.ob
  walk_at "wq"
  refine ⟨dx, _, ho, rfl, o, off, dm, A, s, v, u, r, e, d, rfl, hW, hR, hE, or, hl, hc, hm, ht, hch, hG, fun h1 x G k g hx ex => ?_, fun h1 h2 x G k g hx ex => ?_, fun h1 h2 => ?_⟩
  · exact ⟨true, exm1 T.BadAct.em, if_yes rfl fun a ha => ⟨_, rfl, rfl, rfl, x, rfl, _, ex, .str (Str.ofString "roles"), rfl, "str", rfl, if_yes (by decide) ⟨_, rfl, rfl, rfl, x, _, .str (Str.ofString "roles"), rfl, ex, rfl, q1 h1 G k g⟩⟩⟩
  · exact ⟨true, exm1 T.BadAct.em, if_yes rfl fun a ha => ⟨_, rfl, rfl, rfl, x, rfl, _, ex, .str (Str.ofString "expires"), rfl, "str", rfl, if_yes (by decide) ⟨_, rfl, rfl, rfl, x, _, .str (Str.ofString "expires"), rfl, ex, rfl, q2 h1 h2 G k g⟩⟩⟩
  · exact q3 h1 h2
theorem ok_lholds61 (F : Fun K "_law_holds" "_law_holds" s_law_holds f fd) (B : Blt mg) (c_law_same : Cal P w K mg base CX0 9 "_law_same" (spSame 8)) (m_Workshop_text : CalM P w K mg base CX0 1 C "text" (spWText C CD CO)) (m_Workshop_names : CalM P w K mg base CX0 1 C "names" (spWNames C CD CO)) (m_Workshop_charters : CalM P w K mg base CX0 1 C "charters" (spWChs C CD CO)) (m_Workshop_first : CalM P w K mg base (L2.CX P w) 18 C "first" (spWFirst C CD CO Ts)) :
    FnOk P w K mg base CX0 19 f fd ["shop", "charters", "texts"] (spHolds61 C CD CO Ts) := by
  refine F.ok sc_law_holds (fun vs H Q E h => ?_) (fun cdv A outer s H vs Q E hr h => ?_)
  · obtain ⟨_, _, _, _, _, _, _, _, _, rfl, _⟩ := h; rfl
  obtain ⟨o, off, dm, A, s, la, lt, ds, ts, rfl, hC, hG, q⟩ := h
  refine ⟨_, (C8.pss_cut (ps_set (i := 3) sc_law_holds.nd rfl (Or.inl rfl) (m_Workshop_charters.pe0 hr (pv 0)))
    (C8.pss_cut (ps_if (PW.pt (pw_or (pt_not (pt_val (B.isT (pv 3) B.v_list))) (pw_or1 (pt_cmpR op_ne (B.len_q (pa_cons (pv 3) pa_nil)) (B.len_q (pa_cons (pv 1) pa_nil)) (nomark _))))) (pss_one (ps_ret pe_bl)) pss_nil)
    (C8.pss_cut (ps_for PassesOwn.never rfl (B.range1 (pa_cons (B.len_q (pa_cons (pv 1) pa_nil)) pa_nil)) (pg_name (i := 4) sc_law_holds.nd rfl (Or.inl rfl)) (pss_one (ps_if (PW.pt (pw_or (pt_not (pt_val (c_law_same.pe hr (pa_cons (pe_ix ix_lM (pv 3) (pv 4) (fun _ _ => rfl)) (pa_cons (pe_ix ix_lM (pv 1) (pv 4) (fun _ _ => rfl)) pa_nil))))) (pw_or1 (pt_not (pt_val (c_law_same.pe hr (pa_cons (m_Workshop_text.pe hr (pv 0) (pa_cons (pe_op op_add_str (B.str_i (pa_cons (pe_op op_add (pv 4) pe_int) pa_nil)) pe_str) pa_nil)) (pa_cons (pe_ix ix_lM (pv 2) (pv 4) (fun _ _ => rfl)) pa_nil)))))))) (pss_one (ps_ret pe_bl)) pss_nil)))
    (C8.pss_cut (ps_if (pt_cmpR op_notN (m_Workshop_text.pe hr (pv 0) (pa_cons (pe_op op_add_str (B.str_i (pa_cons (pe_op op_add (B.len_q (pa_cons (pv 1) pa_nil)) pe_int) pa_nil)) pe_str) pa_nil)) pe_non (nomark _)) (pss_one (ps_ret pe_bl)) pss_nil)
    (pss_one (ps_ret (pe_and (c_law_same.pe hr (pa_cons (m_Workshop_first.peL0 hr (pv 0)) (pa_cons (pe_ix ix_lM (pv 2) pe_int (fun _ _ => rfl)) pa_nil))) (pe_one (pe_cmpR op_eq (B.len_q (pa_cons (m_Workshop_names.pe0 hr (pv 0)) pa_nil)) (B.len_q (pa_cons (pv 1) pa_nil)) (nomark _)))))))))), ?_⟩
  obtain ⟨dw, ew, how, _⟩ := hC.W.ob
  refine ⟨fun σ H' => ∃ kl us, σ = [some (.ref o), some (.ref la), some (.ref lt), some (.ref kl), none] ∧ H' kl = some (.lst us) ∧ RqA H' us ds ∧ Kp [] H H' ∧ HasC C CD CO H' o off dm A s la lt ds ts, ?_, fun σ H1 ⟨kl, us, hσ, ek, ru, k1, C1⟩ => ?_⟩
  · walk_at "wq"
    exact ⟨dw, _, how, rfl, o, off, dm, A, s, rfl, hC.W, by rw [hC.chs]; exact Nat.le_trans hC.n2 (by decide), fun p us H1 hp ep rp k1 => ⟨p, rfl, us, ep, (by rw [hC.chs] at rp; exact rp), k1, hC.kp0 k1⟩⟩
  subst hσ
  refine ⟨fun σ H' => σ = [some (.ref o), some (.ref la), some (.ref lt), some (.ref kl), none] ∧ H' = H1, ?_, fun σ H2 ⟨hσ, hH⟩ => ?_⟩
  · walk_at "wq"
    obtain ⟨us', ec, rc⟩ := C1.ec
    exact ⟨"list", tyN_lst ek, if_no (by decide) ⟨us, .inl (SqL.of ek), us', .inl (SqL.of ec), if_no (fun h => h (by rw [ru.len, rc.len])) trivial⟩⟩
  subst hσ
  subst hH
  refine ⟨fun σ H' => (∃ o4 : Option V, σ = [some (.ref o), some (.ref la), some (.ref lt), some (.ref kl), o4]) ∧ H' = H2, ?_, fun σ H3 ⟨⟨o4, hσ⟩, hH⟩ => ?_⟩
  · walk_at "wq"
    obtain ⟨us', ec, rc⟩ := C1.ec
    have lc := rc.len
    have l13' := C1.n2
    have lim : sizeLine = 16777216 := sizeLine_eq
    refine ⟨_, rfl, la, rfl, us', .inl (SqL.of ec), _, rfl, by omega, by omega, ?_⟩
    refine for_range (lo := 0) (n := ((us'.length : Nat) : Int).toNat) (fun i σ H' => (∃ o4 : Option V, σ = [some (.ref o), some (.ref la), some (.ref lt), some (.ref kl), o4]) ∧ H' = H2) ⟨⟨_, rfl⟩, rfl⟩ (fun i σ H' hi ⟨⟨o4, hσ⟩, hH⟩ => ?_) (fun σ H' ⟨⟨o4, hσ⟩, hH⟩ => ⟨⟨_, hσ⟩, hH⟩)
    subst hσ
    subst hH
    walk_at "wq"
    have hi' : i < ds.length := by omega
    have l13 := C1.n2
    have lts := C1.l
    rw [show (0 : Int) + (i : Nat) = ((i : Nat) : Int) by omega]
    obtain ⟨x, hx, rx⟩ := ru.at hi'
    obtain ⟨y, hy, ry⟩ := rc.at hi'
    have ed : ds[i]? = some (ds.getD i .none) := by
      rw [List.getD_eq_getElem?_getD, List.getElem?_eq_getElem hi']; rfl
    obtain ⟨d1, d2, d3, d4⟩ := C1.dk i _ ed
    have hdoc : isDoc (ds.getD i .none) = true := by unfold isDoc; rw [d1]; rfl
    have sz := doc_sz hdoc
    obtain ⟨t, ht⟩ : ∃ t, ts[i]? = some t := ⟨_, List.getElem?_eq_getElem (by omega)⟩
    obtain ⟨pt', lt'⟩ := C1.tk t (List.mem_of_getElem? ht)
    have pd : pl 8 (.str t) = true := pt'
    obtain ⟨hky, hln, hlg⟩ := ky_num (n := (i : Int) + 1) (by omega) (by omega)
    refine ⟨us, ek, x, atI_nat hx, us', ec, y, atI_nat hy, _, _, _, _, rfl, rx.rep 8 sz.1, ry.rep 8 sz.1, sz.1, doc_sml hdoc, _, rfl, if_no (by rw [same_refl 8 _ sz.1]; decide) ?_⟩
    obtain ⟨dw', ew', how', _⟩ := C1.W.ob
    refine ⟨_, _, how', rfl, hlg, by rw [show (Str.ofString ".charter").length = 8 from rfl, show sizeLine = 16777216 from sizeLine_eq]; omega, o, off, dm, A, s, _, rfl, C1.W, ?_⟩
    have tt : getT s.txs (Str.ofString (toString ((i : Int) + 1)) ++ Str.ofString ".charter") = some t := by
      rw [show Str.ofString (toString ((i : Int) + 1)) ++ Str.ofString ".charter" = nmC (1 + i) from (by
        unfold nmC vS
        rw [show (i : Int) + 1 = ((1 + i : Nat) : Int) by omega]), C1.txs, nt_at ts 1 i (by omega) (by omega)]
      exact ht
    rw [tt]
    exact ⟨_, C1.et, .str t, atI_nat (by rw [List.getElem?_map, ht]; rfl), _, _, _, _, rfl, .str t, .str t, pd, (by show decide (t.length ≤ 10000000) = true; exact decide_eq_true (by omega)), _, rfl, if_no (by rw [same_refl 8 _ pd]; decide) ⟨⟨_, rfl⟩, rfl⟩⟩
  subst hσ
  subst hH
  refine ⟨fun σ H' => σ = [some (.ref o), some (.ref la), some (.ref lt), some (.ref kl), o4] ∧ H' = H3, ?_, fun σ H4 ⟨hσ, hH⟩ => ?_⟩
  · walk_at "wq"
    obtain ⟨us', ec, rc⟩ := C1.ec
    have l13 := C1.n2
    have lts := C1.l
    obtain ⟨dw', ew', how', _⟩ := C1.W.ob
    obtain ⟨hky, hln, hlg⟩ := ky_num (n := (us'.length : Int) + 1) (by omega) (by rw [rc.len]; omega)
    refine ⟨_, _, how', rfl, us', .inl (SqL.of ec), hlg, by rw [show (Str.ofString ".charter").length = 8 from rfl, show sizeLine = 16777216 from sizeLine_eq]; omega, o, off, dm, A, s, _, rfl, C1.W, ?_⟩
    have tt : getT s.txs (Str.ofString (toString ((us'.length : Int) + 1)) ++ Str.ofString ".charter") = none := by
      rw [show Str.ofString (toString ((us'.length : Int) + 1)) ++ Str.ofString ".charter" = nmC (1 + ts.length) from (by
        unfold nmC vS
        rw [rc.len, show (ds.length : Int) + 1 = ((1 + ts.length : Nat) : Int) by omega]), C1.txs, nt_at ts 1 ts.length (by omega) (Nat.le_refl _)]
      simp
    rw [tt]
    exact if_no (fun h => h rfl) rfl
  subst hσ
  subst hH
  walk_at "wq"
  obtain ⟨us', ec, rc⟩ := C1.ec
  have l13 := C1.n2
  have lts := C1.l
  have n1 := C1.n1
  obtain ⟨dw', ew', how', _⟩ := C1.W.ob
  obtain ⟨d0, dr, e0⟩ : ∃ d0 dr, ds = d0 :: dr := by
    cases ds with
    | nil => exact absurd n1 (by decide)
    | cons a b => exact ⟨a, b, rfl⟩
  obtain ⟨t0, tr, f0⟩ : ∃ t0 tr, ts = t0 :: tr := by
    cases ts with
    | nil => rw [e0] at lts; cases lts
    | cons a b => exact ⟨a, b, rfl⟩
  obtain ⟨d1, d2, d3, d4⟩ := C1.dk 0 d0 (by rw [e0]; rfl)
  have tt : getT s.txs (pubN d0) = some t0 := by
    rw [d4, C1.txs, nt_at ts 1 0 (by omega) (by omega), f0]; rfl
  obtain ⟨pt', lt'⟩ := C1.tk t0 (by rw [f0]; exact List.mem_cons_self)
  have pd : pl 8 (.str t0) = true := pt'
  have g4 := hG.kp0 k1
  refine ⟨_, _, how', rfl, o, off, dm, A, s, d0, dr, t0, rfl, C1.W, by rw [C1.chs, e0], d1, d2, tt, g4, fun H5 k5 g5 => ?_⟩
  have C5 := C1.tabs k5 g4
  obtain ⟨us5, ec5, rc5⟩ := C5.ec
  refine ⟨_, C5.et, .str t0, by rw [f0]; exact at0, _, _, _, _, rfl, .str t0, .str t0, pd, (by show decide (t0.length ≤ 10000000) = true; exact decide_eq_true (by omega)), _, rfl, if_yes (same_refl 8 _ pd) ?_⟩
  obtain ⟨dw5, ew5, how5, _⟩ := C5.W.ob
  refine ⟨_, _, how5, rfl, o, off, dm, A, s, rfl, C5.W, by rw [C5.txs, nt_len]; omega, fun ys p H6 pe so hp ep k6 => ⟨p, rfl, _, .inl (SqL.of ep), us5, .inl (SqL.of (k6.keep _ _ List.not_mem_nil ec5)), ?_⟩⟩
  have ly := pe.length_eq
  rw [List.length_map, C5.txs, nt_len] at ly
  rw [List.length_map, ly, rc5.len, lts, decide_eq_true rfl]
  exact q H6 ((k1.in0.trans k5).trans k6.in0) (g5.kp0 k6)
end
/-! roles of charters, as the workshop's laws need them -/
theorem in4 {n : Nat} {ds : List PyData} (l : ds.length ≤ 100) (h : ∀ d ∈ ds, inD n d = true) : inD (n + 1) (.tuple ds) = true := inD_tup.mpr ⟨l, h⟩
theorem num_ok {lo hi i : Int} (h : lo ≤ i) (g : i ≤ hi) : numB lo hi (.int i) = true := by
  show (decide (lo ≤ i) && decide (i ≤ hi)) = true
  rw [decide_eq_true h, decide_eq_true g]; rfl
theorem roles_of {d : PyData} (h : isRoles d = true) : ∃ rs, d = .tuple rs ∧ rs.length = 4 ∧ ∀ r ∈ rs, isRole r = true := by
  unfold isRoles at h
  rw [Bool.and_eq_true] at h
  cases d with
  | tuple rs =>
    have t : (decide (4 ≤ rs.length) && decide (rs.length ≤ 4)) = true := h.1
    rw [Bool.and_eq_true, decide_eq_true_eq, decide_eq_true_eq] at t
    exact ⟨rs, rfl, by omega, fun r m => List.all_eq_true.mp h.2 r m⟩
  | _ => cases h.1
theorem roles_ok {rs : List PyData} (l : rs.length = 4) (h : ∀ r ∈ rs, isRole r = true) : isRoles (.tuple rs) = true := by
  show ((decide (4 ≤ rs.length) && decide (rs.length ≤ 4)) && rs.all isRole) = true
  rw [l, List.all_eq_true.mpr h]; rfl
theorem role_pur {d : PyData} (h : isRole d = true) : purD d = true := by
  have t := rl_tup h
  have k := rl_keys h
  have st := rl_strs h
  obtain ⟨i, ei, _⟩ := rl_thr h
  cases d with
  | tuple ds =>
    have t : (decide (2 ≤ ds.length) && decide (ds.length ≤ 2)) = true := t
    rw [Bool.and_eq_true, decide_eq_true_eq, decide_eq_true_eq] at t
    match ds, t with
    | [a, b], _ =>
      have ei : a = .int i := ei
      subst ei
      cases b with
      | tuple es =>
        refine purDs_all.mpr fun x m => ?_
        rcases List.mem_cons.mp m with rfl | m
        · rfl
        · rw [List.mem_singleton.mp m]
          refine purDs_all.mpr fun y my => ?_
          have := st y my
          cases y with
          | str z => rfl
          | _ => cases this
      | _ => cases k
  | _ => cases t
theorem roles_pur {d : PyData} (h : isRoles d = true) : purD d = true := by
  obtain ⟨rs, rfl, _, g⟩ := roles_of h
  exact purDs_all.mpr fun r m => role_pur (g r m)
/-- the keys of the first role -/
def KR (d : PyData) : List Str := (itD (ixD (ixD d 0) 1)).map strD
theorem role0 {H : Hp} {rv : V} {d : PyData} (R : Rq H rv d) (h : isRoles d = true) : ∃ p xs p1 ys p2, rv = .ref p ∧ H p = some (.tup xs) ∧ atI xs 0 = some (.ref p1) ∧ H p1 = some (.tup ys) ∧ atI ys 1 = some (.ref p2) ∧ H p2 = some (.tup ((KR d).map V.str)) := by
  have t4 : tupB 4 4 d = true := by unfold isRoles at h; rw [Bool.and_eq_true] at h; exact h.1
  have ir : isRole (ixD d 0) = true := by
    obtain ⟨rs, rfl, l, g⟩ := roles_of h
    match rs, l, g with
    | [a, b, c, e], _, g => exact g a List.mem_cons_self
  obtain ⟨p, xs, rfl, ep, _, _, x, hx, rx⟩ := R.part t4 (i := 0) (by omega)
  obtain ⟨p1, ys, rfl, e1, _, _, y, hy, ry⟩ := rx.part (rl_tup ir) (i := 1) (by omega)
  obtain ⟨b, zs, ds, rfl, eb, edd, rr, _, _⟩ := tupB_of ry (rl_keys ir)
  have st := rl_strs ir
  rw [show itD (ixD (ixD d 0) 1) = ds by rw [show ixD (ixD d 0) 1 = .tuple ds from edd]; rfl] at st
  have ey := rqa_strs rr st
  have ek : KR d = ds.map strD := by
    unfold KR
    rw [show ixD (ixD d 0) 1 = .tuple ds from edd]; rfl
  exact ⟨p, xs, p1, ys, b, rfl, ep, hx, e1, hy, by rw [eb, ey, ek]⟩
theorem KR_ok {d : PyData} (h : isRoles d = true) : (∀ k ∈ KR d, kyS k = true) ∧ asc (KR d) = true ∧ (KR d).length ≤ 16 := by
  have ir : isRole (ixD d 0) = true := by
    obtain ⟨rs, rfl, l, g⟩ := roles_of h
    match rs, l, g with
    | [a, b, c, e], _, g => exact g a List.mem_cons_self
  refine ⟨rl_kyS ir, ?_, rl_len ir⟩
  unfold isRole at ir; simp only [Bool.and_eq_true] at ir
  exact ir.2.2.2.1
theorem seal_pr {d : PyData} {ks : List Str} (hd : isDoc d = true) (l : (uq ks).length ≤ 32) (kk : ∀ k ∈ ks, kyS k = true) : prn (sealS d ks) = true ∧ (sealS d ks).length ≤ 100000 := by
  have ku : ∀ k ∈ uq ks, kyS k = true := fun k m => kk k ((uq_mem _).mp m)
  have sl := seal_le (tx_len hd) l ku
  exact ⟨txt_prn (pl_sealT (tx_prn hd) fun k m => kyPrn (ku k m)), by rw [show sealS d ks = ⟨(txt (sealT (tx d) (uq ks))).toArray⟩ from rfl, S_len]; exact sl⟩
theorem pub_ch {n : Nat} {e r : PyData} : pubN (chN n e r) = vS (n : Nat) ++ Str.ofString ".charter" := by
  unfold pubN
  rw [if_pos (show strD (ixD (chN n e r) 0) = Str.ofString "charter" from rfl)]; rfl
/-! law k61 -/
abbrev s_law : Stmt := top 108
abbrev N_law : List Str := ["script", "stream", "office", "roles", "expires", "shop", "charters", "texts", "cell", "before", "due", "count", "keys"]
theorem sc_law : FnScope N_law ["script"] (defScope s_law) := ⟨rfl, rfl, rfl, by decide +kernel, rfl, by decide +kernel, by decide +kernel⟩
/-! the state of law k61 -/
def spLaw61 (K : PySem.W.Frag) (Ts : List Addr) : Sp := fun vs H Q _ => ∃ (a : Addr) (ns : List Int), vs = [.ref a] ∧ SqL K H a (ns.map V.int) ∧ Tabs Ts H ∧ ∀ H', Q (.bl true) H'
structure Z61 (Ts : List Addr) (CO : Addr) (H0 : Hp) (st off dm : Addr) (rv : V) (rs : List PyData) (H : Hp) : Prop where
  Z : SO Ts CO H0 st off dm [] H
  R : Rq H rv (.tuple rs)
  l : rs.length = 4
  h : ∀ d ∈ rs, inD 3 d = true ∧ isRole d = true
  f2 : H0 off = none
structure J61 (Ts : List Addr) (C CD CO o off dm : Addr) (A : WA) (s : Wst) (la lt lp : Addr) (ds : List PyData) (ts : List Str) (cs : List V) (H : Hp) : Prop where
  c : HasC C CD CO H o off dm A s la lt ds ts
  g : Tabs Ts H
  fl : s.drf.fls = [(kL, [])] ∨ s.drf.fls = [(kL, [(Str.ofString "a", rowF (Str.ofString "b"))])]
  mm : s.mde.length ≤ 32 * ds.length
  nX : ∀ a ∈ [la, lt, lp], a ∉ A.all o off dm
  nn : la ≠ lt ∧ la ≠ lp ∧ lt ≠ lp
  ep : H lp = some (.lst cs)
structure B61 (Ts : List Addr) (C CD CO o off dm : Addr) (A : WA) (s : Wst) (la lt lp : Addr) (ds : List PyData) (ts : List Str) (cs : List V) (st : Addr) (H : Hp) : Prop where
  j : J61 Ts C CD CO o off dm A s la lt lp ds ts cs H
  s : Strm H st
  n1 : ∀ a ∈ A.all o off dm, a ≠ st
  n2 : ∀ a ∈ [la, lt, lp], a ≠ st
section
variable {Ts : List Addr} {C CD CO : Addr} {H0 H H' : Hp} {st o off dm : Addr} {A : WA} {s : Wst} {la lt lp : Addr} {ds : List PyData} {ts : List Str} {cs : List V} {rv : V} {rs : List PyData}
theorem Z61.inR (z : Z61 Ts CO H0 st off dm rv rs H) : inD 4 (.tuple rs) = true := in4 (by have := z.l; omega) fun d m => (z.h d m).1
theorem Z61.take (z : Z61 Ts CO H0 st off dm rv rs H) (k : Kp [st] H H') (s : Strm H' st) : Z61 Ts CO H0 st off dm rv rs H' := ⟨z.Z.take k s, z.R.pure k (in_pur _ _ z.inR), z.l, z.h, z.f2⟩
theorem Z61.kp0 (z : Z61 Ts CO H0 st off dm rv rs H) (k : Kp [] H H') : Z61 Ts CO H0 st off dm rv rs H' := ⟨z.Z.kp0 k, z.R.kp0 k, z.l, z.h, z.f2⟩
theorem HasC.pur (h : HasC C CD CO H o off dm A s la lt ds ts) : purDs ds = true := purDs_all.mpr fun d m => by
  obtain ⟨i, hi⟩ := List.getElem?_of_mem m
  exact (h.dk i d hi).2.2.1
theorem J61.kp {S : List Addr} (j : J61 Ts C CD CO o off dm A s la lt lp ds ts cs H) (k : Kp S H H') (n : ∀ a ∈ A.all o off dm, a ∉ S) (n2 : ∀ a ∈ [la, lt, lp], a ∉ S) (g : Tabs Ts H') : J61 Ts C CD CO o off dm A s la lt lp ds ts cs H' := by
  obtain ⟨us, e, r⟩ := j.c.ec
  have h := j.c
  exact ⟨⟨h.W.kp k n, ⟨us, k.keep _ _ (n2 _ (by simp)) e, r.pure k h.pur⟩, k.keep _ _ (n2 _ (by simp)) h.et, h.chs, h.txs, h.l, h.n1, h.n2, h.dk, h.tk, h.vk⟩, g, j.fl, j.mm, j.nX, j.nn, k.keep _ _ (n2 _ (by simp)) j.ep⟩
theorem J61.kp0 (j : J61 Ts C CD CO o off dm A s la lt lp ds ts cs H) (k : Kp [] H H') : J61 Ts C CD CO o off dm A s la lt lp ds ts cs H' := j.kp k (fun _ _ => List.not_mem_nil) (fun _ _ => List.not_mem_nil) (j.g.kp0 k)
theorem J61.tabs (j : J61 Ts C CD CO o off dm A s la lt lp ds ts cs H) (k : Kp Ts H H') (g : Tabs Ts H') : J61 Ts C CD CO o off dm A s la lt lp ds ts cs H' := by
  obtain ⟨us, e, r⟩ := j.c.ec
  refine j.kp k (fun a m => ?_) (fun a m => ?_) g
  · obtain ⟨u, e, n, _⟩ := j.c.W.val a m
    exact j.g.ne e n
  · simp only [List.mem_cons, List.not_mem_nil, or_false] at m
    rcases m with rfl | rfl | rfl
    · exact j.g.ne e fun ps z => by cases z
    · exact j.g.ne j.c.et fun ps z => by cases z
    · exact j.g.ne j.ep fun ps z => by cases z
theorem J61.new (j : J61 Ts C CD CO o off dm A s la lt lp ds ts cs H) {a b : Int} (h : H st = none) : B61 Ts C CD CO o off dm A s la lt lp ds ts cs st (upd H st (.lst [.int a, .int b])) := by
  obtain ⟨us, e, r⟩ := j.c.ec
  refine ⟨j.kp0 (Kp.new h _), Strm.mk, fun a m z => ?_, fun a m z => ?_⟩
  · obtain ⟨u, e, _⟩ := j.c.W.val a m
    rw [z, h] at e; cases e
  · simp only [List.mem_cons, List.not_mem_nil, or_false] at m
    rcases m with rfl | rfl | rfl
    · rw [z, h] at e; cases e
    · have e := j.c.et
      rw [z, h] at e; cases e
    · have e := j.ep
      rw [z, h] at e; cases e
theorem B61.take (b : B61 Ts C CD CO o off dm A s la lt lp ds ts cs st H) (k : Kp [st] H H') (s' : Strm H' st) : B61 Ts C CD CO o off dm A s la lt lp ds ts cs st H' := by
  refine ⟨b.j.kp k (fun a m z => b.n1 a m (List.mem_singleton.mp z)) (fun a m z => b.n2 a m (List.mem_singleton.mp z)) (b.j.g.kp k fun P mP mo => ?_), s', b.n1, b.n2⟩
  obtain ⟨x, y, e⟩ := b.s
  rw [← List.mem_singleton.mp mo] at e
  exact absurd mP (b.j.g.ne e fun ps z => by cases z)
theorem B61.kp0 (b : B61 Ts C CD CO o off dm A s la lt lp ds ts cs st H) (k : Kp [] H H') : B61 Ts C CD CO o off dm A s la lt lp ds ts cs st H' := ⟨b.j.kp0 k, b.s.kp k List.not_mem_nil, b.n1, b.n2⟩
end
def due61 (r e : PyData) : Str := if isRoles r = true then (if numB 0 1000000000000 e = true then Str.ofString "" else Str.ofString "expires") else Str.ofString "roles"
def dn61 (e : PyData) : Str := if numB 0 1000000000000 e = true then Str.ofString "" else Str.ofString "expires"
theorem due61_r {r e : PyData} (h : isRoles r = false) : due61 r e = Str.ofString "roles" := by unfold due61; rw [if_neg (by rw [h]; decide)]
theorem due61_e {r e : PyData} (h : isRoles r = true) (g : numB 0 1000000000000 e = false) : due61 r e = Str.ofString "expires" := by unfold due61; rw [if_pos h, if_neg (by rw [g]; decide)]
theorem due61_o {r e : PyData} (h : isRoles r = true) (g : numB 0 1000000000000 e = true) : due61 r e = Str.ofString "" := by unfold due61; rw [if_pos h, if_pos g]
/-- a charter is turned, the law's lists not yet (D: what the list of charters holds) -/
structure T61 (Ts : List Addr) (C CD CO o off dm : Addr) (A : WA) (s : Wst) (la lt lp : Addr) (D : List PyData) (ts : List Str) (cs : List V) (rv ev bv : V) (rd ed dl : PyData) (H : Hp) : Prop where
  W : Wsh C CD CO o off dm A s H
  ec : ∃ us, H la = some (.lst us) ∧ RqA H us D
  et : H lt = some (.lst (ts.map V.str))
  ep : H lp = some (.lst cs)
  g : Tabs Ts H
  rr : Rq H rv rd
  re : Rq H ev ed
  rb : Rq H bv dl
theorem cut13 (xs : List V) : (cutV xs (some 1) (some 13)).length ≤ 12 := by
  show ((xs.drop (HT.sIx xs.length 0 (some ((1 : Nat) : Int)))).take (HT.sIx xs.length xs.length (some ((13 : Nat) : Int)) - HT.sIx xs.length 0 (some ((1 : Nat) : Int)))).length ≤ 12
  rw [HT.sIx_nat, HT.sIx_nat, List.length_take, List.length_drop]
  omega
theorem put61 {d : Dft} (h : d.fls = [(kL, [])] ∨ d.fls = [(kL, [(Str.ofString "a", rowF (Str.ofString "b"))])]) : dputF d (.str kL) (.str (Str.ofString "a")) (.str (Str.ofString "b")) = .ok { d with fls := [(kL, [(Str.ofString "a", rowF (Str.ofString "b"))])] } := by
  have hp : hpV paM (.str (Str.ofString "a")) = true := by decide +kernel
  have pb : prn (Str.ofString "b") = true ∧ (Str.ofString "b").length ≤ 100000 := ⟨by decide +kernel, by decide⟩
  rcases h with h | h
  · have en : getA d.fls kL = some [] := by rw [h]; simp [getA]
    rw [((put_bad (xp := .str (Str.ofString "a")) (tv := .str (Str.ofString "b")) en).2 hp).2, if_pos pb, if_neg (fun z => by have := z.2; exact absurd this (by decide)), h]
    simp [setA, putA]
  · have en : getA d.fls kL = some [(Str.ofString "a", rowF (Str.ofString "b"))] := by rw [h]; simp [getA]
    rw [((put_bad (xp := .str (Str.ofString "a")) (tv := .str (Str.ofString "b")) en).2 hp).2, if_pos pb, if_neg (fun z => by have := z.2; exact absurd this (by decide)), h]
    simp [setA, putA]
theorem for_via61 {K : PySem.W.Frag} {tl : TE} {g : TG} {tb : TS} {D : Ends} {σ : L2.St} {H : Hp} (Pq : V → Hp → Prop) (h1 : ∀ R : VK, (∀ x H', Pq x H' → R x H') → tl σ H R) (h2 : ∀ x H', Pq x H' → tFor (iList K (fun _ _ R => R x H')) g tb D σ H) : tFor (iList K tl) g tb D σ H :=
  h1 _ fun x H' hp => h2 x H' hp
section
variable {P : Program} {w : World} {K : PySem.W.Frag} {mg : Str → Option Value} {base : Heap} {f : Addr} {fd : FuncData} {C C2 CD CO CA CB CK CT : Addr} {Ts : List Addr}
theorem ok_law61 (F : Fun K "law" "law" s_law f fd) (B : Blt mg) (c_law_cell : Cal P w K mg base CX0 1 "_law_cell" (spCell K)) (c_law_stream : Cal P w K mg base CX0 1 "_law_stream" spStream) (c_law_take : Cal P w K mg base CX0 1 "_law_take" spTake) (c_law_roles : Cal P w K mg base CX0 4 "_law_roles" spRoles61) (c_law_time : Cal P w K mg base CX0 2 "_law_time" spTime61) (c_law_spoilt : Cal P w K mg base CX0 9 "_law_spoilt" (spOddS 4)) (c_law_are_roles : Cal P w K mg base CX0 4 "_law_are_roles" (spAsk isRoles)) (c_law_number : Cal P w K mg base CX0 1 "_law_number" spLNum)
    (c_law_turned : Cal P w K mg base CX0 29 "_law_turned" (spTurned61 C CD CO Ts)) (c_law_holds : Cal P w K mg base CX0 19 "_law_holds" (spHolds61 C CD CO Ts)) (c_law_counts : Cal P w K mg base CX0 1 "_law_counts" spCounts) (c_law_seal : Cal P w K mg base CX0 10 "_law_seal" (spLSeal K)) (c_law_text : Cal P w K mg base CX0 9 "_law_text" (spLText 8))
    (k_Seals : CalK P w K mg base CX0 1 CO "Seals" (spInit CO)) (m_Seals_count : CalM P w K mg base CX0 1 CO "count" (spCount CO)) (k_Workshop : CalK P w K mg base (CXG P w) 27 C "Workshop" (spWInit C CD CO CA Ts)) (m_Workshop_put : CalM P w K mg base (CXG P w) 10 C "put" (spDPut C CD CO CA Ts fun o _ => o)) :
    FnOk P w K mg base CX0 30 f fd ["script"] (spLaw61 K Ts) := by
  refine F.ok sc_law (fun vs H Q E h => ?_) (fun cdv A0 outer s0 H vs Q E hr h => ?_)
  · obtain ⟨a, ns, rfl, _⟩ := h; rfl
  obtain ⟨a, ns, rfl, hS, hT, q⟩ := h
  refine ⟨_, (C8.pss_cut (ps_set (i := 1) sc_law.nd rfl (Or.inl rfl) (c_law_stream.pe hr (pa_cons (c_law_cell.pe hr (pa_cons (pv 0) (pa_cons pe_int pa_nil))) pa_nil)))
    (pss_cons (ps_set (i := 2) sc_law.nd rfl (Or.inl rfl) (k_Seals.pe0 hr))
    (C8.pss_cut (ps_set (i := 3) sc_law.nd rfl (Or.inl rfl) (c_law_roles.pe hr (pa_cons (pv 1) pa_nil)))
    (C8.pss_cut (ps_set (i := 4) sc_law.nd rfl (Or.inl rfl) (c_law_time.pe hr (pa_cons (pv 1) pa_nil)))
    (C8.pss_cut (ps_set (i := 5) sc_law.nd rfl (Or.inl rfl) (k_Workshop.pex hr passGL (pa_cons (pv 2) (pa_cons (pv 3) (pa_cons (pv 4) pa_nil)))))
    (C8.pss_cut (ps_set (i := 6) sc_law.nd rfl (Or.inl rfl) (pe_lst (pa_cons (pe_tup (pa_cons pe_str (pa_cons pe_int (pa_cons (pv 4) (pa_cons (pv 3) pa_nil))))) pa_nil)))
    (C8.pss_cut (ps_set (i := 7) sc_law.nd rfl (Or.inl rfl) (pe_lst (pa_cons (c_law_seal.pe hr (pa_cons (c_law_text.pe hr (pa_cons (pe_ix ix_lM (pv 6) pe_int (fun _ _ => rfl)) pa_nil)) (pa_cons (B.list_q (pa_cons (pe_ix ix_tM (pe_ix ix_tM (pv 3) pe_int (fun _ _ => rfl)) pe_int (fun _ _ => rfl)) pa_nil)) pa_nil))) pa_nil)))
    (pss_cons (ps_for PassesOwn.never rfl (pi_list (pe_slice sl_list (pv 0) (po_some pe_int) (po_some pe_int))) (pg_name (i := 8) sc_law.nd rfl (Or.inl rfl)) (C8.pss_cut (ps_set (i := 1) sc_law.nd rfl (Or.inl rfl) (c_law_stream.pe hr (pa_cons (pv 8) pa_nil)))
    (C8.pss_cut (ps_set (i := 9) sc_law.nd rfl (Or.inl rfl) (pe_ix ix_lM (pv 6) (pe_op op_sub (B.len_q (pa_cons (pv 6) pa_nil)) pe_int) (fun _ _ => rfl)))
    (C8.pss_cut (ps_set (i := 3) sc_law.nd rfl (Or.inl rfl) (c_law_roles.pe hr (pa_cons (pv 1) pa_nil)))
    (C8.pss_cut (ps_set (i := 4) sc_law.nd rfl (Or.inl rfl) (c_law_time.pe hr (pa_cons (pv 1) pa_nil)))
    (C8.pss_cut (ps_if (pt_cmpR op_eq (c_law_take.pe hr (pa_cons (pv 1) (pa_cons pe_int pa_nil))) pe_int (nomark _)) (pss_one (ps_set (i := 3) sc_law.nd rfl (Or.inl rfl) (c_law_spoilt.pe hr (pa_cons (pv 1) (pa_cons (pv 3) pa_nil))))) pss_nil)
    (C8.pss_cut (ps_if (pt_cmpR op_eq (c_law_take.pe hr (pa_cons (pv 1) (pa_cons pe_int pa_nil))) pe_int (nomark _)) (pss_one (ps_set (i := 4) sc_law.nd rfl (Or.inl rfl) (pe_ix ix_lM (pe_lst (pa_cons (pe_un un_neg pe_int) (pa_cons (pe_op op_add (pe_op op_pow pe_int pe_int) pe_int) (pa_cons pe_non (pa_cons pe_bl (pa_cons pe_str pa_nil)))))) (c_law_take.pe hr (pa_cons (pv 1) (pa_cons pe_int pa_nil))) (fun _ _ => rfl)))) pss_nil)
    (pss_cons (ps_set (i := 10) sc_law.nd rfl (Or.inl rfl) pe_str)
    (C8.pss_cut (ps_if (pt_not (pt_val (c_law_number.pe hr (pa_cons (pv 4) (pa_cons pe_int pa_nil))))) (pss_one (ps_set (i := 10) sc_law.nd rfl (Or.inl rfl) pe_str)) pss_nil)
    (C8.pss_cut (ps_if (pt_not (pt_val (c_law_are_roles.pe hr (pa_cons (pv 3) pa_nil)))) (pss_one (ps_set (i := 10) sc_law.nd rfl (Or.inl rfl) pe_str)) pss_nil)
    (C8.pss_cut (ps_set (i := 11) sc_law.nd rfl (Or.inl rfl) (m_Seals_count.pe0 hr (pv 2)))
    (C8.pss_cut (ps_if (pt_cmpR op_ne (c_law_turned.pe hr (pa_cons (pv 5) (pa_cons (pv 3) (pa_cons (pv 4) pa_nil)))) (pv 10) (nomark _)) (pss_one (ps_ret pe_bl)) pss_nil)
    (C8.pss_cut (ps_if (pt_cmpR op_eq (pv 10) pe_str (nomark _)) (C8.pss_cut (ps_expr (pe_bm PySem.F.plainAttrs_list PySem.F.slot_list_append PySem.F.type_list_append mt_append (pv 6) (pa_cons (pe_tup (pa_cons pe_str (pa_cons (pe_op op_add (pe_ix ix_tM (pv 9) pe_int (fun _ _ => rfl)) pe_int) (pa_cons (pv 4) (pa_cons (pv 3) pa_nil))))) pa_nil)))
    (C8.pss_cut (ps_set (i := 12) sc_law.nd rfl (Or.inl rfl) (pe_op op_cat (B.list_q (pa_cons (pe_ix ix_tM (pe_ix ix_tM (pe_ix ix_tM (pv 9) pe_int (fun _ _ => rfl)) pe_int (fun _ _ => rfl)) pe_int (fun _ _ => rfl)) pa_nil)) (B.list_q (pa_cons (pe_ix ix_tM (pe_ix ix_tM (pv 3) pe_int (fun _ _ => rfl)) pe_int (fun _ _ => rfl)) pa_nil))))
    (pss_one (ps_expr (pe_bm PySem.F.plainAttrs_list PySem.F.slot_list_append PySem.F.type_list_append mt_append (pv 7) (pa_cons (c_law_seal.pe hr (pa_cons (c_law_text.pe hr (pa_cons (pe_ix ix_lM (pv 6) (pe_op op_sub (B.len_q (pa_cons (pv 6) pa_nil)) pe_int) (fun _ _ => rfl)) pa_nil)) (pa_cons (pv 12) pa_nil))) pa_nil)))))) (pss_one (ps_if (pt_not (pt_val (c_law_counts.pe hr (pa_cons (m_Seals_count.pe0 hr (pv 2)) (pa_cons (pv 11) pa_nil))))) (pss_one (ps_ret pe_bl)) pss_nil)))
    (C8.pss_cut (ps_if (pt_not (pt_val (c_law_holds.pe hr (pa_cons (pv 5) (pa_cons (pv 6) (pa_cons (pv 7) pa_nil)))))) (pss_one (ps_ret pe_bl)) pss_nil)
    (pss_one (ps_expr (m_Workshop_put.pex hr passGL (pv 5) (pa_cons pe_str (pa_cons pe_str (pa_cons pe_str pa_nil))))))))))))))))))))
    (pss_one (ps_ret (c_law_holds.pe hr (pa_cons (pv 5) (pa_cons (pv 6) (pa_cons (pv 7) pa_nil)))))))))))))), ?_⟩
  have e12 : (10 : Int) ^ Int.toNat 12 = 1000000000000 := by decide
  have lim : sizeLine = 16777216 := sizeLine_eq
  refine ⟨fun σ H' => ∃ st, σ = [some (.ref a), some (.ref st), none, none, none, none, none, none, none, none, none, none, none] ∧ LT Ts st H H', ?_, fun σ H1 ⟨st, hσ, L1⟩ => ?_⟩
  · walk_at "wq"
    exact ⟨a, ns, 0, rfl, hS, _, rfl, fun st hst a0 b0 => ⟨st, rfl, LT.first hT hst⟩⟩
  subst hσ
  walk_at "wq"
  intro off dx n1 n2 n3
  refine ⟨off, dx, rfl, upd_same, fun dm H2 hd nm O1 k1 => ⟨rfl, ?_⟩⟩
  have K1 := mk_kp n1 n2 n3 k1
  have Z2 : SO Ts CO H st off dm [] H2 := ⟨L1.kp0 K1, O1, L1.free (mk_none hd)⟩
  have fo : H off = none := L1.free n1
  clear K1 k1 hd nm n1 n2 n3 O1 L1
  refine ⟨fun σ H' => ∃ rv rs, σ = [some (.ref a), some (.ref st), some (.ref off), some rv, none, none, none, none, none, none, none, none, none] ∧ Z61 Ts CO H st off dm rv rs H', ?_, fun σ H3 ⟨rv, rs, hσ, Z3⟩ => ?_⟩
  · walk_at "wq"
    exact ⟨st, rfl, Z2.L.s, fun p rs H3 R l h k s => ⟨rs, Z2.take k s, R, l, h, fo⟩⟩
  subst hσ
  refine ⟨fun σ H' => ∃ e, σ = [some (.ref a), some (.ref st), some (.ref off), some rv, some (.int e), none, none, none, none, none, none, none, none] ∧ 0 ≤ e ∧ e ≤ 1000000000000 ∧ Z61 Ts CO H st off dm rv rs H', ?_, fun σ H4 ⟨e, hσ, e0, e1, Z4⟩ => ?_⟩
  · walk_at "wq"
    exact ⟨st, rfl, Z3.Z.L.s, fun e H4 e0 e1 k s => ⟨e, rfl, e0, e1, Z3.take k s⟩⟩
  subst hσ
  have hr4 := roles_ok Z4.l fun r m => (Z4.h r m).2
  have ok4 : okD 10 (.tuple rs) = true := ok_mono 4 10 _ (by decide) (in_ok _ _ Z4.inR)
  refine ⟨fun σ H' => ∃ o A, σ = [some (.ref a), some (.ref st), some (.ref off), some rv, some (.int e), some (.ref o), none, none, none, none, none, none, none] ∧ Wsh C CD CO o off dm A ((Wst.new []).charter (chN 1 (.int e) (.tuple rs)) []) H' ∧ Rq H' rv (.tuple rs) ∧ Tabs Ts H' ∧ Kp Ts H H', ?_, fun σ H5 ⟨o, A, hσ, W5, R5, g5, k5⟩ => ?_⟩
  · walk_at "wq"
    intro x dx n1 n2 n3
    have kN : Kp [] H4 (upd (upd H4 dx (.own x)) x (.ins C dx [])) := (Kp.new n2 _).trans (Kp.new (by rw [upd_ne n3.symm]; exact n1) _)
    have nx : off ≠ x := let ⟨_, e⟩ := Z4.Z.O.ob; ne_of_none e n1
    have ZN := Z4.kp0 kN
    refine ⟨x, dx, off, dm, [], rv, .int e, .tuple rs, .int e, rfl, upd_same, ZN.Z.O, nx, Nat.zero_le _, ZN.R, .int e, ok4, ZN.Z.L.g, fun h => ?_, fun h1 h2 => ?_, fun _ _ => ⟨in_pur _ _ Z4.inR, fun A HA own k9 g9 W => ⟨rfl, A, W, ZN.R.pure k9 (in_pur _ _ Z4.inR), g9, ?_⟩⟩⟩
    · rw [hr4] at h; cases h
    · rw [num_ok e0 e1] at h2; cases h2
    · exact Kp.drop Z4.Z.f1 (Kp.drop (Z4.Z.L.free n1) (((ZN.Z.L.k.mono fun b m => by simp [m])).trans k9))
  subst hσ
  refine ⟨fun σ H' => ∃ la cv, σ = [some (.ref a), some (.ref st), some (.ref off), some rv, some (.int e), some (.ref o), some (.ref la), none, none, none, none, none, none] ∧ H' la = some (.lst [cv]) ∧ Rq H' cv (chN 1 (.int e) (.tuple rs)) ∧ la ∉ A.all o off dm ∧ Wsh C CD CO o off dm A ((Wst.new []).charter (chN 1 (.int e) (.tuple rs)) []) H' ∧ Rq H' rv (.tuple rs) ∧ Tabs Ts H' ∧ Kp Ts H H', ?_, fun σ H6 ⟨la, cv, hσ, e6, r6, n6, W6, R6, g6, k6⟩ => ?_⟩
  · walk_at "wq"
    refine ⟨by omega, fun p hp => ⟨by omega, fun la hla => ?_⟩⟩
    have ka := Kp.new (S := []) hp (.tup [V.str (Str.ofString "charter"), V.int 1, V.int e, rv])
    have kb := Kp.new (S := []) hla (.lst [V.ref p])
    have kab := ka.trans kb
    refine ⟨.tup (kb.tup _ _ upd_same) (.cons (.str _) (.cons (.int _) (.cons (.int _) (.cons (R5.kp0 kab) .nil)))), fun m => ?_, W5.kp0 kab, R5.kp0 kab, g5.kp0 kab, k5.trans kab.in0⟩
    obtain ⟨u, eu, _⟩ := (W5.kp0 ka).val la m
    rw [hla] at eu; cases eu
  subst hσ
  have hC1 := ch_new (n := 1) (Nat.le_refl _) (by decide) (num_ok e0 e1) hr4
  have hdoc1 : isDoc (chN 1 (.int e) (.tuple rs)) = true := by unfold isDoc; rw [hC1]; rfl
  have sz1 := doc_sz hdoc1
  obtain ⟨kk1, ka1, kl1⟩ := KR_ok hr4
  have u32 : (uq (KR (.tuple rs))).length ≤ 32 := Nat.le_trans (uq_len _) (by omega)
  refine ⟨fun σ H' => ∃ lt, σ = [some (.ref a), some (.ref st), some (.ref off), some rv, some (.int e), some (.ref o), some (.ref la), some (.ref lt), none, none, none, none, none] ∧ H' la = some (.lst [cv]) ∧ H' lt = some (.lst [V.str (sealS (chN 1 (.int e) (.tuple rs)) (KR (.tuple rs)))]) ∧ Rq H' cv (chN 1 (.int e) (.tuple rs)) ∧ la ∉ A.all o off dm ∧ lt ∉ A.all o off dm ∧ la ≠ lt ∧ Wsh C CD CO o off dm A ((Wst.new []).charter (chN 1 (.int e) (.tuple rs)) []) H' ∧ Rq H' rv (.tuple rs) ∧ Tabs Ts H' ∧ Kp Ts H H', ?_, fun σ H7 ⟨lt, hσ, e7, f7, r7, n7, m7, ne7, W7, R7, g7, k7⟩ => ?_⟩
  · walk_at "wq"
    refine ⟨_, e6, _, at0, cv, _, rfl, r6.rep 8 sz1.1, sz1.1, doc_sml hdoc1, by have := sz1.2; unfold szT at this; omega, fun HX kx => ?_⟩
    obtain ⟨p, xs, p1, ys, p2, rfl, f1, a1, f2, a2, f3⟩ := role0 (R6.kp0 kx) hr4
    refine ⟨p, rfl, xs, f1, _, a1, p1, rfl, ys, f2, _, a2, p2, rfl, _, .inr (SqT.of f3), fun l hl => ?_⟩
    have kn := Kp.new (S := []) hl (.lst ((KR (.tuple rs)).map V.str))
    refine ⟨tx (chN 1 (.int e) (.tuple rs)), l, KR (.tuple rs), rfl, SqL.of upd_same, by omega, kk1, u32, tx_prn hdoc1, tx_len hdoc1, fun HY ky => ⟨by omega, fun lt hlt => ?_⟩⟩
    have kt := Kp.new (S := []) hlt (.lst [V.str (sealS (chN 1 (.int e) (.tuple rs)) (KR (.tuple rs)))])
    have kY := (kx.trans kn).trans ky
    have kk := kY.trans kt
    have eY := kY.keep _ _ List.not_mem_nil e6
    refine ⟨kk.keep _ _ List.not_mem_nil e6, rfl, r6.kp0 kk, n6, fun m => ?_, ne_of_none eY hlt, W6.kp0 kk, R6.kp0 kk, g6.kp0 kk, k6.trans kk.in0⟩
    obtain ⟨u, eu, _⟩ := (W6.kp0 kY).val lt m
    rw [hlt] at eu; cases eu
  subst hσ
  refine for_via61 (fun x H' => ∃ lp cs, x = .ref lp ∧ cs.length ≤ 12 ∧ (∀ v ∈ cs, ∃ i : Int, v = .int i) ∧ J61 Ts C CD CO o off dm A ((Wst.new []).charter (chN 1 (.int e) (.tuple rs)) []) la lt lp [chN 1 (.int e) (.tuple rs)] [sealS (chN 1 (.int e) (.tuple rs)) (KR (.tuple rs))] cs H') (fun R hR => ?_) (fun x H8 ⟨lp, cs, hx, lcs, hcs, j8⟩ => ?_)
  · walk_at "wq"
    refine ⟨a, _, rfl, k7.seqs hT hS, fun lp hlp => hR _ _ ⟨lp, cutV (ns.map V.int) (some 1) (some 13), rfl, cut13 _, fun v mv => ?_, ?_⟩⟩
    · obtain ⟨i, _, rfl⟩ := List.mem_map.mp (List.mem_of_mem_drop (List.mem_of_mem_take mv))
      exact ⟨i, rfl⟩
    have kl := Kp.new (S := []) hlp (.lst (cutV (ns.map V.int) (some 1) (some 13)))
    have pC1 := ch_newpu (n := 1) (num_ok e0 e1) (roles_pur hr4)
    have oC1 : okD 12 (chN 1 (.int e) (.tuple rs)) = true := ch_newok (by decide) (num_ok e0 e1) ok4
    obtain ⟨tp, tl⟩ := seal_pr hdoc1 u32 kk1
    have pb1 : pubN (chN 1 (.int e) (.tuple rs)) = nmC 1 := pub_ch
    have only : ∀ {i : Nat} {d : PyData}, [chN 1 (.int e) (.tuple rs)][i]? = some d → i = 0 ∧ d = chN 1 (.int e) (.tuple rs) := fun {i d} h => by
      match i, h with
      | 0, h => exact ⟨rfl, (Option.some.inj h).symm⟩
    have WL := W7.kp0 kl
    refine ⟨⟨WL, ⟨_, kl.keep _ _ List.not_mem_nil e7, .cons (r7.kp0 kl) .nil⟩, kl.keep _ _ List.not_mem_nil f7, rfl, ?_, rfl, Nat.le_refl _, (by show 1 ≤ 13; decide), fun i d h => ?_, fun t mt => ?_, fun i d h => ?_⟩, g7.kp0 kl, .inl rfl, ?_, fun b mb => ?_, ⟨ne7, ne_of_none e7 hlp, ne_of_none f7 hlp⟩, upd_same⟩
    · show putT [] (pubN (chN 1 (.int e) (.tuple rs))) (sealS (chN 1 (.int e) (.tuple rs)) ([] ++ KR (.tuple rs))) = _
      rw [pb1]; rfl
    · obtain ⟨rfl, rfl⟩ := only h
      exact ⟨hC1, oC1, pC1, pb1⟩
    · rw [List.mem_singleton.mp mt]; exact ⟨tp, tl⟩
    · obtain ⟨rfl, rfl⟩ := only h
      exact ⟨_, _, rfl, hr4⟩
    · show (madeA [] (tx (chN 1 (.int e) (.tuple rs))) (uq ([] ++ KR (.tuple rs)))).length ≤ 32 * 1
      have := madeA_len [] (tx (chN 1 (.int e) (.tuple rs))) (uq ([] ++ KR (.tuple rs)))
      rw [List.nil_append] at this ⊢
      rw [List.length_nil] at this
      omega
    · simp only [List.mem_cons, List.not_mem_nil, or_false] at mb
      rcases mb with rfl | rfl | rfl
      · exact n7
      · exact m7
      · intro m
        obtain ⟨u, eu, _⟩ := W7.val _ m
        rw [hlp] at eu; cases eu
  subst hx
  refine ⟨lp, rfl, ⟨_, SqL.of j8.ep⟩, ?_⟩
  refine for_list (K := K) (a := lp) (xs := cs) (fun i σ H' => (∃ x1 x3 x4 x8 x9 x10 x11 x12 : Option V, σ = [some (.ref a), x1, some (.ref off), x3, x4, some (.ref o), some (.ref la), some (.ref lt), x8, x9, x10, x11, x12]) ∧ ∃ s ds ts, ds.length ≤ i + 1 ∧ J61 Ts C CD CO o off dm A s la lt lp ds ts cs H') ⟨⟨_, _, _, _, _, _, _, _, rfl⟩, _, _, _, Nat.le_refl _, j8⟩ (fun i σ H' _ ⟨_, _, _, _, _, j⟩ => SqL.of j.ep) (fun i x σ H9 hi ⟨⟨x1, x3, x4, x8, x9, x10, x11, x12, hσ⟩, s, ds, ts, ln, j9⟩ => ?_) (fun σ H' ⟨⟨x1, x3, x4, x8, x9, x10, x11, x12, hσ⟩, s, ds, ts, ln, j⟩ => ?_)
  · subst hσ
    have hi12 : i < 12 := by have := (List.getElem?_eq_some_iff.mp hi).1; omega
    obtain ⟨ci, rfl⟩ := hcs x (List.mem_of_getElem? hi)
    refine ⟨fun σ H' => ∃ st, σ = [some (.ref a), some (.ref st), some (.ref off), x3, x4, some (.ref o), some (.ref la), some (.ref lt), some (.int ci), x9, x10, x11, x12] ∧ B61 Ts C CD CO o off dm A s la lt lp ds ts cs st H', ?_, fun σ HB1 ⟨st, hσ, b1⟩ => ?_⟩
    · walk_at "wq"
      exact ⟨ci, rfl, fun st hst a0 b0 => ⟨st, rfl, j9.new hst⟩⟩
    subst hσ
    obtain ⟨dl, hdl⟩ : ∃ dl, ds.getLast? = some dl := by
      have n1 := j9.c.n1
      cases ds with
      | nil => exact absurd n1 (by decide)
      | cons x r => exact ⟨_, List.getLast?_eq_getLast (by simp)⟩
    have n13 := j9.c.n2
    have n1 := j9.c.n1
    have hdx : ds[ds.length - 1]? = some dl := by rw [← List.getLast?_eq_getElem?]; exact hdl
    obtain ⟨dC, dO, dP, dN⟩ := j9.c.dk _ dl hdx
    obtain ⟨el, rl, hdl2, hrl⟩ := j9.c.vk _ dl hdx
    have hv : ds.length - 1 + 1 = ds.length := by omega
    rw [hv] at hdl2
    refine ⟨fun σ H' => ∃ bv, σ = [some (.ref a), some (.ref st), some (.ref off), x3, x4, some (.ref o), some (.ref la), some (.ref lt), some (.int ci), some bv, x10, x11, x12] ∧ Rq H' bv dl ∧ B61 Ts C CD CO o off dm A s la lt lp ds ts cs st H', ?_, fun σ HB2 ⟨bv, hσ, rb2, b2⟩ => ?_⟩
    · walk_at "wq"
      obtain ⟨us, ec, rc⟩ := b1.j.c.ec
      obtain ⟨x, hx, rx⟩ := rc.at (i := ds.length - 1) (by omega)
      have e9 : ds.getD (ds.length - 1) .none = dl := by rw [List.getD_eq_getElem?_getD, hdx]; rfl
      rw [e9] at rx
      exact ⟨us, .inl (SqL.of ec), us, ec, x, by rw [rc.len, show ((ds.length : Nat) : Int) - 1 = ((ds.length - 1 : Nat) : Int) by omega]; exact atI_nat hx, rx, b1⟩
    subst hσ
    refine ⟨fun σ H' => ∃ rv rs0, σ = [some (.ref a), some (.ref st), some (.ref off), some rv, x4, some (.ref o), some (.ref la), some (.ref lt), some (.int ci), some bv, x10, x11, x12] ∧ Rq H' rv (.tuple rs0) ∧ inD 4 (.tuple rs0) = true ∧ Rq H' bv dl ∧ B61 Ts C CD CO o off dm A s la lt lp ds ts cs st H', ?_, fun σ HB3 ⟨rv, rs0, hσ, rr3, ir3, rb3, b3⟩ => ?_⟩
    · walk_at "wq"
      exact ⟨st, rfl, b2.s, fun p rs H3 R l h k s => ⟨rs, R, in4 (by omega) fun d m => (h d m).1, rb2.pure k dP, b2.take k s⟩⟩
    subst hσ
    refine ⟨fun σ H' => ∃ e, σ = [some (.ref a), some (.ref st), some (.ref off), some rv, some (.int e), some (.ref o), some (.ref la), some (.ref lt), some (.int ci), some bv, x10, x11, x12] ∧ 0 ≤ e ∧ e ≤ 1000000000000 ∧ Rq H' rv (.tuple rs0) ∧ Rq H' bv dl ∧ B61 Ts C CD CO o off dm A s la lt lp ds ts cs st H', ?_, fun σ HB4 ⟨e, hσ, ee0, ee1, rr4, rb4, b4⟩ => ?_⟩
    · walk_at "wq"
      exact ⟨st, rfl, b3.s, fun e H4 a0 a1 k s => ⟨e, rfl, a0, a1, rr3.pure k (in_pur _ _ ir3), rb3.pure k dP, b3.take k s⟩⟩
    subst hσ
    refine ⟨fun σ H' => ∃ rv2 rd, σ = [some (.ref a), some (.ref st), some (.ref off), some rv2, some (.int e), some (.ref o), some (.ref la), some (.ref lt), some (.int ci), some bv, x10, x11, x12] ∧ Rs st H' rv2 rd ∧ okD 6 rd = true ∧ Rq H' bv dl ∧ B61 Ts C CD CO o off dm A s la lt lp ds ts cs st H', ?_, fun σ HB5 ⟨rv2, rd, hσ, rr5, ok5, rb5, b5⟩ => ?_⟩
    · walk_at "wq"
      refine ⟨st, 4, rfl, b4.s, ⟨by decide, by decide⟩, fun v H5 v0 v1 k5 s5 => ⟨rfl, ite_dec (fun _ => ?_) (fun _ => ⟨_, (rr4.pure k5 (in_pur _ _ ir3)).rs (in_pur _ _ ir3), ok_mono 4 6 _ (by decide) (in_ok _ _ ir3), rb4.pure k5 dP, b4.take k5 s5⟩)⟩⟩
      exact ⟨st, rv, .tuple rs0, rfl, s5, rr4.pure k5 (in_pur _ _ ir3), ir3, fun x d H6 r ok k s => ⟨d, r, ok, (rb4.pure k5 dP).pure k dP, (b4.take k5 s5).take k s⟩⟩
    subst hσ
    refine ⟨fun σ H' => ∃ ev ed, σ = [some (.ref a), some (.ref st), some (.ref off), some rv2, some ev, some (.ref o), some (.ref la), some (.ref lt), some (.int ci), some bv, x10, x11, x12] ∧ Rq H' ev ed ∧ purD ed = true ∧ Rq H' rv2 rd ∧ Rq H' bv dl ∧ B61 Ts C CD CO o off dm A s la lt lp ds ts cs st H', ?_, fun σ HB6 ⟨ev, ed, hσ, re6, pe6, rr6, rb6, b6⟩ => ?_⟩
    · walk_at "wq"
      refine ⟨st, 6, rfl, b5.s, ⟨by decide, by decide⟩, fun v H6 v0 v1 k6 s6 => ⟨rfl, ite_dec (fun _ => ?_) (fun _ => ⟨_, .int e, rfl, (rr5.kp k6).rq, rb5.pure k6 dP, b5.take k6 s6⟩)⟩⟩
      have pw : CPow 10 12 := ⟨by decide, by decide, by decide⟩
      rw [e12]
      refine ⟨pw, by omega, fun p hp => ?_⟩
      have kp := Kp.new (S := []) hp (.lst [V.int (-1), V.int (1000000000000 + 1), V.non, V.bl true, V.str (Str.ofString "7")])
      have bp := (b5.take k6 s6).kp0 kp
      have np : p ≠ st := fun z => by
        obtain ⟨x, y, e⟩ := s6
        rw [z, e] at hp; cases hp
      refine ⟨st, 5, rfl, bp.s, ⟨by decide, by decide⟩, fun v2 H7 w0 w1 k7 s7 => ?_⟩
      have ep := k7.keep p _ (by simpa using np) upd_same
      obtain ⟨x, ex, d, rd', pd⟩ : ∃ x, atI [V.int (-1), V.int (1000000000000 + 1), V.non, V.bl true, V.str (Str.ofString "7")] v2 = some x ∧ ∃ d, Rq H7 x d ∧ purD d = true := by
        have : v2 = 0 ∨ v2 = 1 ∨ v2 = 2 ∨ v2 = 3 ∨ v2 = 4 := by omega
        rcases this with rfl | rfl | rfl | rfl | rfl
        · exact ⟨_, rfl, _, .int _, rfl⟩
        · exact ⟨_, rfl, _, .int _, rfl⟩
        · exact ⟨_, rfl, _, .non, rfl⟩
        · exact ⟨_, rfl, _, .bl _, rfl⟩
        · exact ⟨_, rfl, _, .str _, rfl⟩
      exact ⟨_, ep, v2, rfl, x, ex, d, rd', pd, (((rr5.kp k6).kp0 kp).kp k7).rq, ((rb5.pure k6 dP).kp0 kp).pure k7 dP, bp.take k7 s7⟩
    subst hσ
    refine ⟨fun σ H' => σ = [some (.ref a), some (.ref st), some (.ref off), some rv2, some ev, some (.ref o), some (.ref la), some (.ref lt), some (.int ci), some bv, some (.str (dn61 ed)), x11, x12] ∧ Rq H' ev ed ∧ Rq H' rv2 rd ∧ Rq H' bv dl ∧ B61 Ts C CD CO o off dm A s la lt lp ds ts cs st H', ?_, fun σ HB7 ⟨hσ, re7, rr7, rb7, b7⟩ => ?_⟩
    · walk_at "wq"
      refine ⟨ev, ed, 0, rfl, re6, _, rfl, ?_⟩
      cases c : numB 0 1000000000000 ed with
      | true => exact if_no (by decide) ⟨by unfold dn61; rw [if_pos c], re6, rr6, rb6, b6⟩
      | false => exact if_yes rfl ⟨by unfold dn61; rw [if_neg (by rw [c]; decide)], re6, rr6, rb6, b6⟩
    subst hσ
    refine ⟨fun σ H' => σ = [some (.ref a), some (.ref st), some (.ref off), some rv2, some ev, some (.ref o), some (.ref la), some (.ref lt), some (.int ci), some bv, some (.str (due61 rd ed)), x11, x12] ∧ Rq H' ev ed ∧ Rq H' rv2 rd ∧ Rq H' bv dl ∧ B61 Ts C CD CO o off dm A s la lt lp ds ts cs st H', ?_, fun σ HB8 ⟨hσ, re8, rr8, rb8, b8⟩ => ?_⟩
    · walk_at "wq"
      refine ⟨rv2, rd, rfl, rr7, ok_mono 6 12 _ (by decide) ok5, _, rfl, ?_⟩
      cases c : isRoles rd with
      | true => exact if_no (by decide) ⟨by unfold due61 dn61; rw [if_pos c], re7, rr7, rb7, b7⟩
      | false => exact if_yes rfl ⟨(due61_r c).symm, re7, rr7, rb7, b7⟩
    subst hσ
    refine ⟨fun σ H' => σ = [some (.ref a), some (.ref st), some (.ref off), some rv2, some ev, some (.ref o), some (.ref la), some (.ref lt), some (.int ci), some bv, some (.str (due61 rd ed)), some (.int (s.mde.length : Nat)), x12] ∧ Rq H' ev ed ∧ Rq H' rv2 rd ∧ Rq H' bv dl ∧ B61 Ts C CD CO o off dm A s la lt lp ds ts cs st H', ?_, fun σ HB9 ⟨hσ, re9, rr9, rb9, b9⟩ => ?_⟩
    · walk_at "wq"
      obtain ⟨dxo, ho1⟩ := b8.j.c.W.of.ob
      exact ⟨_, _, ho1, rfl, off, dm, s.mde, rfl, b8.j.c.W.of, rfl, re8, rr8, rb8, b8⟩
    subst hσ
    have lc := j9.c.chs
    have lt' := j9.c.l
    have mm := j9.mm
    have tl := j9.c.txs
    refine ⟨fun σ H' => σ = [some (.ref a), some (.ref st), some (.ref off), some rv2, some ev, some (.ref o), some (.ref la), some (.ref lt), some (.int ci), some bv, some (.str (due61 rd ed)), some (.int (s.mde.length : Nat)), x12] ∧ ((isRoles rd = true ∧ numB 0 1000000000000 ed = true ∧ T61 Ts C CD CO o off dm A (s.charter (chN (ds.length + 1) ed rd) (s.keys 0)) la lt lp ds ts cs rv2 ev bv rd ed dl H') ∨ ((isRoles rd = false ∨ numB 0 1000000000000 ed = false) ∧ J61 Ts C CD CO o off dm A s la lt lp ds ts cs H')), ?_, fun σ HBA ⟨hσ, hT⟩ => ?_⟩
    · walk_at "wq"
      refine ⟨o, off, dm, A, s, rv2, ev, rd, ed, dl, rfl, b9.j.c.W, rr9, re9, ok_mono 6 10 _ (by decide) ok5, (by rw [lc]; exact hdl), dC, by omega, (by rw [tl, nt_len]; omega), by rw [lc]; omega, b9.j.g, fun h1 HX k g => ?_, fun h1 h2 HX k g => ?_, fun h1 h2 => ⟨roles_pur h1, fun HX k g W => ?_⟩⟩
      · rw [due61_r h1]
        exact ⟨rfl, if_no (fun h => h rfl) (.inr ⟨.inl h1, b9.j.tabs k g⟩)⟩
      · rw [due61_e h1 h2]
        exact ⟨rfl, if_no (fun h => h rfl) (.inr ⟨.inr h2, b9.j.tabs k g⟩)⟩
      · rw [due61_o h1 h2]
        refine ⟨rfl, if_no (fun h => h rfl) (.inl ⟨h1, h2, ?_⟩)⟩
        rw [lc] at W
        have kn : ∀ {b : Addr} {u : HO}, HB9 b = some u → b ∉ A.all o off dm → (∀ ps, u ≠ .tbl ps) → HX b = some u := fun {b u} e n nt => k.keep _ _ (fun m => by
          simp only [List.mem_cons] at m
          rcases m with e | e | e | m
          · exact n (by rw [e]; unfold WA.all WA.wl; simp)
          · exact n (by rw [e]; unfold WA.all WA.wd; simp)
          · exact n (by rw [e]; unfold WA.all; simp)
          · exact b9.j.g.ne e nt m) e
        obtain ⟨us, ec, rc⟩ := b9.j.c.ec
        obtain ⟨_, _⟩ := num_int h2
        refine ⟨W, ⟨us, kn ec (b9.j.nX _ (by simp)) (fun _ z => by cases z), rc.pure k j9.c.pur⟩, kn b9.j.c.et (b9.j.nX _ (by simp)) (fun _ z => by cases z), kn b9.j.ep (b9.j.nX _ (by simp)) (fun _ z => by cases z), g, rr9.pure k (roles_pur h1), re9.pure k pe6, rb9.pure k dP⟩
    subst hσ
    refine ⟨fun σ H' => ∃ x1 x3 x4 x9 x10 x11 x12 s2 ds2 ts2, σ = [some (.ref a), x1, some (.ref off), x3, x4, some (.ref o), some (.ref la), some (.ref lt), some (.int ci), x9, x10, x11, x12] ∧ ds2.length ≤ i + 2 ∧ J61 Ts C CD CO o off dm A s2 la lt lp ds2 ts2 cs H', ?_, fun σ HBB ⟨x1, x3, x4, x9, x10, x11, x12, s2, ds2, ts2, hσ, l2, j2⟩ => ?_⟩
    · rcases hT with ⟨h1, h2, T⟩ | ⟨hb, j⟩
      · walk_at "wq"
        rw [due61_o h1 h2]
        refine if_yes rfl ?_
        have hN := ch_new (n := ds.length + 1) (by omega) (by omega) h2 h1
        have hNd : isDoc (chN (ds.length + 1) ed rd) = true := by unfold isDoc; rw [hN]; rfl
        have pN := ch_newpu (n := ds.length + 1) h2 (roles_pur h1)
        have oN : okD 12 (chN (ds.length + 1) ed rd) = true := ch_newok (by omega) h2 (ok_mono 6 10 _ (by decide) ok5)
        have szN := doc_sz hNd
        obtain ⟨kl1, kl2, kl3⟩ := KR_ok hrl
        obtain ⟨kd1, kd2, kd3⟩ := KR_ok h1
        have ky : ∀ k ∈ KR rl ++ KR rd, kyS k = true := fun k m => (List.mem_append.mp m).elim (kl1 k) (kd1 k)
        have u32 : (uq (KR rl ++ KR rd)).length ≤ 32 := Nat.le_trans (uq_len _) (by rw [List.length_append]; omega)
        refine ⟨fun σ H' => σ = [some (.ref a), some (.ref st), some (.ref off), some rv2, some ev, some (.ref o), some (.ref la), some (.ref lt), some (.int ci), some bv, some (.str (Str.ofString "")), some (.int (s.mde.length : Nat)), x12] ∧ T61 Ts C CD CO o off dm A (s.charter (chN (ds.length + 1) ed rd) (s.keys 0)) la lt lp (ds ++ [(chN (ds.length + 1) ed rd)]) ts cs rv2 ev bv rd ed dl H', ?_, fun σ HC1 ⟨hσ, T2⟩ => ?_⟩
        · walk_at "wq"
          obtain ⟨us, ela, rus⟩ := T.ec
          obtain ⟨p, xs, rfl, ep, _, _, x, hx, rx⟩ := T.rb.part (ch_tup dC) (i := 1) (by omega)
          rw [hdl2] at rx
          have rx : Rq HBA x (.int (ds.length : Nat)) := rx
          cases rx
          refine ⟨.inl ⟨rfl, _, SqL.of ela⟩, p, rfl, xs, ep, _, hx, _, rfl, by omega, fun n hn => ?_⟩
          rw [show ((ds.length : Nat) : Int) + 1 = ((ds.length + 1 : Nat) : Int) by omega]
          have kn := Kp.new (S := []) hn (.tup [V.str (Str.ofString "charter"), V.int ((ds.length + 1 : Nat) : Int), ev, rv2])
          have ela' := kn.keep _ _ List.not_mem_nil ela
          have kl : Kp [la] _ (upd (upd HBA n (.tup [V.str (Str.ofString "charter"), V.int ((ds.length + 1 : Nat) : Int), ev, rv2])) la (.lst (us ++ [.ref n]))) := Kp.lst ela' (List.mem_singleton.mpr rfl)
          have rN : Rq (upd HBA n (.tup [V.str (Str.ofString "charter"), V.int ((ds.length + 1 : Nat) : Int), ev, rv2])) (.ref n) (chN (ds.length + 1) ed rd) := .tup upd_same (.cons (.str _) (.cons (.int _) (.cons (T.re.kp0 kn) (.cons (T.rr.kp0 kn) .nil))))
          refine ⟨us, ela', by rw [rus.len]; omega, ?_⟩
          have one : ∀ {b : Addr}, b ≠ la → b ∉ [la] := fun h m => h (List.mem_singleton.mp m)
          exact ⟨(T.W.kp0 kn).kp kl fun b mb z => (j9.nX la (by simp)) (by rw [← List.mem_singleton.mp z]; exact mb), ⟨_, upd_same, ((rus.kp0 kn).pure kl j9.c.pur).app (.cons (rN.pure kl pN) .nil)⟩, kl.keep _ _ (one j9.nn.1.symm) (kn.keep _ _ List.not_mem_nil T.et), kl.keep _ _ (one j9.nn.2.1.symm) (kn.keep _ _ List.not_mem_nil T.ep), (T.g.kp0 kn).kp kl (fun P mP mo => absurd mP (by rw [List.mem_singleton.mp mo]; exact (T.g.kp0 kn).ne ela' fun ps z => by cases z)), (T.rr.kp0 kn).pure kl (roles_pur h1), (T.re.kp0 kn).pure kl pe6, (T.rb.kp0 kn).pure kl dP⟩
        subst hσ
        refine ⟨fun σ H' => ∃ kl, σ = [some (.ref a), some (.ref st), some (.ref off), some rv2, some ev, some (.ref o), some (.ref la), some (.ref lt), some (.int ci), some bv, some (.str (Str.ofString "")), some (.int (s.mde.length : Nat)), some (.ref kl)] ∧ H' kl = some (.lst ((KR rl ++ KR rd).map V.str)) ∧ T61 Ts C CD CO o off dm A (s.charter (chN (ds.length + 1) ed rd) (s.keys 0)) la lt lp (ds ++ [(chN (ds.length + 1) ed rd)]) ts cs rv2 ev bv rd ed dl H', ?_, fun σ HC2 ⟨kl, hσ, ek, T3⟩ => ?_⟩
        · walk_at "wq"
          obtain ⟨p, xs, rfl, ep, _, _, x, hx, rx⟩ := T2.rb.part (ch_tup dC) (i := 3) (by omega)
          rw [hdl2] at rx
          have rx : Rq HC1 x rl := rx
          obtain ⟨p1, xs1, p2, ys1, p3, rfl, f1, a1, f2, a2, f3⟩ := role0 rx hrl
          obtain ⟨q1, zs, q2, ws, q3, eq1, g1, b1', g2, b2', g3⟩ := role0 T2.rr h1
          refine ⟨p, rfl, xs, ep, _, hx, p1, rfl, xs1, f1, _, a1, p2, rfl, ys1, f2, _, a2, p3, rfl, _, .inr (SqT.of f3), fun l hl => ?_⟩
          have kn := Kp.new (S := []) hl (.lst ((KR rl).map V.str))
          refine ⟨q1, eq1, zs, kn.tup _ _ g1, _, b1', q2, rfl, ws, kn.tup _ _ g2, _, b2', q3, rfl, _, .inr (SqT.of (kn.tup _ _ g3)), fun l2 hl2 => ?_⟩
          have kn2 := Kp.new (S := []) hl2 (.lst ((KR rd).map V.str))
          refine ⟨l, l2, _, _, rfl, rfl, kn2.keep _ _ List.not_mem_nil upd_same, upd_same, by rw [List.length_map, List.length_map]; omega, fun l3 hl3 => ?_⟩
          have kn3 := Kp.new (S := []) hl3 (.lst ((KR rl).map V.str ++ (KR rd).map V.str))
          have kk := (kn.trans kn2).trans kn3
          obtain ⟨us, ela, rus⟩ := T2.ec
          exact ⟨l3, rfl, by rw [upd_same, List.map_append], T2.W.kp0 kk, ⟨us, kk.keep _ _ List.not_mem_nil ela, rus.kp0 kk⟩, kk.keep _ _ List.not_mem_nil T2.et, kk.keep _ _ List.not_mem_nil T2.ep, T2.g.kp0 kk, T2.rr.kp0 kk, T2.re.kp0 kk, T2.rb.kp0 kk⟩
        subst hσ
        walk_at "wq"
        obtain ⟨us, ela, rus⟩ := T3.ec
        have lus := rus.len
        rw [List.length_append, List.length_singleton] at lus
        obtain ⟨x, hx, rx⟩ := rus.at (i := ds.length) (by rw [List.length_append, List.length_singleton]; omega)
        have eN : (ds ++ [chN (ds.length + 1) ed rd]).getD ds.length .none = chN (ds.length + 1) ed rd := by simp
        rw [eN] at rx
        refine ⟨.inl ⟨rfl, _, SqL.of T3.et⟩, us, .inl (SqL.of ela), us, ela, x, by rw [lus, show ((ds.length + 1 : Nat) : Int) - 1 = ((ds.length : Nat) : Int) by omega]; exact atI_nat hx, x, _, rfl, rx.rep 8 szN.1, szN.1, doc_sml hNd, by have := szN.2; unfold szT at this; omega, fun HX kx => ?_⟩
        refine ⟨tx (chN (ds.length + 1) ed rd), kl, KR rl ++ KR rd, rfl, SqL.of (kx.keep _ _ List.not_mem_nil ek), by rw [List.length_append]; omega, ky, u32, tx_prn hNd, tx_len hNd, fun HY kY => ?_⟩
        have kk := kx.trans kY
        have et := kk.keep _ _ List.not_mem_nil T3.et
        have kw : Kp [lt] HY (upd HY lt (.lst (ts.map V.str ++ [V.str (sealS (chN (ds.length + 1) ed rd) (KR rl ++ KR rd))]))) := Kp.lst et (List.mem_singleton.mpr rfl)
        have one : ∀ {b : Addr}, b ≠ lt → b ∉ [lt] := fun h m => h (List.mem_singleton.mp m)
        have pD : purDs (ds ++ [chN (ds.length + 1) ed rd]) = true := purDs_all.mpr fun d m => by
          rcases List.mem_append.mp m with m | m
          · exact purDs_all.mp j9.c.pur d m
          · rw [List.mem_singleton.mp m]; exact pN
        have k0 : s.keys 0 = KR rl := by
          rw [keys_last (d := dl) (by rw [lc]; exact hdl), hdl2]; rfl
        obtain ⟨tp, tl'⟩ := seal_pr hNd u32 ky
        have pb : pubN (chN (ds.length + 1) ed rd) = nmC (1 + ts.length) := by
          rw [pub_ch, show ds.length + 1 = 1 + ts.length by omega]; rfl
        refine ⟨ts.map V.str, et, by rw [List.length_map]; omega, (s.charter (chN (ds.length + 1) ed rd) (s.keys 0)), ds ++ [chN (ds.length + 1) ed rd], by rw [List.length_append, List.length_singleton]; omega, ts ++ [sealS (chN (ds.length + 1) ed rd) (KR rl ++ KR rd)], ?_⟩
        refine ⟨⟨(T3.W.kp0 kk).kp kw fun b mb z => j9.nX lt (by simp) (by rw [← List.mem_singleton.mp z]; exact mb), ⟨us, kw.keep _ _ (one j9.nn.1) (kk.keep _ _ List.not_mem_nil ela), (rus.kp0 kk).pure kw pD⟩, by rw [upd_same, List.map_append]; rfl, ?_, ?_, by rw [List.length_append, List.length_append, lt']; rfl, by rw [List.length_append, List.length_singleton]; omega, by rw [List.length_append, List.length_singleton]; omega, fun j d h => ?_, fun t mt => ?_, fun j d h => ?_⟩, (T3.g.kp0 kk).kp kw (fun P mP mo => absurd mP (by rw [List.mem_singleton.mp mo]; exact (T3.g.kp0 kk).ne et fun ps z => by cases z)), j9.fl, ?_, j9.nX, j9.nn, kw.keep _ _ (one j9.nn.2.2.symm) (kk.keep _ _ List.not_mem_nil T3.ep)⟩
        · show s.chs ++ [_] = _
          rw [lc]
        · show putT s.txs (pubN (chN (ds.length + 1) ed rd)) (sealS (chN (ds.length + 1) ed rd) (s.keys 0 ++ KR rd)) = _
          rw [pb, k0, tl]
          exact nt_put (by omega)
        · by_cases c : j < ds.length
          · rw [List.getElem?_append_left c] at h
            exact j9.c.dk j d h
          · rw [List.getElem?_append_right (by omega)] at h
            obtain ⟨e1', rfl⟩ : j - ds.length = 0 ∧ chN (ds.length + 1) ed rd = d := by
              match hj : j - ds.length, h with
              | 0, h => exact ⟨rfl, Option.some.inj h⟩
            have ej : j = ds.length := by omega
            rw [ej]
            exact ⟨hN, oN, pN, by rw [pub_ch]; rfl⟩
        · rcases List.mem_append.mp mt with m | m
          · exact j9.c.tk t m
          · rw [List.mem_singleton.mp m]; exact ⟨tp, tl'⟩
        · by_cases c : j < ds.length
          · rw [List.getElem?_append_left c] at h
            exact j9.c.vk j d h
          · rw [List.getElem?_append_right (by omega)] at h
            obtain ⟨e1', rfl⟩ : j - ds.length = 0 ∧ chN (ds.length + 1) ed rd = d := by
              match hj : j - ds.length, h with
              | 0, h => exact ⟨rfl, Option.some.inj h⟩
            have ej : j = ds.length := by omega
            rw [ej]
            exact ⟨ed, rd, rfl, h1⟩
        · show (madeA s.mde (tx (chN (ds.length + 1) ed rd)) (uq (s.keys 0 ++ KR rd))).length ≤ 32 * (ds ++ [chN (ds.length + 1) ed rd]).length
          have := madeA_len s.mde (tx (chN (ds.length + 1) ed rd)) (uq (s.keys 0 ++ KR rd))
          rw [k0] at this ⊢
          rw [List.length_append, List.length_singleton]
          omega
      · walk_at "wq"
        have nd : ¬ V.str (due61 rd ed) = V.str (Str.ofString "") := fun z => by
          rcases hb with h | h
          · rw [due61_r h] at z; exact absurd (V.str.inj z) (by decide +kernel)
          · cases c : isRoles rd with
            | true => rw [due61_e c h] at z; exact absurd (V.str.inj z) (by decide +kernel)
            | false => rw [due61_r c] at z; exact absurd (V.str.inj z) (by decide +kernel)
        obtain ⟨dxo, ho1⟩ := j.c.W.of.ob
        exact if_no (fun z => nd (by rw [z])) ⟨_, _, ho1, rfl, off, dm, _, rfl, j.c.W.of, _, _, rfl, _, rfl, if_no (by rw [decide_eq_true rfl]; decide) ⟨_, _, by omega, _, j⟩⟩
    subst hσ
    refine ⟨fun σ H' => ∃ x1 x3 x4 x9 x10 x11 x12, σ = [some (.ref a), x1, some (.ref off), x3, x4, some (.ref o), some (.ref la), some (.ref lt), some (.int ci), x9, x10, x11, x12] ∧ J61 Ts C CD CO o off dm A s2 la lt lp ds2 ts2 cs H', ?_, fun σ HBC ⟨x1, x3, x4, x9, x10, x11, x12, hσ, j3⟩ => ?_⟩
    · walk_at "wq"
      exact ⟨o, off, dm, A, s2, la, lt, ds2, ts2, rfl, j2.c, j2.g, fun HX k g => ⟨true, rfl, if_no (by decide) (j2.tabs k g)⟩⟩
    subst hσ
    walk_at "wq"
    obtain ⟨dxo, evo, ho3, _⟩ := j3.c.W.ob
    obtain ⟨us, ec, rc⟩ := j3.c.ec
    refine ⟨_, _, ho3, rfl, o, off, dm, A, s2, .str (Str.ofString "list"), .str (Str.ofString "a"), .str (Str.ofString "b"), rfl, j3.c.W, j3.g, ⟨_, rfl⟩, ⟨_, rfl⟩, (by show (Str.ofString "a").length ≤ sizeLine; rw [lim]; decide), ⟨_, rfl⟩, fun z hz => (by rw [← V.str.inj hz]; decide), fun p hp => ?_, fun r hr => ?_, fun d' hd HX k g W => ?_⟩
    · rcases j3.fl with h | h
      · rw [h] at hp; rw [List.mem_singleton.mp hp]; exact Nat.zero_le _
      · rw [h] at hp; rw [List.mem_singleton.mp hp]; exact (by decide : 1 ≤ 100000)
    · have hr : dputF s2.drf (.str kL) (.str (Str.ofString "a")) (.str (Str.ofString "b")) = .error r := hr
      rw [put61 j3.fl] at hr; cases hr
    · have hd : dputF s2.drf (.str kL) (.str (Str.ofString "a")) (.str (Str.ofString "b")) = .ok d' := hd
      rw [put61 j3.fl] at hd
      cases hd
      have kn : ∀ {b : Addr} {u : HO}, HBC b = some u → b ∉ A.all o off dm → (∀ ps, u ≠ .tbl ps) → HX b = some u := fun {b u} e n nt => k.keep _ _ (fun m => by
        rcases List.mem_append.mp m with m | m
        · exact n (by unfold WA.all WA.wd; simp [m])
        · exact j3.g.ne e nt m) e
      exact ⟨⟨_, rfl⟩, _, ds2, l2, ts2, ⟨⟨W, ⟨us, kn ec (j3.nX _ (by simp)) (fun _ z => by cases z), rc.pure k j3.c.pur⟩, kn j3.c.et (j3.nX _ (by simp)) (fun _ z => by cases z), j3.c.chs, j3.c.txs, j3.c.l, j3.c.n1, j3.c.n2, j3.c.dk, j3.c.tk, j3.c.vk⟩, g, .inr rfl, j3.mm, j3.nX, j3.nn, kn j3.ep (j3.nX _ (by simp)) (fun _ z => by cases z)⟩⟩
  · subst hσ
    walk_at "wq"
    exact ⟨o, off, dm, A, s, la, lt, ds, ts, rfl, j.c, j.g, fun H' k g => q H'⟩
end
/-! errors that keep a reason, made where an error is handled or where none is -/
abbrev s_BadAct___init : Stmt := inClass (top 11) 0
abbrev N_BadAct___init : List Str := ["self", "reason"]
theorem sc_BadAct___init : FnScope N_BadAct___init ["self", "reason"] (defScope s_BadAct___init) := ⟨rfl, rfl, rfl, by decide +kernel, rfl, by decide +kernel, by decide +kernel⟩
section
variable {P : Program} {w : World} {K : PySem.W.Frag} {mg : Str → Option Value} {base : Heap} {f : Addr} {fd : FuncData}
theorem ok_rin_BadAct (F : Fun K "__init__" "BadAct.__init__" s_BadAct___init f fd) : FnOk P w K mg base CX0 1 f fd ["self", "reason"] (spRin K) := by
  refine F.ok sc_BadAct___init (fun vs H Q E h => ?_) (fun cdv A outer s H vs Q E hr h => ?_)
  · obtain ⟨a, C, z, rfl, _⟩ := h; rfl
  obtain ⟨a, C, z, rfl, ha, T, hno, q⟩ := h
  exact ⟨_, pss_one (ps_ost (pv 0) (pv 1)), _, rfl, _, rfl, a, C, rfl, T, hno, .inl ⟨ha, q⟩⟩
theorem okh_rin_BadAct (F : Fun K "__init__" "BadAct.__init__" s_BadAct___init f fd) : FnG P w K mg base 1 f fd ["self", "reason"] (spRin K) := by
  refine fn_handled F sc_BadAct___init (fun vs H Q E h => ?_) (fun cdv A outer s H vs Q E p hr h => ?_)
  · obtain ⟨a, C, z, rfl, _⟩ := h; rfl
  obtain ⟨a, C, z, rfl, ha, T, hno, q⟩ := h
  exact ⟨_, pss_one (ps_ost (pv 0) (pv 1)), _, rfl, _, rfl, a, C, rfl, T, hno, .inl ⟨ha, q⟩⟩
end
open PySem.Spec PyProof.Rows in
theorem all_mk {l : PySem.W.OpenLaw} {q : Program} {lo : List Str} {mean : ExcName → Option Value} {w : World} {K : PySem.W.Frag} {h : Heap} {mg mb : Str → Option Value} {fa : Addr} (T : Top q lo mean mg mb h) (X : K.In h) (G : h.Ns mainGlobals mg) (hfa : mg "law" = some (.ref fa))
    {C_Seals : Addr} (aC_Seals : PySem.W.nsIn K mainGlobals "Seals" = some (some (.ref C_Seals)))
    (pg_Seals : PySem.W.plainGet K C_Seals Str.empty = true)
    (hd_Seals : PySem.W.hasDictIn K C_Seals = true)
    (po_Seals : PySem.W.plainOver K C_Seals = true)
    (sa_Seals : PySem.W.findIn K (.ref C_Seals) "__setattr__" = some (some (.builtin "object.__setattr__")))
    (mk_Seals : PySem.W.makesIn K C_Seals = true)
    (kc_Seals : PySem.W.keepIn K (.ref C_Seals) = true)
    (na_marks_Seals : PySem.W.findIn K (.ref C_Seals) "_marks" = some none)
    {C_Draft : Addr} (aC_Draft : PySem.W.nsIn K mainGlobals "Draft" = some (some (.ref C_Draft)))
    (pg_Draft : PySem.W.plainGet K C_Draft Str.empty = true)
    (hd_Draft : PySem.W.hasDictIn K C_Draft = true)
    (po_Draft : PySem.W.plainOver K C_Draft = true)
    (sa_Draft : PySem.W.findIn K (.ref C_Draft) "__setattr__" = some (some (.builtin "object.__setattr__")))
    (mk_Draft : PySem.W.makesIn K C_Draft = true)
    (kc_Draft : PySem.W.keepIn K (.ref C_Draft) = true)
    (na_files_Draft : PySem.W.findIn K (.ref C_Draft) "_files" = some none)
    (na_grants_Draft : PySem.W.findIn K (.ref C_Draft) "_grants" = some none)
    (na_old_keys_Draft : PySem.W.findIn K (.ref C_Draft) "_old_keys" = some none)
    {C_Workshop : Addr} (aC_Workshop : PySem.W.nsIn K mainGlobals "Workshop" = some (some (.ref C_Workshop)))
    (pg_Workshop : PySem.W.plainGet K C_Workshop Str.empty = true)
    (hd_Workshop : PySem.W.hasDictIn K C_Workshop = true)
    (po_Workshop : PySem.W.plainOver K C_Workshop = true)
    (sa_Workshop : PySem.W.findIn K (.ref C_Workshop) "__setattr__" = some (some (.builtin "object.__setattr__")))
    (mk_Workshop : PySem.W.makesIn K C_Workshop = true)
    (kc_Workshop : PySem.W.keepIn K (.ref C_Workshop) = true)
    (na_office_Workshop : PySem.W.findIn K (.ref C_Workshop) "_office" = some none)
    (na_draft_Workshop : PySem.W.findIn K (.ref C_Workshop) "_draft" = some none)
    (na_texts_Workshop : PySem.W.findIn K (.ref C_Workshop) "_texts" = some none)
    (na_charters_Workshop : PySem.W.findIn K (.ref C_Workshop) "_charters" = some none)
    (na_stamps_Workshop : PySem.W.findIn K (.ref C_Workshop) "_stamps" = some none)
    (na_snapshots_Workshop : PySem.W.findIn K (.ref C_Workshop) "_snapshots" = some none)
    (na_latest_Workshop : PySem.W.findIn K (.ref C_Workshop) "_latest" = some none)
    (na_entry_Workshop : PySem.W.findIn K (.ref C_Workshop) "_entry" = some none)
    {oc0 kV0 doc0 pm0 cd0 ct0 : Value} {od0 an0 : Option Addr} {sl0 : Array (Option Value)} {f0 : Addr}
    (a0 : PySem.W.nsIn K mainGlobals "digest" = some (some (.ref f0)))
    (l0 : K.lookup f0 = some ⟨oc0, od0, .func (PySem.W.fnOf "digest" "digest" (defArgs s_digest) (defBody s_digest) (defScope s_digest) .none kV0 doc0 pm0 an0 cd0 ct0), sl0⟩) (cc0 : PySem.W.codeIn K cd0 "digest" = true) (k0 : PySem.W.keepIn K (.ref f0) = true)
    {oc1 kV1 doc1 pm1 cd1 ct1 : Value} {od1 an1 : Option Addr} {sl1 : Array (Option Value)} {f1 : Addr}
    (a1 : PySem.W.nsIn K mainGlobals "is_list_name" = some (some (.ref f1)))
    (l1 : K.lookup f1 = some ⟨oc1, od1, .func (PySem.W.fnOf "is_list_name" "is_list_name" (defArgs s_is_list_name) (defBody s_is_list_name) (defScope s_is_list_name) .none kV1 doc1 pm1 an1 cd1 ct1), sl1⟩) (cc1 : PySem.W.codeIn K cd1 "is_list_name" = true) (k1 : PySem.W.keepIn K (.ref f1) = true)
    {oc2 kV2 doc2 pm2 cd2 ct2 : Value} {od2 an2 : Option Addr} {sl2 : Array (Option Value)} {f2 : Addr}
    (a2 : PySem.W.nsIn K mainGlobals "is_key" = some (some (.ref f2)))
    (l2 : K.lookup f2 = some ⟨oc2, od2, .func (PySem.W.fnOf "is_key" "is_key" (defArgs s_is_key) (defBody s_is_key) (defScope s_is_key) .none kV2 doc2 pm2 an2 cd2 ct2), sl2⟩) (cc2 : PySem.W.codeIn K cd2 "is_key" = true) (k2 : PySem.W.keepIn K (.ref f2) = true)
    {oc3 kV3 doc3 pm3 cd3 ct3 : Value} {od3 an3 : Option Addr} {sl3 : Array (Option Value)} {f3 : Addr}
    (a3 : PySem.W.nsIn K mainGlobals "is_path" = some (some (.ref f3)))
    (l3 : K.lookup f3 = some ⟨oc3, od3, .func (PySem.W.fnOf "is_path" "is_path" (defArgs s_is_path) (defBody s_is_path) (defScope s_is_path) .none kV3 doc3 pm3 an3 cd3 ct3), sl3⟩) (cc3 : PySem.W.codeIn K cd3 "is_path" = true) (k3 : PySem.W.keepIn K (.ref f3) = true)
    {oc4 kV4 doc4 pm4 cd4 ct4 : Value} {od4 an4 : Option Addr} {sl4 : Array (Option Value)} {f4 : Addr}
    (a4 : PySem.W.nsIn K mainGlobals "is_pattern" = some (some (.ref f4)))
    (l4 : K.lookup f4 = some ⟨oc4, od4, .func (PySem.W.fnOf "is_pattern" "is_pattern" (defArgs s_is_pattern) (defBody s_is_pattern) (defScope s_is_pattern) .none kV4 doc4 pm4 an4 cd4 ct4), sl4⟩) (cc4 : PySem.W.codeIn K cd4 "is_pattern" = true) (k4 : PySem.W.keepIn K (.ref f4) = true)
    {oc5 kV5 doc5 pm5 cd5 ct5 : Value} {od5 an5 : Option Addr} {sl5 : Array (Option Value)} {f5 : Addr}
    (a5 : PySem.W.nsIn K mainGlobals "ascends" = some (some (.ref f5)))
    (l5 : K.lookup f5 = some ⟨oc5, od5, .func (PySem.W.fnOf "ascends" "ascends" (defArgs s_ascends) (defBody s_ascends) (defScope s_ascends) .none kV5 doc5 pm5 an5 cd5 ct5), sl5⟩) (cc5 : PySem.W.codeIn K cd5 "ascends" = true) (k5 : PySem.W.keepIn K (.ref f5) = true)
    {oc6 kV6 doc6 pm6 ct6 : Value} {od6 an6 : Option Addr} {sl6 : Array (Option Value)} {c6 Pt6 f6 : Addr}
    (a6 : PySem.W.nsIn K mainGlobals "_consists_of" = some (some (.ref f6)))
    (l6 : K.lookup f6 = some ⟨oc6, od6, .func (PySem.W.fnOf "_consists_of" "_consists_of" (defArgs s_consists_of) (defBody s_consists_of) (defScope s_consists_of) .none kV6 doc6 pm6 an6 (.ref c6) ct6), sl6⟩) (cc6 : PySem.W.codeIn K (.ref c6) "_consists_of" = true) (k6 : PySem.W.keepIn K (.ref f6) = true)
    {oc7 kV7 doc7 pm7 ct7 : Value} {od7 an7 : Option Addr} {sl7 : Array (Option Value)} {c7 Pt7 f7 : Addr}
    (a7 : PySem.W.nsIn K mainGlobals "_has_parts_of" = some (some (.ref f7)))
    (l7 : K.lookup f7 = some ⟨oc7, od7, .func (PySem.W.fnOf "_has_parts_of" "_has_parts_of" (defArgs s_has_parts_of) (defBody s_has_parts_of) (defScope s_has_parts_of) .none kV7 doc7 pm7 an7 (.ref c7) ct7), sl7⟩) (cc7 : PySem.W.codeIn K (.ref c7) "_has_parts_of" = true) (k7 : PySem.W.keepIn K (.ref f7) = true)
    {oc8 kV8 doc8 pm8 ct8 : Value} {od8 an8 : Option Addr} {sl8 : Array (Option Value)} {c8 Pt8 f8 : Addr}
    (a8 : PySem.W.nsIn K mainGlobals "is_printable" = some (some (.ref f8)))
    (l8 : K.lookup f8 = some ⟨oc8, od8, .func (PySem.W.fnOf "is_printable" "is_printable" (defArgs s_is_printable) (defBody s_is_printable) (defScope s_is_printable) .none kV8 doc8 pm8 an8 (.ref c8) ct8), sl8⟩) (cc8 : PySem.W.codeIn K (.ref c8) "is_printable" = true) (k8 : PySem.W.keepIn K (.ref f8) = true)
    {oc9 kV9 doc9 pm9 cd9 ct9 : Value} {od9 an9 : Option Addr} {sl9 : Array (Option Value)} {f9 : Addr}
    (a9 : PySem.W.nsIn K mainGlobals "is_integer" = some (some (.ref f9)))
    (l9 : K.lookup f9 = some ⟨oc9, od9, .func (PySem.W.fnOf "is_integer" "is_integer" (defArgs s_is_integer) (defBody s_is_integer) (defScope s_is_integer) .none kV9 doc9 pm9 an9 cd9 ct9), sl9⟩) (cc9 : PySem.W.codeIn K cd9 "is_integer" = true) (k9 : PySem.W.keepIn K (.ref f9) = true)
    {oc10 kV10 doc10 pm10 cd10 ct10 : Value} {od10 an10 : Option Addr} {sl10 : Array (Option Value)} {f10 : Addr}
    (a10 : PySem.W.nsIn K mainGlobals "encode" = some (some (.ref f10)))
    (l10 : K.lookup f10 = some ⟨oc10, od10, .func (PySem.W.fnOf "encode" "encode" (defArgs s_encode) (defBody s_encode) (defScope s_encode) .none kV10 doc10 pm10 an10 cd10 ct10), sl10⟩) (cc10 : PySem.W.codeIn K cd10 "encode" = true) (k10 : PySem.W.keepIn K (.ref f10) = true)
    {oc11 kV11 doc11 pm11 cd11 ct11 : Value} {od11 an11 : Option Addr} {sl11 : Array (Option Value)} {f11 : Addr}
    (a11 : PySem.W.nsIn K mainGlobals "_text_of" = some (some (.ref f11)))
    (l11 : K.lookup f11 = some ⟨oc11, od11, .func (PySem.W.fnOf "_text_of" "_text_of" (defArgs s_text_of) (defBody s_text_of) (defScope s_text_of) .none kV11 doc11 pm11 an11 cd11 ct11), sl11⟩) (cc11 : PySem.W.codeIn K cd11 "_text_of" = true) (k11 : PySem.W.keepIn K (.ref f11) = true)
    {oc12 kV12 doc12 pm12 cd12 ct12 : Value} {od12 an12 : Option Addr} {sl12 : Array (Option Value)} {f12 : Addr}
    (a12 : PySem.W.nsIn K mainGlobals "_tuple_text" = some (some (.ref f12)))
    (l12 : K.lookup f12 = some ⟨oc12, od12, .func (PySem.W.fnOf "_tuple_text" "_tuple_text" (defArgs s_tuple_text) (defBody s_tuple_text) (defScope s_tuple_text) .none kV12 doc12 pm12 an12 cd12 ct12), sl12⟩) (cc12 : PySem.W.codeIn K cd12 "_tuple_text" = true) (k12 : PySem.W.keepIn K (.ref f12) = true)
    {oc13 kV13 doc13 pm13 cd13 ct13 : Value} {od13 an13 : Option Addr} {sl13 : Array (Option Value)} {f13 : Addr}
    (a13 : PySem.W.nsIn K mainGlobals "_greatest_integer" = some (some (.ref f13)))
    (l13 : K.lookup f13 = some ⟨oc13, od13, .func (PySem.W.fnOf "_greatest_integer" "_greatest_integer" (defArgs s_greatest_integer) (defBody s_greatest_integer) (defScope s_greatest_integer) .none kV13 doc13 pm13 an13 cd13 ct13), sl13⟩) (cc13 : PySem.W.codeIn K cd13 "_greatest_integer" = true) (k13 : PySem.W.keepIn K (.ref f13) = true)
    {oc14 kV14 doc14 pm14 ct14 : Value} {od14 an14 : Option Addr} {sl14 : Array (Option Value)} {c14 Pt14 f14 : Addr}
    (a14 : PySem.W.nsIn K mainGlobals "is_role" = some (some (.ref f14)))
    (l14 : K.lookup f14 = some ⟨oc14, od14, .func (PySem.W.fnOf "is_role" "is_role" (defArgs s_is_role) (defBody s_is_role) (defScope s_is_role) .none kV14 doc14 pm14 an14 (.ref c14) ct14), sl14⟩) (cc14 : PySem.W.codeIn K (.ref c14) "is_role" = true) (k14 : PySem.W.keepIn K (.ref f14) = true)
    {oc15 kV15 doc15 pm15 ct15 : Value} {od15 an15 : Option Addr} {sl15 : Array (Option Value)} {c15 Pt15 f15 : Addr}
    (a15 : PySem.W.nsIn K mainGlobals "is_digest" = some (some (.ref f15)))
    (l15 : K.lookup f15 = some ⟨oc15, od15, .func (PySem.W.fnOf "is_digest" "is_digest" (defArgs s_is_digest) (defBody s_is_digest) (defScope s_is_digest) .none kV15 doc15 pm15 an15 (.ref c15) ct15), sl15⟩) (cc15 : PySem.W.codeIn K (.ref c15) "is_digest" = true) (k15 : PySem.W.keepIn K (.ref f15) = true)
    {oc16 kV16 doc16 pm16 ct16 : Value} {od16 an16 : Option Addr} {sl16 : Array (Option Value)} {c16 Pt16 f16 : Addr}
    (a16 : PySem.W.nsIn K mainGlobals "is_grant" = some (some (.ref f16)))
    (l16 : K.lookup f16 = some ⟨oc16, od16, .func (PySem.W.fnOf "is_grant" "is_grant" (defArgs s_is_grant) (defBody s_is_grant) (defScope s_is_grant) .none kV16 doc16 pm16 an16 (.ref c16) ct16), sl16⟩) (cc16 : PySem.W.codeIn K (.ref c16) "is_grant" = true) (k16 : PySem.W.keepIn K (.ref f16) = true)
    {oc17 kV17 doc17 pm17 ct17 : Value} {od17 an17 : Option Addr} {sl17 : Array (Option Value)} {c17 Pt17 f17 : Addr}
    (a17 : PySem.W.nsIn K mainGlobals "is_charter" = some (some (.ref f17)))
    (l17 : K.lookup f17 = some ⟨oc17, od17, .func (PySem.W.fnOf "is_charter" "is_charter" (defArgs s_is_charter) (defBody s_is_charter) (defScope s_is_charter) .none kV17 doc17 pm17 an17 (.ref c17) ct17), sl17⟩) (cc17 : PySem.W.codeIn K (.ref c17) "is_charter" = true) (k17 : PySem.W.keepIn K (.ref f17) = true)
    {oc18 kV18 doc18 pm18 cd18 ct18 : Value} {od18 an18 : Option Addr} {sl18 : Array (Option Value)} {f18 : Addr}
    (a18 : PySem.W.nsIn K mainGlobals "is_stamp" = some (some (.ref f18)))
    (l18 : K.lookup f18 = some ⟨oc18, od18, .func (PySem.W.fnOf "is_stamp" "is_stamp" (defArgs s_is_stamp) (defBody s_is_stamp) (defScope s_is_stamp) .none kV18 doc18 pm18 an18 cd18 ct18), sl18⟩) (cc18 : PySem.W.codeIn K cd18 "is_stamp" = true) (k18 : PySem.W.keepIn K (.ref f18) = true)
    {oc19 kV19 doc19 pm19 ct19 : Value} {od19 an19 : Option Addr} {sl19 : Array (Option Value)} {c19 Pt19 f19 : Addr}
    (a19 : PySem.W.nsIn K mainGlobals "is_shelf" = some (some (.ref f19)))
    (l19 : K.lookup f19 = some ⟨oc19, od19, .func (PySem.W.fnOf "is_shelf" "is_shelf" (defArgs s_is_shelf) (defBody s_is_shelf) (defScope s_is_shelf) .none kV19 doc19 pm19 an19 (.ref c19) ct19), sl19⟩) (cc19 : PySem.W.codeIn K (.ref c19) "is_shelf" = true) (k19 : PySem.W.keepIn K (.ref f19) = true)
    {oc20 kV20 doc20 pm20 ct20 : Value} {od20 an20 : Option Addr} {sl20 : Array (Option Value)} {c20 Pt20 f20 : Addr}
    (a20 : PySem.W.nsIn K mainGlobals "is_list" = some (some (.ref f20)))
    (l20 : K.lookup f20 = some ⟨oc20, od20, .func (PySem.W.fnOf "is_list" "is_list" (defArgs s_is_list) (defBody s_is_list) (defScope s_is_list) .none kV20 doc20 pm20 an20 (.ref c20) ct20), sl20⟩) (cc20 : PySem.W.codeIn K (.ref c20) "is_list" = true) (k20 : PySem.W.keepIn K (.ref f20) = true)
    {oc21 kV21 doc21 pm21 cd21 ct21 : Value} {od21 an21 : Option Addr} {sl21 : Array (Option Value)} {f21 : Addr}
    (a21 : PySem.W.nsIn K mainGlobals "is_amount" = some (some (.ref f21)))
    (l21 : K.lookup f21 = some ⟨oc21, od21, .func (PySem.W.fnOf "is_amount" "is_amount" (defArgs s_is_amount) (defBody s_is_amount) (defScope s_is_amount) .none kV21 doc21 pm21 an21 cd21 ct21), sl21⟩) (cc21 : PySem.W.codeIn K cd21 "is_amount" = true) (k21 : PySem.W.keepIn K (.ref f21) = true)
    {oc22 kV22 doc22 pm22 cd22 ct22 : Value} {od22 an22 : Option Addr} {sl22 : Array (Option Value)} {f22 : Addr}
    (a22 : PySem.W.nsIn K mainGlobals "write" = some (some (.ref f22)))
    (l22 : K.lookup f22 = some ⟨oc22, od22, .func (PySem.W.fnOf "write" "write" (defArgs s_write) (defBody s_write) (defScope s_write) .none kV22 doc22 pm22 an22 cd22 ct22), sl22⟩) (cc22 : PySem.W.codeIn K cd22 "write" = true) (k22 : PySem.W.keepIn K (.ref f22) = true)
    {oc23 kV23 doc23 pm23 cd23 ct23 : Value} {od23 an23 : Option Addr} {sl23 : Array (Option Value)} {f23 : Addr}
    (a23 : PySem.W.nsIn K mainGlobals "published_name" = some (some (.ref f23)))
    (l23 : K.lookup f23 = some ⟨oc23, od23, .func (PySem.W.fnOf "published_name" "published_name" (defArgs s_published_name) (defBody s_published_name) (defScope s_published_name) .none kV23 doc23 pm23 an23 cd23 ct23), sl23⟩) (cc23 : PySem.W.codeIn K cd23 "published_name" = true) (k23 : PySem.W.keepIn K (.ref f23) = true)
    {oc24 kV24 doc24 pm24 cd24 ct24 : Value} {od24 an24 : Option Addr} {sl24 : Array (Option Value)} {f24 : Addr}
    (a24 : PySem.W.nsIn K mainGlobals "name_of_charter" = some (some (.ref f24)))
    (l24 : K.lookup f24 = some ⟨oc24, od24, .func (PySem.W.fnOf "name_of_charter" "name_of_charter" (defArgs s_name_of_charter) (defBody s_name_of_charter) (defScope s_name_of_charter) .none kV24 doc24 pm24 an24 cd24 ct24), sl24⟩) (cc24 : PySem.W.codeIn K cd24 "name_of_charter" = true) (k24 : PySem.W.keepIn K (.ref f24) = true)
    {oc25 kV25 doc25 pm25 cd25 ct25 : Value} {od25 an25 : Option Addr} {sl25 : Array (Option Value)} {f25 : Addr}
    (a25 : PySem.W.nsIn K mainGlobals "name_of_shelf" = some (some (.ref f25)))
    (l25 : K.lookup f25 = some ⟨oc25, od25, .func (PySem.W.fnOf "name_of_shelf" "name_of_shelf" (defArgs s_name_of_shelf) (defBody s_name_of_shelf) (defScope s_name_of_shelf) .none kV25 doc25 pm25 an25 cd25 ct25), sl25⟩) (cc25 : PySem.W.codeIn K cd25 "name_of_shelf" = true) (k25 : PySem.W.keepIn K (.ref f25) = true)
    {oc26 kV26 doc26 pm26 cd26 ct26 : Value} {od26 an26 : Option Addr} {sl26 : Array (Option Value)} {f26 : Addr}
    (a26 : PySem.W.nsIn K mainGlobals "name_of_list" = some (some (.ref f26)))
    (l26 : K.lookup f26 = some ⟨oc26, od26, .func (PySem.W.fnOf "name_of_list" "name_of_list" (defArgs s_name_of_list) (defBody s_name_of_list) (defScope s_name_of_list) .none kV26 doc26 pm26 an26 cd26 ct26), sl26⟩) (cc26 : PySem.W.codeIn K cd26 "name_of_list" = true) (k26 : PySem.W.keepIn K (.ref f26) = true)
    {oc27 kV27 doc27 pm27 cd27 ct27 : Value} {od27 an27 : Option Addr} {sl27 : Array (Option Value)} {f27 : Addr}
    (a27 : PySem.W.nsIn K mainGlobals "_is_tuple_of" = some (some (.ref f27)))
    (l27 : K.lookup f27 = some ⟨oc27, od27, .func (PySem.W.fnOf "_is_tuple_of" "_is_tuple_of" (defArgs s_is_tuple_of) (defBody s_is_tuple_of) (defScope s_is_tuple_of) .none kV27 doc27 pm27 an27 cd27 ct27), sl27⟩) (cc27 : PySem.W.codeIn K cd27 "_is_tuple_of" = true) (k27 : PySem.W.keepIn K (.ref f27) = true)
    {oc28 kV28 doc28 pm28 cd28 ct28 : Value} {od28 an28 : Option Addr} {sl28 : Array (Option Value)} {f28 : Addr}
    (a28 : PySem.W.nsIn K mainGlobals "_is_tuple_within" = some (some (.ref f28)))
    (l28 : K.lookup f28 = some ⟨oc28, od28, .func (PySem.W.fnOf "_is_tuple_within" "_is_tuple_within" (defArgs s_is_tuple_within) (defBody s_is_tuple_within) (defScope s_is_tuple_within) .none kV28 doc28 pm28 an28 cd28 ct28), sl28⟩) (cc28 : PySem.W.codeIn K cd28 "_is_tuple_within" = true) (k28 : PySem.W.keepIn K (.ref f28) = true)
    {oc29 kV29 doc29 pm29 cd29 ct29 : Value} {od29 an29 : Option Addr} {sl29 : Array (Option Value)} {f29 : Addr}
    (a29 : PySem.W.nsIn K mainGlobals "_is_headed" = some (some (.ref f29)))
    (l29 : K.lookup f29 = some ⟨oc29, od29, .func (PySem.W.fnOf "_is_headed" "_is_headed" (defArgs s_is_headed) (defBody s_is_headed) (defScope s_is_headed) .none kV29 doc29 pm29 an29 cd29 ct29), sl29⟩) (cc29 : PySem.W.codeIn K cd29 "_is_headed" = true) (k29 : PySem.W.keepIn K (.ref f29) = true)
    {oc30 kV30 doc30 pm30 cd30 ct30 : Value} {od30 an30 : Option Addr} {sl30 : Array (Option Value)} {f30 : Addr}
    (a30 : PySem.W.nsIn K mainGlobals "_is_version" = some (some (.ref f30)))
    (l30 : K.lookup f30 = some ⟨oc30, od30, .func (PySem.W.fnOf "_is_version" "_is_version" (defArgs s_is_version) (defBody s_is_version) (defScope s_is_version) .none kV30 doc30 pm30 an30 cd30 ct30), sl30⟩) (cc30 : PySem.W.codeIn K cd30 "_is_version" = true) (k30 : PySem.W.keepIn K (.ref f30) = true)
    {oc31 kV31 doc31 pm31 cd31 ct31 : Value} {od31 an31 : Option Addr} {sl31 : Array (Option Value)} {f31 : Addr}
    (a31 : PySem.W.nsIn K mainGlobals "_is_entry" = some (some (.ref f31)))
    (l31 : K.lookup f31 = some ⟨oc31, od31, .func (PySem.W.fnOf "_is_entry" "_is_entry" (defArgs s_is_entry) (defBody s_is_entry) (defScope s_is_entry) .none kV31 doc31 pm31 an31 cd31 ct31), sl31⟩) (cc31 : PySem.W.codeIn K cd31 "_is_entry" = true) (k31 : PySem.W.keepIn K (.ref f31) = true)
    {oc32 kV32 doc32 pm32 cd32 ct32 : Value} {od32 an32 : Option Addr} {sl32 : Array (Option Value)} {f32 : Addr}
    (a32 : PySem.W.nsIn K mainGlobals "_is_named_entry" = some (some (.ref f32)))
    (l32 : K.lookup f32 = some ⟨oc32, od32, .func (PySem.W.fnOf "_is_named_entry" "_is_named_entry" (defArgs s_is_named_entry) (defBody s_is_named_entry) (defScope s_is_named_entry) .none kV32 doc32 pm32 an32 cd32 ct32), sl32⟩) (cc32 : PySem.W.codeIn K cd32 "_is_named_entry" = true) (k32 : PySem.W.keepIn K (.ref f32) = true)
    {oc33 kV33 doc33 pm33 cd33 ct33 : Value} {od33 an33 : Option Addr} {sl33 : Array (Option Value)} {f33 : Addr}
    (a33 : PySem.W.nsIn K mainGlobals "_is_good" = some (some (.ref f33)))
    (l33 : K.lookup f33 = some ⟨oc33, od33, .func (PySem.W.fnOf "_is_good" "_is_good" (defArgs s_is_good) (defBody s_is_good) (defScope s_is_good) .none kV33 doc33 pm33 an33 cd33 ct33), sl33⟩) (cc33 : PySem.W.codeIn K cd33 "_is_good" = true) (k33 : PySem.W.keepIn K (.ref f33) = true)
    {oc34 kV34 doc34 pm34 cd34 ct34 : Value} {od34 an34 : Option Addr} {sl34 : Array (Option Value)} {f34 : Addr}
    (a34 : PySem.W.nsIn K mainGlobals "_require_document" = some (some (.ref f34)))
    (l34 : K.lookup f34 = some ⟨oc34, od34, .func (PySem.W.fnOf "_require_document" "_require_document" (defArgs s_require_document) (defBody s_require_document) (defScope s_require_document) .none kV34 doc34 pm34 an34 cd34 ct34), sl34⟩) (cc34 : PySem.W.codeIn K cd34 "_require_document" = true) (k34 : PySem.W.keepIn K (.ref f34) = true)
    {oc35 kV35 doc35 pm35 cd35 ct35 : Value} {od35 an35 : Option Addr} {sl35 : Array (Option Value)} {f35 : Addr}
    (a35 : PySem.W.findIn K (.ref C_Draft) "__init__" = some (some (.ref f35))) (i35 : PySem.W.isFn K (.ref f35) = true)
    (l35 : K.lookup f35 = some ⟨oc35, od35, .func (PySem.W.fnOf "__init__" "Draft.__init__" (defArgs s_Draft___init) (defBody s_Draft___init) (defScope s_Draft___init) .none kV35 doc35 pm35 an35 cd35 ct35), sl35⟩) (cc35 : PySem.W.codeIn K cd35 "Draft.__init__" = true) (k35 : PySem.W.keepIn K (.ref f35) = true)
    {oc36 kV36 doc36 pm36 cd36 ct36 : Value} {od36 an36 : Option Addr} {sl36 : Array (Option Value)} {f36 : Addr}
    (a36 : PySem.W.findIn K (.ref C_Draft) "put" = some (some (.ref f36))) (i36 : PySem.W.isFn K (.ref f36) = true)
    (l36 : K.lookup f36 = some ⟨oc36, od36, .func (PySem.W.fnOf "put" "Draft.put" (defArgs s_Draft_put) (defBody s_Draft_put) (defScope s_Draft_put) .none kV36 doc36 pm36 an36 cd36 ct36), sl36⟩) (cc36 : PySem.W.codeIn K cd36 "Draft.put" = true) (k36 : PySem.W.keepIn K (.ref f36) = true)
    {oc37 kV37 doc37 pm37 cd37 ct37 : Value} {od37 an37 : Option Addr} {sl37 : Array (Option Value)} {f37 : Addr}
    (a37 : PySem.W.findIn K (.ref C_Draft) "_require_list" = some (some (.ref f37))) (i37 : PySem.W.isFn K (.ref f37) = true)
    (l37 : K.lookup f37 = some ⟨oc37, od37, .func (PySem.W.fnOf "_require_list" "Draft._require_list" (defArgs s_Draft__require_list) (defBody s_Draft__require_list) (defScope s_Draft__require_list) .none kV37 doc37 pm37 an37 cd37 ct37), sl37⟩) (cc37 : PySem.W.codeIn K cd37 "Draft._require_list" = true) (k37 : PySem.W.keepIn K (.ref f37) = true)
    {oc38 kV38 doc38 pm38 cd38 ct38 : Value} {od38 an38 : Option Addr} {sl38 : Array (Option Value)} {f38 : Addr}
    (a38 : PySem.W.nsIn K mainGlobals "_require_path" = some (some (.ref f38)))
    (l38 : K.lookup f38 = some ⟨oc38, od38, .func (PySem.W.fnOf "_require_path" "_require_path" (defArgs s_require_path) (defBody s_require_path) (defScope s_require_path) .none kV38 doc38 pm38 an38 cd38 ct38), sl38⟩) (cc38 : PySem.W.codeIn K cd38 "_require_path" = true) (k38 : PySem.W.keepIn K (.ref f38) = true)
    {oc39 kV39 doc39 pm39 cd39 ct39 : Value} {od39 an39 : Option Addr} {sl39 : Array (Option Value)} {f39 : Addr}
    (a39 : PySem.W.nsIn K mainGlobals "seal" = some (some (.ref f39)))
    (l39 : K.lookup f39 = some ⟨oc39, od39, .func (PySem.W.fnOf "seal" "seal" (defArgs s_seal) (defBody s_seal) (defScope s_seal) .none kV39 doc39 pm39 an39 cd39 ct39), sl39⟩) (cc39 : PySem.W.codeIn K cd39 "seal" = true) (k39 : PySem.W.keepIn K (.ref f39) = true)
    {oc40 kV40 doc40 pm40 ct40 : Value} {od40 an40 : Option Addr} {sl40 : Array (Option Value)} {c40 Pt40 f40 : Addr}
    (a40 : PySem.W.nsIn K mainGlobals "_different_keys" = some (some (.ref f40)))
    (l40 : K.lookup f40 = some ⟨oc40, od40, .func (PySem.W.fnOf "_different_keys" "_different_keys" (defArgs s_different_keys) (defBody s_different_keys) (defScope s_different_keys) .none kV40 doc40 pm40 an40 (.ref c40) ct40), sl40⟩) (cc40 : PySem.W.codeIn K (.ref c40) "_different_keys" = true) (k40 : PySem.W.keepIn K (.ref f40) = true)
    {oc41 kV41 doc41 pm41 cd41 ct41 : Value} {od41 an41 : Option Addr} {sl41 : Array (Option Value)} {f41 : Addr}
    (a41 : PySem.W.nsIn K mainGlobals "role_of" = some (some (.ref f41)))
    (l41 : K.lookup f41 = some ⟨oc41, od41, .func (PySem.W.fnOf "role_of" "role_of" (defArgs s_role_of) (defBody s_role_of) (defScope s_role_of) .none kV41 doc41 pm41 an41 cd41 ct41), sl41⟩) (cc41 : PySem.W.codeIn K cd41 "role_of" = true) (k41 : PySem.W.keepIn K (.ref f41) = true)
    {oc42 kV42 doc42 pm42 cd42 ct42 : Value} {od42 an42 : Option Addr} {sl42 : Array (Option Value)} {f42 : Addr}
    (a42 : PySem.W.findIn K (.ref C_Workshop) "__init__" = some (some (.ref f42))) (i42 : PySem.W.isFn K (.ref f42) = true)
    (l42 : K.lookup f42 = some ⟨oc42, od42, .func (PySem.W.fnOf "__init__" "Workshop.__init__" (defArgs s_Workshop___init) (defBody s_Workshop___init) (defScope s_Workshop___init) .none kV42 doc42 pm42 an42 cd42 ct42), sl42⟩) (cc42 : PySem.W.codeIn K cd42 "Workshop.__init__" = true) (k42 : PySem.W.keepIn K (.ref f42) = true)
    {oc43 kV43 doc43 pm43 cd43 ct43 : Value} {od43 an43 : Option Addr} {sl43 : Array (Option Value)} {f43 : Addr}
    (a43 : PySem.W.findIn K (.ref C_Workshop) "turn" = some (some (.ref f43))) (i43 : PySem.W.isFn K (.ref f43) = true)
    (l43 : K.lookup f43 = some ⟨oc43, od43, .func (PySem.W.fnOf "turn" "Workshop.turn" (defArgs s_Workshop_turn) (defBody s_Workshop_turn) (defScope s_Workshop_turn) .none kV43 doc43 pm43 an43 cd43 ct43), sl43⟩) (cc43 : PySem.W.codeIn K cd43 "Workshop.turn" = true) (k43 : PySem.W.keepIn K (.ref f43) = true)
    {oc44 kV44 doc44 pm44 cd44 ct44 : Value} {od44 an44 : Option Addr} {sl44 : Array (Option Value)} {f44 : Addr}
    (a44 : PySem.W.findIn K (.ref C_Workshop) "put" = some (some (.ref f44))) (i44 : PySem.W.isFn K (.ref f44) = true)
    (l44 : K.lookup f44 = some ⟨oc44, od44, .func (PySem.W.fnOf "put" "Workshop.put" (defArgs s_Workshop_put) (defBody s_Workshop_put) (defScope s_Workshop_put) .none kV44 doc44 pm44 an44 cd44 ct44), sl44⟩) (cc44 : PySem.W.codeIn K cd44 "Workshop.put" = true) (k44 : PySem.W.keepIn K (.ref f44) = true)
    {oc45 kV45 doc45 pm45 cd45 ct45 : Value} {od45 an45 : Option Addr} {sl45 : Array (Option Value)} {f45 : Addr}
    (a45 : PySem.W.findIn K (.ref C_Workshop) "text" = some (some (.ref f45))) (i45 : PySem.W.isFn K (.ref f45) = true)
    (l45 : K.lookup f45 = some ⟨oc45, od45, .func (PySem.W.fnOf "text" "Workshop.text" (defArgs s_Workshop_text) (defBody s_Workshop_text) (defScope s_Workshop_text) .none kV45 doc45 pm45 an45 cd45 ct45), sl45⟩) (cc45 : PySem.W.codeIn K cd45 "Workshop.text" = true) (k45 : PySem.W.keepIn K (.ref f45) = true)
    {oc46 kV46 doc46 pm46 cd46 ct46 : Value} {od46 an46 : Option Addr} {sl46 : Array (Option Value)} {f46 : Addr}
    (a46 : PySem.W.findIn K (.ref C_Workshop) "names" = some (some (.ref f46))) (i46 : PySem.W.isFn K (.ref f46) = true)
    (l46 : K.lookup f46 = some ⟨oc46, od46, .func (PySem.W.fnOf "names" "Workshop.names" (defArgs s_Workshop_names) (defBody s_Workshop_names) (defScope s_Workshop_names) .none kV46 doc46 pm46 an46 cd46 ct46), sl46⟩) (cc46 : PySem.W.codeIn K cd46 "Workshop.names" = true) (k46 : PySem.W.keepIn K (.ref f46) = true)
    {oc47 kV47 doc47 pm47 cd47 ct47 : Value} {od47 an47 : Option Addr} {sl47 : Array (Option Value)} {f47 : Addr}
    (a47 : PySem.W.findIn K (.ref C_Workshop) "first" = some (some (.ref f47))) (i47 : PySem.W.isFn K (.ref f47) = true)
    (l47 : K.lookup f47 = some ⟨oc47, od47, .func (PySem.W.fnOf "first" "Workshop.first" (defArgs s_Workshop_first) (defBody s_Workshop_first) (defScope s_Workshop_first) .none kV47 doc47 pm47 an47 cd47 ct47), sl47⟩) (cc47 : PySem.W.codeIn K cd47 "Workshop.first" = true) (k47 : PySem.W.keepIn K (.ref f47) = true)
    {oc48 kV48 doc48 pm48 cd48 ct48 : Value} {od48 an48 : Option Addr} {sl48 : Array (Option Value)} {f48 : Addr}
    (a48 : PySem.W.findIn K (.ref C_Workshop) "charters" = some (some (.ref f48))) (i48 : PySem.W.isFn K (.ref f48) = true)
    (l48 : K.lookup f48 = some ⟨oc48, od48, .func (PySem.W.fnOf "charters" "Workshop.charters" (defArgs s_Workshop_charters) (defBody s_Workshop_charters) (defScope s_Workshop_charters) .none kV48 doc48 pm48 an48 cd48 ct48), sl48⟩) (cc48 : PySem.W.codeIn K cd48 "Workshop.charters" = true) (k48 : PySem.W.keepIn K (.ref f48) = true)
    {oc49 kV49 doc49 pm49 cd49 ct49 : Value} {od49 an49 : Option Addr} {sl49 : Array (Option Value)} {f49 : Addr}
    (a49 : PySem.W.findIn K (.ref C_Workshop) "_keys_of" = some (some (.ref f49))) (i49 : PySem.W.isFn K (.ref f49) = true)
    (l49 : K.lookup f49 = some ⟨oc49, od49, .func (PySem.W.fnOf "_keys_of" "Workshop._keys_of" (defArgs s_Workshop__keys_of) (defBody s_Workshop__keys_of) (defScope s_Workshop__keys_of) .none kV49 doc49 pm49 an49 cd49 ct49), sl49⟩) (cc49 : PySem.W.codeIn K cd49 "Workshop._keys_of" = true) (k49 : PySem.W.keepIn K (.ref f49) = true)
    {oc50 kV50 doc50 pm50 cd50 ct50 : Value} {od50 an50 : Option Addr} {sl50 : Array (Option Value)} {f50 : Addr}
    (a50 : PySem.W.findIn K (.ref C_Workshop) "_issue" = some (some (.ref f50))) (i50 : PySem.W.isFn K (.ref f50) = true)
    (l50 : K.lookup f50 = some ⟨oc50, od50, .func (PySem.W.fnOf "_issue" "Workshop._issue" (defArgs s_Workshop__issue) (defBody s_Workshop__issue) (defScope s_Workshop__issue) .none kV50 doc50 pm50 an50 cd50 ct50), sl50⟩) (cc50 : PySem.W.codeIn K cd50 "Workshop._issue" = true) (k50 : PySem.W.keepIn K (.ref f50) = true)
    {oc51 kV51 doc51 pm51 cd51 ct51 : Value} {od51 an51 : Option Addr} {sl51 : Array (Option Value)} {f51 : Addr}
    (a51 : PySem.W.findIn K (.ref C_Workshop) "_publish_charter" = some (some (.ref f51))) (i51 : PySem.W.isFn K (.ref f51) = true)
    (l51 : K.lookup f51 = some ⟨oc51, od51, .func (PySem.W.fnOf "_publish_charter" "Workshop._publish_charter" (defArgs s_Workshop__publish_charter) (defBody s_Workshop__publish_charter) (defScope s_Workshop__publish_charter) .none kV51 doc51 pm51 an51 cd51 ct51), sl51⟩) (cc51 : PySem.W.codeIn K cd51 "Workshop._publish_charter" = true) (k51 : PySem.W.keepIn K (.ref f51) = true)
    {oc52 kV52 doc52 pm52 cd52 ct52 : Value} {od52 an52 : Option Addr} {sl52 : Array (Option Value)} {f52 : Addr}
    (a52 : PySem.W.nsIn K mainGlobals "_require_roles" = some (some (.ref f52)))
    (l52 : K.lookup f52 = some ⟨oc52, od52, .func (PySem.W.fnOf "_require_roles" "_require_roles" (defArgs s_require_roles) (defBody s_require_roles) (defScope s_require_roles) .none kV52 doc52 pm52 an52 cd52 ct52), sl52⟩) (cc52 : PySem.W.codeIn K cd52 "_require_roles" = true) (k52 : PySem.W.keepIn K (.ref f52) = true)
    {oc53 kV53 doc53 pm53 cd53 ct53 : Value} {od53 an53 : Option Addr} {sl53 : Array (Option Value)} {f53 : Addr}
    (a53 : PySem.W.nsIn K mainGlobals "_require_expires" = some (some (.ref f53)))
    (l53 : K.lookup f53 = some ⟨oc53, od53, .func (PySem.W.fnOf "_require_expires" "_require_expires" (defArgs s_require_expires) (defBody s_require_expires) (defScope s_require_expires) .none kV53 doc53 pm53 an53 cd53 ct53), sl53⟩) (cc53 : PySem.W.codeIn K cd53 "_require_expires" = true) (k53 : PySem.W.keepIn K (.ref f53) = true)
    {oc54 kV54 doc54 pm54 cd54 ct54 : Value} {od54 an54 : Option Addr} {sl54 : Array (Option Value)} {f54 : Addr}
    (a54 : PySem.W.findIn K (.ref C_Seals) "__init__" = some (some (.ref f54))) (i54 : PySem.W.isFn K (.ref f54) = true)
    (l54 : K.lookup f54 = some ⟨oc54, od54, .func (PySem.W.fnOf "__init__" "Seals.__init__" (defArgs s_Seals___init) (defBody s_Seals___init) (defScope s_Seals___init) .none kV54 doc54 pm54 an54 cd54 ct54), sl54⟩) (cc54 : PySem.W.codeIn K cd54 "Seals.__init__" = true) (k54 : PySem.W.keepIn K (.ref f54) = true)
    {oc55 kV55 doc55 pm55 cd55 ct55 : Value} {od55 an55 : Option Addr} {sl55 : Array (Option Value)} {f55 : Addr}
    (a55 : PySem.W.findIn K (.ref C_Seals) "make" = some (some (.ref f55))) (i55 : PySem.W.isFn K (.ref f55) = true)
    (l55 : K.lookup f55 = some ⟨oc55, od55, .func (PySem.W.fnOf "make" "Seals.make" (defArgs s_Seals_make) (defBody s_Seals_make) (defScope s_Seals_make) .none kV55 doc55 pm55 an55 cd55 ct55), sl55⟩) (cc55 : PySem.W.codeIn K cd55 "Seals.make" = true) (k55 : PySem.W.keepIn K (.ref f55) = true)
    {oc56 kV56 doc56 pm56 cd56 ct56 : Value} {od56 an56 : Option Addr} {sl56 : Array (Option Value)} {f56 : Addr}
    (a56 : PySem.W.findIn K (.ref C_Seals) "count" = some (some (.ref f56))) (i56 : PySem.W.isFn K (.ref f56) = true)
    (l56 : K.lookup f56 = some ⟨oc56, od56, .func (PySem.W.fnOf "count" "Seals.count" (defArgs s_Seals_count) (defBody s_Seals_count) (defScope s_Seals_count) .none kV56 doc56 pm56 an56 cd56 ct56), sl56⟩) (cc56 : PySem.W.codeIn K cd56 "Seals.count" = true) (k56 : PySem.W.keepIn K (.ref f56) = true)
    {oc57 kV57 doc57 pm57 cd57 ct57 : Value} {od57 an57 : Option Addr} {sl57 : Array (Option Value)} {f57 : Addr}
    (a57 : PySem.W.nsIn K mainGlobals "_law_cell" = some (some (.ref f57)))
    (l57 : K.lookup f57 = some ⟨oc57, od57, .func (PySem.W.fnOf "_law_cell" "_law_cell" (defArgs s_law_cell) (defBody s_law_cell) (defScope s_law_cell) .none kV57 doc57 pm57 an57 cd57 ct57), sl57⟩) (cc57 : PySem.W.codeIn K cd57 "_law_cell" = true) (k57 : PySem.W.keepIn K (.ref f57) = true)
    {oc58 kV58 doc58 pm58 cd58 ct58 : Value} {od58 an58 : Option Addr} {sl58 : Array (Option Value)} {f58 : Addr}
    (a58 : PySem.W.nsIn K mainGlobals "_law_stream" = some (some (.ref f58)))
    (l58 : K.lookup f58 = some ⟨oc58, od58, .func (PySem.W.fnOf "_law_stream" "_law_stream" (defArgs s_law_stream) (defBody s_law_stream) (defScope s_law_stream) .none kV58 doc58 pm58 an58 cd58 ct58), sl58⟩) (cc58 : PySem.W.codeIn K cd58 "_law_stream" = true) (k58 : PySem.W.keepIn K (.ref f58) = true)
    {oc59 kV59 doc59 pm59 cd59 ct59 : Value} {od59 an59 : Option Addr} {sl59 : Array (Option Value)} {f59 : Addr}
    (a59 : PySem.W.nsIn K mainGlobals "_law_take" = some (some (.ref f59)))
    (l59 : K.lookup f59 = some ⟨oc59, od59, .func (PySem.W.fnOf "_law_take" "_law_take" (defArgs s_law_take) (defBody s_law_take) (defScope s_law_take) .none kV59 doc59 pm59 an59 cd59 ct59), sl59⟩) (cc59 : PySem.W.codeIn K cd59 "_law_take" = true) (k59 : PySem.W.keepIn K (.ref f59) = true)
    {oc60 kV60 doc60 pm60 cd60 ct60 : Value} {od60 an60 : Option Addr} {sl60 : Array (Option Value)} {f60 : Addr}
    (a60 : PySem.W.nsIn K mainGlobals "_law_once" = some (some (.ref f60)))
    (l60 : K.lookup f60 = some ⟨oc60, od60, .func (PySem.W.fnOf "_law_once" "_law_once" (defArgs s_law_once) (defBody s_law_once) (defScope s_law_once) .none kV60 doc60 pm60 an60 cd60 ct60), sl60⟩) (cc60 : PySem.W.codeIn K cd60 "_law_once" = true) (k60 : PySem.W.keepIn K (.ref f60) = true)
    {oc61 kV61 doc61 pm61 cd61 ct61 : Value} {od61 an61 : Option Addr} {sl61 : Array (Option Value)} {f61 : Addr}
    (a61 : PySem.W.nsIn K mainGlobals "_law_digest" = some (some (.ref f61)))
    (l61 : K.lookup f61 = some ⟨oc61, od61, .func (PySem.W.fnOf "_law_digest" "_law_digest" (defArgs s_law_digest) (defBody s_law_digest) (defScope s_law_digest) .none kV61 doc61 pm61 an61 cd61 ct61), sl61⟩) (cc61 : PySem.W.codeIn K cd61 "_law_digest" = true) (k61 : PySem.W.keepIn K (.ref f61) = true)
    {oc62 kV62 doc62 pm62 cd62 ct62 : Value} {od62 an62 : Option Addr} {sl62 : Array (Option Value)} {f62 : Addr}
    (a62 : PySem.W.nsIn K mainGlobals "_law_text" = some (some (.ref f62)))
    (l62 : K.lookup f62 = some ⟨oc62, od62, .func (PySem.W.fnOf "_law_text" "_law_text" (defArgs s_law_text) (defBody s_law_text) (defScope s_law_text) .none kV62 doc62 pm62 an62 cd62 ct62), sl62⟩) (cc62 : PySem.W.codeIn K cd62 "_law_text" = true) (k62 : PySem.W.keepIn K (.ref f62) = true)
    {oc63 kV63 doc63 pm63 cd63 ct63 : Value} {od63 an63 : Option Addr} {sl63 : Array (Option Value)} {f63 : Addr}
    (a63 : PySem.W.nsIn K mainGlobals "_law_same" = some (some (.ref f63)))
    (l63 : K.lookup f63 = some ⟨oc63, od63, .func (PySem.W.fnOf "_law_same" "_law_same" (defArgs s_law_same) (defBody s_law_same) (defScope s_law_same) .none kV63 doc63 pm63 an63 cd63 ct63), sl63⟩) (cc63 : PySem.W.codeIn K cd63 "_law_same" = true) (k63 : PySem.W.keepIn K (.ref f63) = true)
    {oc64 kV64 doc64 pm64 cd64 ct64 : Value} {od64 an64 : Option Addr} {sl64 : Array (Option Value)} {f64 : Addr}
    (a64 : PySem.W.nsIn K mainGlobals "_law_counts" = some (some (.ref f64)))
    (l64 : K.lookup f64 = some ⟨oc64, od64, .func (PySem.W.fnOf "_law_counts" "_law_counts" (defArgs s_law_counts) (defBody s_law_counts) (defScope s_law_counts) .none kV64 doc64 pm64 an64 cd64 ct64), sl64⟩) (cc64 : PySem.W.codeIn K cd64 "_law_counts" = true) (k64 : PySem.W.keepIn K (.ref f64) = true)
    {oc65 kV65 doc65 pm65 cd65 ct65 : Value} {od65 an65 : Option Addr} {sl65 : Array (Option Value)} {f65 : Addr}
    (a65 : PySem.W.nsIn K mainGlobals "_law_all" = some (some (.ref f65)))
    (l65 : K.lookup f65 = some ⟨oc65, od65, .func (PySem.W.fnOf "_law_all" "_law_all" (defArgs s_law_all) (defBody s_law_all) (defScope s_law_all) .none kV65 doc65 pm65 an65 cd65 ct65), sl65⟩) (cc65 : PySem.W.codeIn K cd65 "_law_all" = true) (k65 : PySem.W.keepIn K (.ref f65) = true)
    {oc66 kV66 doc66 pm66 cd66 ct66 : Value} {od66 an66 : Option Addr} {sl66 : Array (Option Value)} {f66 : Addr}
    (a66 : PySem.W.nsIn K mainGlobals "_law_number" = some (some (.ref f66)))
    (l66 : K.lookup f66 = some ⟨oc66, od66, .func (PySem.W.fnOf "_law_number" "_law_number" (defArgs s_law_number) (defBody s_law_number) (defScope s_law_number) .none kV66 doc66 pm66 an66 cd66 ct66), sl66⟩) (cc66 : PySem.W.codeIn K cd66 "_law_number" = true) (k66 : PySem.W.keepIn K (.ref f66) = true)
    {oc67 kV67 doc67 pm67 cd67 ct67 : Value} {od67 an67 : Option Addr} {sl67 : Array (Option Value)} {f67 : Addr}
    (a67 : PySem.W.nsIn K mainGlobals "_law_tuple" = some (some (.ref f67)))
    (l67 : K.lookup f67 = some ⟨oc67, od67, .func (PySem.W.fnOf "_law_tuple" "_law_tuple" (defArgs s_law_tuple) (defBody s_law_tuple) (defScope s_law_tuple) .none kV67 doc67 pm67 an67 cd67 ct67), sl67⟩) (cc67 : PySem.W.codeIn K cd67 "_law_tuple" = true) (k67 : PySem.W.keepIn K (.ref f67) = true)
    {oc68 kV68 doc68 pm68 cd68 ct68 : Value} {od68 an68 : Option Addr} {sl68 : Array (Option Value)} {f68 : Addr}
    (a68 : PySem.W.nsIn K mainGlobals "_law_rising" = some (some (.ref f68)))
    (l68 : K.lookup f68 = some ⟨oc68, od68, .func (PySem.W.fnOf "_law_rising" "_law_rising" (defArgs s_law_rising) (defBody s_law_rising) (defScope s_law_rising) .none kV68 doc68 pm68 an68 cd68 ct68), sl68⟩) (cc68 : PySem.W.codeIn K cd68 "_law_rising" = true) (k68 : PySem.W.keepIn K (.ref f68) = true)
    {oc69 kV69 doc69 pm69 cd69 ct69 : Value} {od69 an69 : Option Addr} {sl69 : Array (Option Value)} {f69 : Addr}
    (a69 : PySem.W.nsIn K mainGlobals "_law_is_key" = some (some (.ref f69)))
    (l69 : K.lookup f69 = some ⟨oc69, od69, .func (PySem.W.fnOf "_law_is_key" "_law_is_key" (defArgs s_law_is_key) (defBody s_law_is_key) (defScope s_law_is_key) .none kV69 doc69 pm69 an69 cd69 ct69), sl69⟩) (cc69 : PySem.W.codeIn K cd69 "_law_is_key" = true) (k69 : PySem.W.keepIn K (.ref f69) = true)
    {oc70 kV70 doc70 pm70 cd70 ct70 : Value} {od70 an70 : Option Addr} {sl70 : Array (Option Value)} {f70 : Addr}
    (a70 : PySem.W.nsIn K mainGlobals "_law_is_role" = some (some (.ref f70)))
    (l70 : K.lookup f70 = some ⟨oc70, od70, .func (PySem.W.fnOf "_law_is_role" "_law_is_role" (defArgs s_law_is_role) (defBody s_law_is_role) (defScope s_law_is_role) .none kV70 doc70 pm70 an70 cd70 ct70), sl70⟩) (cc70 : PySem.W.codeIn K cd70 "_law_is_role" = true) (k70 : PySem.W.keepIn K (.ref f70) = true)
    {oc71 kV71 doc71 pm71 cd71 ct71 : Value} {od71 an71 : Option Addr} {sl71 : Array (Option Value)} {f71 : Addr}
    (a71 : PySem.W.nsIn K mainGlobals "_law_odd" = some (some (.ref f71)))
    (l71 : K.lookup f71 = some ⟨oc71, od71, .func (PySem.W.fnOf "_law_odd" "_law_odd" (defArgs s_law_odd) (defBody s_law_odd) (defScope s_law_odd) .none kV71 doc71 pm71 an71 cd71 ct71), sl71⟩) (cc71 : PySem.W.codeIn K cd71 "_law_odd" = true) (k71 : PySem.W.keepIn K (.ref f71) = true)
    {oc72 kV72 doc72 pm72 cd72 ct72 : Value} {od72 an72 : Option Addr} {sl72 : Array (Option Value)} {f72 : Addr}
    (a72 : PySem.W.nsIn K mainGlobals "_law_spoilt" = some (some (.ref f72)))
    (l72 : K.lookup f72 = some ⟨oc72, od72, .func (PySem.W.fnOf "_law_spoilt" "_law_spoilt" (defArgs s_law_spoilt) (defBody s_law_spoilt) (defScope s_law_spoilt) .none kV72 doc72 pm72 an72 cd72 ct72), sl72⟩) (cc72 : PySem.W.codeIn K cd72 "_law_spoilt" = true) (k72 : PySem.W.keepIn K (.ref f72) = true)
    {oc73 kV73 doc73 pm73 cd73 ct73 : Value} {od73 an73 : Option Addr} {sl73 : Array (Option Value)} {f73 : Addr}
    (a73 : PySem.W.nsIn K mainGlobals "_law_role" = some (some (.ref f73)))
    (l73 : K.lookup f73 = some ⟨oc73, od73, .func (PySem.W.fnOf "_law_role" "_law_role" (defArgs s_law_role) (defBody s_law_role) (defScope s_law_role) .none kV73 doc73 pm73 an73 cd73 ct73), sl73⟩) (cc73 : PySem.W.codeIn K cd73 "_law_role" = true) (k73 : PySem.W.keepIn K (.ref f73) = true)
    {oc74 kV74 doc74 pm74 cd74 ct74 : Value} {od74 an74 : Option Addr} {sl74 : Array (Option Value)} {f74 : Addr}
    (a74 : PySem.W.nsIn K mainGlobals "_law_roles" = some (some (.ref f74)))
    (l74 : K.lookup f74 = some ⟨oc74, od74, .func (PySem.W.fnOf "_law_roles" "_law_roles" (defArgs s_law_roles) (defBody s_law_roles) (defScope s_law_roles) .none kV74 doc74 pm74 an74 cd74 ct74), sl74⟩) (cc74 : PySem.W.codeIn K cd74 "_law_roles" = true) (k74 : PySem.W.keepIn K (.ref f74) = true)
    {oc75 kV75 doc75 pm75 cd75 ct75 : Value} {od75 an75 : Option Addr} {sl75 : Array (Option Value)} {f75 : Addr}
    (a75 : PySem.W.nsIn K mainGlobals "_law_time" = some (some (.ref f75)))
    (l75 : K.lookup f75 = some ⟨oc75, od75, .func (PySem.W.fnOf "_law_time" "_law_time" (defArgs s_law_time) (defBody s_law_time) (defScope s_law_time) .none kV75 doc75 pm75 an75 cd75 ct75), sl75⟩) (cc75 : PySem.W.codeIn K cd75 "_law_time" = true) (k75 : PySem.W.keepIn K (.ref f75) = true)
    {oc76 kV76 doc76 pm76 cd76 ct76 : Value} {od76 an76 : Option Addr} {sl76 : Array (Option Value)} {f76 : Addr}
    (a76 : PySem.W.nsIn K mainGlobals "_law_seal" = some (some (.ref f76)))
    (l76 : K.lookup f76 = some ⟨oc76, od76, .func (PySem.W.fnOf "_law_seal" "_law_seal" (defArgs s_law_seal) (defBody s_law_seal) (defScope s_law_seal) .none kV76 doc76 pm76 an76 cd76 ct76), sl76⟩) (cc76 : PySem.W.codeIn K cd76 "_law_seal" = true) (k76 : PySem.W.keepIn K (.ref f76) = true)
    {oc77 kV77 doc77 pm77 cd77 ct77 : Value} {od77 an77 : Option Addr} {sl77 : Array (Option Value)} {f77 : Addr}
    (a77 : PySem.W.nsIn K mainGlobals "_law_are_roles" = some (some (.ref f77)))
    (l77 : K.lookup f77 = some ⟨oc77, od77, .func (PySem.W.fnOf "_law_are_roles" "_law_are_roles" (defArgs s_law_are_roles) (defBody s_law_are_roles) (defScope s_law_are_roles) .none kV77 doc77 pm77 an77 cd77 ct77), sl77⟩) (cc77 : PySem.W.codeIn K cd77 "_law_are_roles" = true) (k77 : PySem.W.keepIn K (.ref f77) = true)
    {oc78 kV78 doc78 pm78 cd78 ct78 : Value} {od78 an78 : Option Addr} {sl78 : Array (Option Value)} {f78 : Addr}
    (a78 : PySem.W.nsIn K mainGlobals "_law_turned" = some (some (.ref f78)))
    (l78 : K.lookup f78 = some ⟨oc78, od78, .func (PySem.W.fnOf "_law_turned" "_law_turned" (defArgs s_law_turned) (defBody s_law_turned) (defScope s_law_turned) .none kV78 doc78 pm78 an78 cd78 ct78), sl78⟩) (cc78 : PySem.W.codeIn K cd78 "_law_turned" = true) (k78 : PySem.W.keepIn K (.ref f78) = true)
    {oc79 kV79 doc79 pm79 cd79 ct79 : Value} {od79 an79 : Option Addr} {sl79 : Array (Option Value)} {f79 : Addr}
    (a79 : PySem.W.nsIn K mainGlobals "_law_holds" = some (some (.ref f79)))
    (l79 : K.lookup f79 = some ⟨oc79, od79, .func (PySem.W.fnOf "_law_holds" "_law_holds" (defArgs s_law_holds) (defBody s_law_holds) (defScope s_law_holds) .none kV79 doc79 pm79 an79 cd79 ct79), sl79⟩) (cc79 : PySem.W.codeIn K cd79 "_law_holds" = true) (k79 : PySem.W.keepIn K (.ref f79) = true)
    {oc80 kV80 doc80 pm80 cd80 ct80 : Value} {od80 an80 : Option Addr} {sl80 : Array (Option Value)} {f80 : Addr}
    (a80 : PySem.W.nsIn K mainGlobals "law" = some (some (.ref f80)))
    (l80 : K.lookup f80 = some ⟨oc80, od80, .func (PySem.W.fnOf "law" "law" (defArgs s_law) (defBody s_law) (defScope s_law) .none kV80 doc80 pm80 an80 cd80 ct80), sl80⟩) (cc80 : PySem.W.codeIn K cd80 "law" = true) (k80 : PySem.W.keepIn K (.ref f80) = true)
    (z_len : PySem.W.nsIn K mainGlobals "len" = some none)
    (z_int : PySem.W.nsIn K mainGlobals "int" = some none)
    (z_str : PySem.W.nsIn K mainGlobals "str" = some none)
    (z_bool : PySem.W.nsIn K mainGlobals "bool" = some none)
    (z_list : PySem.W.nsIn K mainGlobals "list" = some none)
    (z_tuple : PySem.W.nsIn K mainGlobals "tuple" = some none)
    (z_range : PySem.W.nsIn K mainGlobals "range" = some none)
    (z_isinstance : PySem.W.nsIn K mainGlobals "isinstance" = some none)
    (z_ord : PySem.W.nsIn K mainGlobals "ord" = some none)
    (z_all : PySem.W.nsIn K mainGlobals "all" = some none)
    {t_FACTOR : Tok} (v_FACTOR : PySem.W.nsIn K mainGlobals "_FACTOR" = some (some (.int 65599 t_FACTOR)))
    {t_DIVISOR : Tok} (v_DIVISOR : PySem.W.nsIn K mainGlobals "_DIVISOR" = some (some (.int 2361183241434822606617 t_DIVISOR)))
    {t_LETTERS : Tok} (v_LETTERS : PySem.W.nsIn K mainGlobals "_LETTERS" = some (some (.str "abcdefghijklmnopqrstuvwxyz" t_LETTERS)))
    {t_DIGITS : Tok} (v_DIGITS : PySem.W.nsIn K mainGlobals "_DIGITS" = some (some (.str "0123456789" t_DIGITS)))
    {t_PART_MARKS : Tok} (v_PART_MARKS : PySem.W.nsIn K mainGlobals "_PART_MARKS" = some (some (.str "abcdefghijklmnopqrstuvwxyz0123456789_-." t_PART_MARKS)))
    {t_MOST_NAME : Tok} (v_MOST_NAME : PySem.W.nsIn K mainGlobals "_MOST_NAME" = some (some (.int 12 t_MOST_NAME)))
    {t_MOST_PARTS : Tok} (v_MOST_PARTS : PySem.W.nsIn K mainGlobals "_MOST_PARTS" = some (some (.int 6 t_MOST_PARTS)))
    {t_MOST_PATH : Tok} (v_MOST_PATH : PySem.W.nsIn K mainGlobals "MOST_PATH" = some (some (.int 60 t_MOST_PATH)))
    {t_MOST_KEYS : Tok} (v_MOST_KEYS : PySem.W.nsIn K mainGlobals "MOST_KEYS" = some (some (.int 16 t_MOST_KEYS)))
    {t_MOST_NUMBER : Tok} (v_MOST_NUMBER : PySem.W.nsIn K mainGlobals "MOST_NUMBER" = some (some (.int 1000000000000 t_MOST_NUMBER)))
    {t_DIGEST_LENGTH : Tok} (v_DIGEST_LENGTH : PySem.W.nsIn K mainGlobals "DIGEST_LENGTH" = some (some (.int 18 t_DIGEST_LENGTH)))
    {t_DIGEST_MARKS : Tok} (v_DIGEST_MARKS : PySem.W.nsIn K mainGlobals "_DIGEST_MARKS" = some (some (.str "0123456789abcdef" t_DIGEST_MARKS)))
    {t_MOST_PATTERNS : Tok} (v_MOST_PATTERNS : PySem.W.nsIn K mainGlobals "_MOST_PATTERNS" = some (some (.int 8 t_MOST_PATTERNS)))
    {t_MOST_GOODS : Tok} (v_MOST_GOODS : PySem.W.nsIn K mainGlobals "MOST_GOODS" = some (some (.int 64 t_MOST_GOODS)))
    {t_MOST_LISTS : Tok} (v_MOST_LISTS : PySem.W.nsIn K mainGlobals "MOST_LISTS" = some (some (.int 32 t_MOST_LISTS)))
    {t_TOP_LIST : Tok} (v_TOP_LIST : PySem.W.nsIn K mainGlobals "TOP_LIST" = some (some (.str "list" t_TOP_LIST)))
    {t_ROLES : Tok} (v_ROLES : PySem.W.nsIn K mainGlobals "_ROLES" = some (some (.int 4 t_ROLES)))
    {t_BARRED_CODE : Tok} (v_BARRED_CODE : PySem.W.nsIn K mainGlobals "_BARRED_CODE" = some (some (.int 37 t_BARRED_CODE)))
    {t_MOST_DIGITS : Tok} (v_MOST_DIGITS : PySem.W.nsIn K mainGlobals "MOST_DIGITS" = some (some (.int 20 t_MOST_DIGITS)))
    {t_MOST_DEPTH : Tok} (v_MOST_DEPTH : PySem.W.nsIn K mainGlobals "MOST_DEPTH" = some (some (.int 8 t_MOST_DEPTH)))
    {t_MOST_TEXT : Tok} (v_MOST_TEXT : PySem.W.nsIn K mainGlobals "MOST_TEXT" = some (some (.int 100000 t_MOST_TEXT)))
    {t_MOST_SEALS : Tok} (v_MOST_SEALS : PySem.W.nsIn K mainGlobals "MOST_SEALS" = some (some (.int 32 t_MOST_SEALS)))
    {t_STAMP_NAME : Tok} (v_STAMP_NAME : PySem.W.nsIn K mainGlobals "STAMP_NAME" = some (some (.str "stamp" t_STAMP_NAME)))
    {C_BadText : Addr} (g_BadText : PySem.W.nsIn K mainGlobals "BadText" = some (some (.ref C_BadText))) (e_BadText : PySem.W.excIn K C_BadText [.type "ValueError", .type "Exception", .type "BaseException", .type "object"] "ValueError.__new__" = true) (ke_BadText : PySem.W.keepIn K (.ref C_BadText) = true) (be_BadText : PySem.W.subIn K (.ref C_BadText) (.type "BaseException") = some true) (te_BadText : PySem.W.typeIn K (.ref C_BadText) = some (.type "type")) (ie_BadText : PySem.W.isClsIn K C_BadText = true) (se_BadText : PySem.W.subIn K (.ref C_BadText) (.ref C_BadText) = some true)
    {C_BadDocument : Addr} (g_BadDocument : PySem.W.nsIn K mainGlobals "BadDocument" = some (some (.ref C_BadDocument))) (e_BadDocument : PySem.W.excIn K C_BadDocument [.type "ValueError", .type "Exception", .type "BaseException", .type "object"] "ValueError.__new__" = true) (ke_BadDocument : PySem.W.keepIn K (.ref C_BadDocument) = true) (be_BadDocument : PySem.W.subIn K (.ref C_BadDocument) (.type "BaseException") = some true) (te_BadDocument : PySem.W.typeIn K (.ref C_BadDocument) = some (.type "type")) (ie_BadDocument : PySem.W.isClsIn K C_BadDocument = true) (se_BadDocument : PySem.W.subIn K (.ref C_BadDocument) (.ref C_BadDocument) = some true)
    {C_BadKey : Addr} (g_BadKey : PySem.W.nsIn K mainGlobals "BadKey" = some (some (.ref C_BadKey))) (e_BadKey : PySem.W.excIn K C_BadKey [.type "ValueError", .type "Exception", .type "BaseException", .type "object"] "ValueError.__new__" = true) (ke_BadKey : PySem.W.keepIn K (.ref C_BadKey) = true) (be_BadKey : PySem.W.subIn K (.ref C_BadKey) (.type "BaseException") = some true) (te_BadKey : PySem.W.typeIn K (.ref C_BadKey) = some (.type "type")) (ie_BadKey : PySem.W.isClsIn K C_BadKey = true) (se_BadKey : PySem.W.subIn K (.ref C_BadKey) (.ref C_BadKey) = some true)
    {C_BadAct fi_BadAct : Addr} {oc_BadAct kV_BadAct doc_BadAct pm_BadAct cd_BadAct ct_BadAct : Value} {od_BadAct an_BadAct : Option Addr} {sl_BadAct : Array (Option Value)} (g_BadAct : PySem.W.nsIn K mainGlobals "BadAct" = some (some (.ref C_BadAct))) (ai_BadAct : PySem.W.findIn K (.ref C_BadAct) "__init__" = some (some (.ref fi_BadAct))) (li_BadAct : K.lookup fi_BadAct = some ⟨oc_BadAct, od_BadAct, .func (PySem.W.fnOf "__init__" "BadAct.__init__" (defArgs s_BadAct___init) (defBody s_BadAct___init) (defScope s_BadAct___init) .none kV_BadAct doc_BadAct pm_BadAct an_BadAct cd_BadAct ct_BadAct), sl_BadAct⟩) (ci_BadAct : PySem.W.codeIn K cd_BadAct "BadAct.__init__" = true) (ki_BadAct : PySem.W.keepIn K (.ref fi_BadAct) = true) (ti_BadAct : PySem.W.typeIn K (.ref fi_BadAct) = some (.type "function")) (oo_BadAct : OexC K C_BadAct) (nn_BadAct : PySem.W.findIn K (.ref C_BadAct) "reason" = some none) (xf_BadAct : xfB K C_BadAct = true) (em_BadAct : PySem.W.exmOne K (.ref C_BadAct) (.ref C_BadAct) = some true)
    (xkb1 : PySem.W.exmOne K (.ref C_BadText) (.ref C_BadDocument) = some false) (xkb2 : PySem.W.exmOne K (.ref C_BadDocument) (.ref C_BadText) = some false)
    (z_sorted : PySem.W.nsIn K mainGlobals "sorted" = some none) (z_set : PySem.W.nsIn K mainGlobals "set" = some none)
    {R_RN : Addr} {o_RN : Obj} {its_RN : Array Value} {n_RN : Nat} (g_RN : PySem.W.nsIn K mainGlobals "_ROLE_NAMES" = some (some (.ref R_RN))) (lo_RN : K.lookup R_RN = some o_RN) (cl_RN : o_RN.cls = .type "tuple") (di_RN : o_RN.dict = none) (da_RN : o_RN.data = .seq its_RN n_RN) (sz_RN : its_RN.size ≤ sizeLine) (va_RN : Vals (rnm.map V.str) its_RN.toList)
    {dd6 : DefRec} {cK6 : Value} {dc6 : Option Addr} {vs6 : Array Value} {sc6 : Array (Option Value)} (t1_6 : K.lookup c6 = some ⟨cK6, dc6, .fields vs6, sc6⟩) (u1_6 : vs6[11]? = some (.ref Pt6)) (n1_6 : K.lookup Pt6 = none) (r1_6 : (recsOf q).find? (fun e : DefRec => e.name == PySem.Str.ofString "_consists_of") = some dd6)
    {dd7 : DefRec} {cK7 : Value} {dc7 : Option Addr} {vs7 : Array Value} {sc7 : Array (Option Value)} (t1_7 : K.lookup c7 = some ⟨cK7, dc7, .fields vs7, sc7⟩) (u1_7 : vs7[11]? = some (.ref Pt7)) (n1_7 : K.lookup Pt7 = none) (r1_7 : (recsOf q).find? (fun e : DefRec => e.name == PySem.Str.ofString "_has_parts_of") = some dd7)
    {dd8 : DefRec} {cK8 : Value} {dc8 : Option Addr} {vs8 : Array Value} {sc8 : Array (Option Value)} (t1_8 : K.lookup c8 = some ⟨cK8, dc8, .fields vs8, sc8⟩) (u1_8 : vs8[11]? = some (.ref Pt8)) (n1_8 : K.lookup Pt8 = none) (r1_8 : (recsOf q).find? (fun e : DefRec => e.name == PySem.Str.ofString "is_printable") = some dd8)
    {dd14 : DefRec} {cK14 : Value} {dc14 : Option Addr} {vs14 : Array Value} {sc14 : Array (Option Value)} (t1_14 : K.lookup c14 = some ⟨cK14, dc14, .fields vs14, sc14⟩) (u1_14 : vs14[11]? = some (.ref Pt14)) (n1_14 : K.lookup Pt14 = none) (r1_14 : (recsOf q).find? (fun e : DefRec => e.name == PySem.Str.ofString "is_role") = some dd14)
    {dd15 : DefRec} {cK15 : Value} {dc15 : Option Addr} {vs15 : Array Value} {sc15 : Array (Option Value)} (t1_15 : K.lookup c15 = some ⟨cK15, dc15, .fields vs15, sc15⟩) (u1_15 : vs15[11]? = some (.ref Pt15)) (n1_15 : K.lookup Pt15 = none) (r1_15 : (recsOf q).find? (fun e : DefRec => e.name == PySem.Str.ofString "is_digest") = some dd15)
    {dd16 : DefRec} {cK16 : Value} {dc16 : Option Addr} {vs16 : Array Value} {sc16 : Array (Option Value)} (t1_16 : K.lookup c16 = some ⟨cK16, dc16, .fields vs16, sc16⟩) (u1_16 : vs16[11]? = some (.ref Pt16)) (n1_16 : K.lookup Pt16 = none) (r1_16 : (recsOf q).find? (fun e : DefRec => e.name == PySem.Str.ofString "is_grant") = some dd16)
    {dd17 : DefRec} {cK17 : Value} {dc17 : Option Addr} {vs17 : Array Value} {sc17 : Array (Option Value)} (t1_17 : K.lookup c17 = some ⟨cK17, dc17, .fields vs17, sc17⟩) (u1_17 : vs17[11]? = some (.ref Pt17)) (n1_17 : K.lookup Pt17 = none) (r1_17 : (recsOf q).find? (fun e : DefRec => e.name == PySem.Str.ofString "is_charter") = some dd17)
    {dd19 : DefRec} {cK19 : Value} {dc19 : Option Addr} {vs19 : Array Value} {sc19 : Array (Option Value)} (t1_19 : K.lookup c19 = some ⟨cK19, dc19, .fields vs19, sc19⟩) (u1_19 : vs19[11]? = some (.ref Pt19)) (n1_19 : K.lookup Pt19 = none) (r1_19 : (recsOf q).find? (fun e : DefRec => e.name == PySem.Str.ofString "is_shelf") = some dd19)
    {dd20 : DefRec} {cK20 : Value} {dc20 : Option Addr} {vs20 : Array Value} {sc20 : Array (Option Value)} (t1_20 : K.lookup c20 = some ⟨cK20, dc20, .fields vs20, sc20⟩) (u1_20 : vs20[11]? = some (.ref Pt20)) (n1_20 : K.lookup Pt20 = none) (r1_20 : (recsOf q).find? (fun e : DefRec => e.name == PySem.Str.ofString "is_list") = some dd20)
    {dd40 : DefRec} {cK40 : Value} {dc40 : Option Addr} {vs40 : Array Value} {sc40 : Array (Option Value)} (t1_40 : K.lookup c40 = some ⟨cK40, dc40, .fields vs40, sc40⟩) (u1_40 : vs40[11]? = some (.ref Pt40)) (n1_40 : K.lookup Pt40 = none) (r1_40 : (recsOf q).find? (fun e : DefRec => e.name == PySem.Str.ofString "_different_keys") = some dd40) :
    LamX.LawAtS l w K CX0 30 63 "script" mg fa h := by
  have e := hfa.symm.trans (PySem.W.mg_of X G a80)
  cases e
  have F0 := fun_mk (st := s_digest) l0 cc0 k0
  have b0 := F0.binds (ps := ["text"]) fun _ _ _ _ _ _ us hl => match us, hl with | [_], _ => rfl
  have F1 := fun_mk (st := s_is_list_name) l1 cc1 k1
  have b1 := F1.binds (ps := ["value"]) fun _ _ _ _ _ _ us hl => match us, hl with | [_], _ => rfl
  have F2 := fun_mk (st := s_is_key) l2 cc2 k2
  have b2 := F2.binds (ps := ["value"]) fun _ _ _ _ _ _ us hl => match us, hl with | [_], _ => rfl
  have F3 := fun_mk (st := s_is_path) l3 cc3 k3
  have b3 := F3.binds (ps := ["value"]) fun _ _ _ _ _ _ us hl => match us, hl with | [_], _ => rfl
  have F4 := fun_mk (st := s_is_pattern) l4 cc4 k4
  have b4 := F4.binds (ps := ["value"]) fun _ _ _ _ _ _ us hl => match us, hl with | [_], _ => rfl
  have F5 := fun_mk (st := s_ascends) l5 cc5 k5
  have b5 := F5.binds (ps := ["names"]) fun _ _ _ _ _ _ us hl => match us, hl with | [_], _ => rfl
  have F6 := fun_mk (st := s_consists_of) l6 cc6 k6
  have b6 := F6.binds (ps := ["text", "marks"]) fun _ _ _ _ _ _ us hl => match us, hl with | [_, _], _ => rfl
  have F7 := fun_mk (st := s_has_parts_of) l7 cc7 k7
  have b7 := F7.binds (ps := ["value", "marks"]) fun _ _ _ _ _ _ us hl => match us, hl with | [_, _], _ => rfl
  have F8 := fun_mk (st := s_is_printable) l8 cc8 k8
  have b8 := F8.binds (ps := ["value"]) fun _ _ _ _ _ _ us hl => match us, hl with | [_], _ => rfl
  have F9 := fun_mk (st := s_is_integer) l9 cc9 k9
  have b9 := F9.binds (ps := ["value", "least", "greatest"]) fun _ _ _ _ _ _ us hl => match us, hl with | [_, _, _], _ => rfl
  have F10 := fun_mk (st := s_encode) l10 cc10 k10
  have b10 := F10.binds (ps := ["value"]) fun _ _ _ _ _ _ us hl => match us, hl with | [_], _ => rfl
  have F11 := fun_mk (st := s_text_of) l11 cc11 k11
  have b11 := F11.binds (ps := ["value", "levels"]) fun _ _ _ _ _ _ us hl => match us, hl with | [_, _], _ => rfl
  have F12 := fun_mk (st := s_tuple_text) l12 cc12 k12
  have b12 := F12.binds (ps := ["parts", "levels"]) fun _ _ _ _ _ _ us hl => match us, hl with | [_, _], _ => rfl
  have F13 := fun_mk (st := s_greatest_integer) l13 cc13 k13
  have b13 := F13.binds (ps := []) fun _ _ _ _ _ _ us hl => match us, hl with | [], _ => rfl
  have F14 := fun_mk (st := s_is_role) l14 cc14 k14
  have b14 := F14.binds (ps := ["value"]) fun _ _ _ _ _ _ us hl => match us, hl with | [_], _ => rfl
  have F15 := fun_mk (st := s_is_digest) l15 cc15 k15
  have b15 := F15.binds (ps := ["value"]) fun _ _ _ _ _ _ us hl => match us, hl with | [_], _ => rfl
  have F16 := fun_mk (st := s_is_grant) l16 cc16 k16
  have b16 := F16.binds (ps := ["value"]) fun _ _ _ _ _ _ us hl => match us, hl with | [_], _ => rfl
  have F17 := fun_mk (st := s_is_charter) l17 cc17 k17
  have b17 := F17.binds (ps := ["value"]) fun _ _ _ _ _ _ us hl => match us, hl with | [_], _ => rfl
  have F18 := fun_mk (st := s_is_stamp) l18 cc18 k18
  have b18 := F18.binds (ps := ["value"]) fun _ _ _ _ _ _ us hl => match us, hl with | [_], _ => rfl
  have F19 := fun_mk (st := s_is_shelf) l19 cc19 k19
  have b19 := F19.binds (ps := ["value"]) fun _ _ _ _ _ _ us hl => match us, hl with | [_], _ => rfl
  have F20 := fun_mk (st := s_is_list) l20 cc20 k20
  have b20 := F20.binds (ps := ["value"]) fun _ _ _ _ _ _ us hl => match us, hl with | [_], _ => rfl
  have F21 := fun_mk (st := s_is_amount) l21 cc21 k21
  have b21 := F21.binds (ps := ["value"]) fun _ _ _ _ _ _ us hl => match us, hl with | [_], _ => rfl
  have F22 := fun_mk (st := s_write) l22 cc22 k22
  have b22 := F22.binds (ps := ["document"]) fun _ _ _ _ _ _ us hl => match us, hl with | [_], _ => rfl
  have F23 := fun_mk (st := s_published_name) l23 cc23 k23
  have b23 := F23.binds (ps := ["document"]) fun _ _ _ _ _ _ us hl => match us, hl with | [_], _ => rfl
  have F24 := fun_mk (st := s_name_of_charter) l24 cc24 k24
  have b24 := F24.binds (ps := ["version"]) fun _ _ _ _ _ _ us hl => match us, hl with | [_], _ => rfl
  have F25 := fun_mk (st := s_name_of_shelf) l25 cc25 k25
  have b25 := F25.binds (ps := ["version"]) fun _ _ _ _ _ _ us hl => match us, hl with | [_], _ => rfl
  have F26 := fun_mk (st := s_name_of_list) l26 cc26 k26
  have b26 := F26.binds (ps := ["name", "version"]) fun _ _ _ _ _ _ us hl => match us, hl with | [_, _], _ => rfl
  have F27 := fun_mk (st := s_is_tuple_of) l27 cc27 k27
  have b27 := F27.binds (ps := ["value", "many"]) fun _ _ _ _ _ _ us hl => match us, hl with | [_, _], _ => rfl
  have F28 := fun_mk (st := s_is_tuple_within) l28 cc28 k28
  have b28 := F28.binds (ps := ["value", "least", "most"]) fun _ _ _ _ _ _ us hl => match us, hl with | [_, _, _], _ => rfl
  have F29 := fun_mk (st := s_is_headed) l29 cc29 k29
  have b29 := F29.binds (ps := ["value", "word", "many"]) fun _ _ _ _ _ _ us hl => match us, hl with | [_, _, _], _ => rfl
  have F30 := fun_mk (st := s_is_version) l30 cc30 k30
  have b30 := F30.binds (ps := ["value"]) fun _ _ _ _ _ _ us hl => match us, hl with | [_], _ => rfl
  have F31 := fun_mk (st := s_is_entry) l31 cc31 k31
  have b31 := F31.binds (ps := ["value"]) fun _ _ _ _ _ _ us hl => match us, hl with | [_], _ => rfl
  have F32 := fun_mk (st := s_is_named_entry) l32 cc32 k32
  have b32 := F32.binds (ps := ["value"]) fun _ _ _ _ _ _ us hl => match us, hl with | [_], _ => rfl
  have F33 := fun_mk (st := s_is_good) l33 cc33 k33
  have b33 := F33.binds (ps := ["value"]) fun _ _ _ _ _ _ us hl => match us, hl with | [_], _ => rfl
  have F34 := fun_mk (st := s_require_document) l34 cc34 k34
  have b34 := F34.binds (ps := ["value"]) fun _ _ _ _ _ _ us hl => match us, hl with | [_], _ => rfl
  have F35 := fun_mk (st := s_Draft___init) l35 cc35 k35
  have b35 := F35.binds (ps := ["self"]) fun _ _ _ _ _ _ us hl => match us, hl with | [_], _ => rfl
  have F36 := fun_mk (st := s_Draft_put) l36 cc36 k36
  have b36 := F36.binds (ps := ["self", "name", "path", "text"]) fun _ _ _ _ _ _ us hl => match us, hl with | [_, _, _, _], _ => rfl
  have F37 := fun_mk (st := s_Draft__require_list) l37 cc37 k37
  have b37 := F37.binds (ps := ["self", "name"]) fun _ _ _ _ _ _ us hl => match us, hl with | [_, _], _ => rfl
  have F38 := fun_mk (st := s_require_path) l38 cc38 k38
  have b38 := F38.binds (ps := ["path"]) fun _ _ _ _ _ _ us hl => match us, hl with | [_], _ => rfl
  have F39 := fun_mk (st := s_seal) l39 cc39 k39
  have b39 := F39.binds (ps := ["office", "text", "keys"]) fun _ _ _ _ _ _ us hl => match us, hl with | [_, _, _], _ => rfl
  have F40 := fun_mk (st := s_different_keys) l40 cc40 k40
  have b40 := F40.binds (ps := ["keys"]) fun _ _ _ _ _ _ us hl => match us, hl with | [_], _ => rfl
  have F41 := fun_mk (st := s_role_of) l41 cc41 k41
  have b41 := F41.binds (ps := ["charter", "name"]) fun _ _ _ _ _ _ us hl => match us, hl with | [_, _], _ => rfl
  have F42 := fun_mk (st := s_Workshop___init) l42 cc42 k42
  have b42 := F42.binds (ps := ["self", "office", "roles", "expires"]) fun _ _ _ _ _ _ us hl => match us, hl with | [_, _, _, _], _ => rfl
  have F43 := fun_mk (st := s_Workshop_turn) l43 cc43 k43
  have b43 := F43.binds (ps := ["self", "roles", "expires"]) fun _ _ _ _ _ _ us hl => match us, hl with | [_, _, _], _ => rfl
  have F44 := fun_mk (st := s_Workshop_put) l44 cc44 k44
  have b44 := F44.binds (ps := ["self", "name", "path", "text"]) fun _ _ _ _ _ _ us hl => match us, hl with | [_, _, _, _], _ => rfl
  have F45 := fun_mk (st := s_Workshop_text) l45 cc45 k45
  have b45 := F45.binds (ps := ["self", "name"]) fun _ _ _ _ _ _ us hl => match us, hl with | [_, _], _ => rfl
  have F46 := fun_mk (st := s_Workshop_names) l46 cc46 k46
  have b46 := F46.binds (ps := ["self"]) fun _ _ _ _ _ _ us hl => match us, hl with | [_], _ => rfl
  have F47 := fun_mk (st := s_Workshop_first) l47 cc47 k47
  have b47 := F47.binds (ps := ["self"]) fun _ _ _ _ _ _ us hl => match us, hl with | [_], _ => rfl
  have F48 := fun_mk (st := s_Workshop_charters) l48 cc48 k48
  have b48 := F48.binds (ps := ["self"]) fun _ _ _ _ _ _ us hl => match us, hl with | [_], _ => rfl
  have F49 := fun_mk (st := s_Workshop__keys_of) l49 cc49 k49
  have b49 := F49.binds (ps := ["self", "role"]) fun _ _ _ _ _ _ us hl => match us, hl with | [_, _], _ => rfl
  have F50 := fun_mk (st := s_Workshop__issue) l50 cc50 k50
  have b50 := F50.binds (ps := ["self", "document", "keys"]) fun _ _ _ _ _ _ us hl => match us, hl with | [_, _, _], _ => rfl
  have F51 := fun_mk (st := s_Workshop__publish_charter) l51 cc51 k51
  have b51 := F51.binds (ps := ["self", "charter", "keys_before"]) fun _ _ _ _ _ _ us hl => match us, hl with | [_, _, _], _ => rfl
  have F52 := fun_mk (st := s_require_roles) l52 cc52 k52
  have b52 := F52.binds (ps := ["roles"]) fun _ _ _ _ _ _ us hl => match us, hl with | [_], _ => rfl
  have F53 := fun_mk (st := s_require_expires) l53 cc53 k53
  have b53 := F53.binds (ps := ["expires"]) fun _ _ _ _ _ _ us hl => match us, hl with | [_], _ => rfl
  have F54 := fun_mk (st := s_Seals___init) l54 cc54 k54
  have b54 := F54.binds (ps := ["self"]) fun _ _ _ _ _ _ us hl => match us, hl with | [_], _ => rfl
  have F55 := fun_mk (st := s_Seals_make) l55 cc55 k55
  have b55 := F55.binds (ps := ["self", "key", "text"]) fun _ _ _ _ _ _ us hl => match us, hl with | [_, _, _], _ => rfl
  have F56 := fun_mk (st := s_Seals_count) l56 cc56 k56
  have b56 := F56.binds (ps := ["self"]) fun _ _ _ _ _ _ us hl => match us, hl with | [_], _ => rfl
  have F57 := fun_mk (st := s_law_cell) l57 cc57 k57
  have b57 := F57.binds (ps := ["script", "k"]) fun _ _ _ _ _ _ us hl => match us, hl with | [_, _], _ => rfl
  have F58 := fun_mk (st := s_law_stream) l58 cc58 k58
  have b58 := F58.binds (ps := ["cell"]) fun _ _ _ _ _ _ us hl => match us, hl with | [_], _ => rfl
  have F59 := fun_mk (st := s_law_take) l59 cc59 k59
  have b59 := F59.binds (ps := ["stream", "many"]) fun _ _ _ _ _ _ us hl => match us, hl with | [_, _], _ => rfl
  have F60 := fun_mk (st := s_law_once) l60 cc60 k60
  have b60 := F60.binds (ps := ["keys"]) fun _ _ _ _ _ _ us hl => match us, hl with | [_], _ => rfl
  have F61 := fun_mk (st := s_law_digest) l61 cc61 k61
  have b61 := F61.binds (ps := ["text"]) fun _ _ _ _ _ _ us hl => match us, hl with | [_], _ => rfl
  have F62 := fun_mk (st := s_law_text) l62 cc62 k62
  have b62 := F62.binds (ps := ["value"]) fun _ _ _ _ _ _ us hl => match us, hl with | [_], _ => rfl
  have F63 := fun_mk (st := s_law_same) l63 cc63 k63
  have b63 := F63.binds (ps := ["actual", "expected"]) fun _ _ _ _ _ _ us hl => match us, hl with | [_, _], _ => rfl
  have F64 := fun_mk (st := s_law_counts) l64 cc64 k64
  have b64 := F64.binds (ps := ["actual", "expected"]) fun _ _ _ _ _ _ us hl => match us, hl with | [_, _], _ => rfl
  have F65 := fun_mk (st := s_law_all) l65 cc65 k65
  have b65 := F65.binds (ps := ["text", "chars"]) fun _ _ _ _ _ _ us hl => match us, hl with | [_, _], _ => rfl
  have F66 := fun_mk (st := s_law_number) l66 cc66 k66
  have b66 := F66.binds (ps := ["value", "least"]) fun _ _ _ _ _ _ us hl => match us, hl with | [_, _], _ => rfl
  have F67 := fun_mk (st := s_law_tuple) l67 cc67 k67
  have b67 := F67.binds (ps := ["value", "least", "most"]) fun _ _ _ _ _ _ us hl => match us, hl with | [_, _, _], _ => rfl
  have F68 := fun_mk (st := s_law_rising) l68 cc68 k68
  have b68 := F68.binds (ps := ["texts"]) fun _ _ _ _ _ _ us hl => match us, hl with | [_], _ => rfl
  have F69 := fun_mk (st := s_law_is_key) l69 cc69 k69
  have b69 := F69.binds (ps := ["value"]) fun _ _ _ _ _ _ us hl => match us, hl with | [_], _ => rfl
  have F70 := fun_mk (st := s_law_is_role) l70 cc70 k70
  have b70 := F70.binds (ps := ["value"]) fun _ _ _ _ _ _ us hl => match us, hl with | [_], _ => rfl
  have F71 := fun_mk (st := s_law_odd) l71 cc71 k71
  have b71 := F71.binds (ps := ["stream", "value"]) fun _ _ _ _ _ _ us hl => match us, hl with | [_, _], _ => rfl
  have F72 := fun_mk (st := s_law_spoilt) l72 cc72 k72
  have b72 := F72.binds (ps := ["stream", "value"]) fun _ _ _ _ _ _ us hl => match us, hl with | [_, _], _ => rfl
  have F73 := fun_mk (st := s_law_role) l73 cc73 k73
  have b73 := F73.binds (ps := ["stream"]) fun _ _ _ _ _ _ us hl => match us, hl with | [_], _ => rfl
  have F74 := fun_mk (st := s_law_roles) l74 cc74 k74
  have b74 := F74.binds (ps := ["stream"]) fun _ _ _ _ _ _ us hl => match us, hl with | [_], _ => rfl
  have F75 := fun_mk (st := s_law_time) l75 cc75 k75
  have b75 := F75.binds (ps := ["stream"]) fun _ _ _ _ _ _ us hl => match us, hl with | [_], _ => rfl
  have F76 := fun_mk (st := s_law_seal) l76 cc76 k76
  have b76 := F76.binds (ps := ["text", "keys"]) fun _ _ _ _ _ _ us hl => match us, hl with | [_, _], _ => rfl
  have F77 := fun_mk (st := s_law_are_roles) l77 cc77 k77
  have b77 := F77.binds (ps := ["value"]) fun _ _ _ _ _ _ us hl => match us, hl with | [_], _ => rfl
  have F78 := fun_mk (st := s_law_turned) l78 cc78 k78
  have b78 := F78.binds (ps := ["shop", "roles", "expires"]) fun _ _ _ _ _ _ us hl => match us, hl with | [_, _, _], _ => rfl
  have F79 := fun_mk (st := s_law_holds) l79 cc79 k79
  have b79 := F79.binds (ps := ["shop", "charters", "texts"]) fun _ _ _ _ _ _ us hl => match us, hl with | [_, _, _], _ => rfl
  have F80 := fun_mk (st := s_law) l80 cc80 k80
  have b80 := F80.binds (ps := ["script"]) fun _ _ _ _ _ _ us hl => match us, hl with | [_], _ => rfl
  have B : Blt mg := ⟨PySem.W.mg_none_of X G z_len, PySem.W.mg_none_of X G z_int, PySem.W.mg_none_of X G z_str, PySem.W.mg_none_of X G z_bool, PySem.W.mg_none_of X G z_list, PySem.W.mg_none_of X G z_tuple, PySem.W.mg_none_of X G z_range, PySem.W.mg_none_of X G z_isinstance, PySem.W.mg_none_of X G z_ord, PySem.W.mg_none_of X G z_all⟩
  have cl_Seals : Cls K C_Seals := ⟨pg_Seals, hd_Seals, po_Seals, sa_Seals⟩
  have cl_Draft : Cls K C_Draft := ⟨pg_Draft, hd_Draft, po_Draft, sa_Draft⟩
  have cl_Workshop : Cls K C_Workshop := ⟨pg_Workshop, hd_Workshop, po_Workshop, sa_Workshop⟩
  have E_BadText : Err K mg "BadText" C_BadText := ⟨PySem.W.mg_of X G g_BadText, e_BadText, ke_BadText, be_BadText, te_BadText, ie_BadText, se_BadText⟩
  have E_BadDocument : Err K mg "BadDocument" C_BadDocument := ⟨PySem.W.mg_of X G g_BadDocument, e_BadDocument, ke_BadDocument, be_BadDocument, te_BadDocument, ie_BadDocument, se_BadDocument⟩
  have E_BadKey : Err K mg "BadKey" C_BadKey := ⟨PySem.W.mg_of X G g_BadKey, e_BadKey, ke_BadKey, be_BadKey, te_BadKey, ie_BadKey, se_BadKey⟩
  obtain ⟨hC6, hP6⟩ := tab_mk T X r1_6 a6 l6 rfl t1_6 u1_6
  obtain ⟨hC7, hP7⟩ := tab_mk T X r1_7 a7 l7 rfl t1_7 u1_7
  obtain ⟨hC8, hP8⟩ := tab_mk T X r1_8 a8 l8 rfl t1_8 u1_8
  obtain ⟨hC14, hP14⟩ := tab_mk T X r1_14 a14 l14 rfl t1_14 u1_14
  obtain ⟨hC15, hP15⟩ := tab_mk T X r1_15 a15 l15 rfl t1_15 u1_15
  obtain ⟨hC16, hP16⟩ := tab_mk T X r1_16 a16 l16 rfl t1_16 u1_16
  obtain ⟨hC17, hP17⟩ := tab_mk T X r1_17 a17 l17 rfl t1_17 u1_17
  obtain ⟨hC19, hP19⟩ := tab_mk T X r1_19 a19 l19 rfl t1_19 u1_19
  obtain ⟨hC20, hP20⟩ := tab_mk T X r1_20 a20 l20 rfl t1_20 u1_20
  obtain ⟨hC40, hP40⟩ := tab_mk T X r1_40 a40 l40 rfl t1_40 u1_40
  have each : ∀ {φ : Addr × Addr → Prop}, φ (c6, Pt6) → φ (c7, Pt7) → φ (c8, Pt8) → φ (c14, Pt14) → φ (c15, Pt15) → φ (c16, Pt16) → φ (c17, Pt17) → φ (c19, Pt19) → φ (c20, Pt20) → φ (c40, Pt40) → ∀ p ∈ ([(c6, Pt6), (c7, Pt7), (c8, Pt8), (c14, Pt14), (c15, Pt15), (c16, Pt16), (c17, Pt17), (c19, Pt19), (c20, Pt20), (c40, Pt40)] : List (Addr × Addr)), φ p := fun h6 h7 h8 h14 h15 h16 h17 h19 h20 h40 p hp => by
    simp only [List.mem_cons, List.not_mem_nil, or_false] at hp
    rcases hp with rfl | rfl | rfl | rfl | rfl | rfl | rfl | rfl | rfl | rfl
    · exact h6
    · exact h7
    · exact h8
    · exact h14
    · exact h15
    · exact h16
    · exact h17
    · exact h19
    · exact h20
    · exact h40
  have eachT : ∀ {φ : Addr → Prop}, φ Pt6 → φ Pt7 → φ Pt8 → φ Pt14 → φ Pt15 → φ Pt16 → φ Pt17 → φ Pt19 → φ Pt20 → φ Pt40 → ∀ p ∈ ([Pt6, Pt7, Pt8, Pt14, Pt15, Pt16, Pt17, Pt19, Pt20, Pt40] : List Addr), φ p := fun h6 h7 h8 h14 h15 h16 h17 h19 h20 h40 p hp => by
    simp only [List.mem_cons, List.not_mem_nil, or_false] at hp
    rcases hp with rfl | rfl | rfl | rfl | rfl | rfl | rfl | rfl | rfl | rfl
    · exact h6
    · exact h7
    · exact h8
    · exact h14
    · exact h15
    · exact h16
    · exact h17
    · exact h19
    · exact h20
    · exact h40
  have m_Pt6 : Pt6 ∈ ([Pt6, Pt7, Pt8, Pt14, Pt15, Pt16, Pt17, Pt19, Pt20, Pt40] : List Addr) := List.mem_cons_self
  have m_Pt7 : Pt7 ∈ ([Pt6, Pt7, Pt8, Pt14, Pt15, Pt16, Pt17, Pt19, Pt20, Pt40] : List Addr) := List.mem_cons_of_mem _ (List.mem_cons_self)
  have m_Pt8 : Pt8 ∈ ([Pt6, Pt7, Pt8, Pt14, Pt15, Pt16, Pt17, Pt19, Pt20, Pt40] : List Addr) := List.mem_cons_of_mem _ (List.mem_cons_of_mem _ (List.mem_cons_self))
  have m_Pt14 : Pt14 ∈ ([Pt6, Pt7, Pt8, Pt14, Pt15, Pt16, Pt17, Pt19, Pt20, Pt40] : List Addr) := List.mem_cons_of_mem _ (List.mem_cons_of_mem _ (List.mem_cons_of_mem _ (List.mem_cons_self)))
  have m_Pt15 : Pt15 ∈ ([Pt6, Pt7, Pt8, Pt14, Pt15, Pt16, Pt17, Pt19, Pt20, Pt40] : List Addr) := List.mem_cons_of_mem _ (List.mem_cons_of_mem _ (List.mem_cons_of_mem _ (List.mem_cons_of_mem _ (List.mem_cons_self))))
  have m_Pt16 : Pt16 ∈ ([Pt6, Pt7, Pt8, Pt14, Pt15, Pt16, Pt17, Pt19, Pt20, Pt40] : List Addr) := List.mem_cons_of_mem _ (List.mem_cons_of_mem _ (List.mem_cons_of_mem _ (List.mem_cons_of_mem _ (List.mem_cons_of_mem _ (List.mem_cons_self)))))
  have m_Pt17 : Pt17 ∈ ([Pt6, Pt7, Pt8, Pt14, Pt15, Pt16, Pt17, Pt19, Pt20, Pt40] : List Addr) := List.mem_cons_of_mem _ (List.mem_cons_of_mem _ (List.mem_cons_of_mem _ (List.mem_cons_of_mem _ (List.mem_cons_of_mem _ (List.mem_cons_of_mem _ (List.mem_cons_self))))))
  have m_Pt19 : Pt19 ∈ ([Pt6, Pt7, Pt8, Pt14, Pt15, Pt16, Pt17, Pt19, Pt20, Pt40] : List Addr) := List.mem_cons_of_mem _ (List.mem_cons_of_mem _ (List.mem_cons_of_mem _ (List.mem_cons_of_mem _ (List.mem_cons_of_mem _ (List.mem_cons_of_mem _ (List.mem_cons_of_mem _ (List.mem_cons_self)))))))
  have m_Pt20 : Pt20 ∈ ([Pt6, Pt7, Pt8, Pt14, Pt15, Pt16, Pt17, Pt19, Pt20, Pt40] : List Addr) := List.mem_cons_of_mem _ (List.mem_cons_of_mem _ (List.mem_cons_of_mem _ (List.mem_cons_of_mem _ (List.mem_cons_of_mem _ (List.mem_cons_of_mem _ (List.mem_cons_of_mem _ (List.mem_cons_of_mem _ (List.mem_cons_self))))))))
  have m_Pt40 : Pt40 ∈ ([Pt6, Pt7, Pt8, Pt14, Pt15, Pt16, Pt17, Pt19, Pt20, Pt40] : List Addr) := List.mem_cons_of_mem _ (List.mem_cons_of_mem _ (List.mem_cons_of_mem _ (List.mem_cons_of_mem _ (List.mem_cons_of_mem _ (List.mem_cons_of_mem _ (List.mem_cons_of_mem _ (List.mem_cons_of_mem _ (List.mem_cons_of_mem _ (List.mem_cons_self)))))))))
  refine ⟨PySem.W.fnOf "law" "law" (defArgs s_law) (defBody s_law) (defScope s_law) .none kV80 doc80 pm80 an80 cd80 ct80, [(c6, Pt6), (c7, Pt7), (c8, Pt8), (c14, Pt14), (c15, Pt15), (c16, Pt16), (c17, Pt17), (c19, Pt19), (c20, Pt20), (c40, Pt40)], spLaw61 K ([Pt6, Pt7, Pt8, Pt14, Pt15, Pt16, Pt17, Pt19, Pt20, Pt40]), each hP6 hP7 hP8 hP14 hP15 hP16 hP17 hP19 hP20 hP40, each n1_6 n1_7 n1_8 n1_14 n1_15 n1_16 n1_17 n1_19 n1_20 n1_40, each hC6 hC7 hC8 hC14 hC15 hC16 hC17 hC19 hC20 hC40, fun s v => .of_eq rfl, fun H a ns hl hb ht hS => ?_, fun base KB GB TBs => ?_⟩
  · have g : Tabs ([Pt6, Pt7, Pt8, Pt14, Pt15, Pt16, Pt17, Pt19, Pt20, Pt40]) H := eachT ⟨#[], ht (c6, Pt6) (List.mem_cons_self), True.intro⟩ ⟨#[], ht (c7, Pt7) (List.mem_cons_of_mem _ (List.mem_cons_self)), True.intro⟩ ⟨#[], ht (c8, Pt8) (List.mem_cons_of_mem _ (List.mem_cons_of_mem _ (List.mem_cons_self))), True.intro⟩ ⟨#[], ht (c14, Pt14) (List.mem_cons_of_mem _ (List.mem_cons_of_mem _ (List.mem_cons_of_mem _ (List.mem_cons_self)))), True.intro⟩ ⟨#[], ht (c15, Pt15) (List.mem_cons_of_mem _ (List.mem_cons_of_mem _ (List.mem_cons_of_mem _ (List.mem_cons_of_mem _ (List.mem_cons_self))))), True.intro⟩ ⟨#[], ht (c16, Pt16) (List.mem_cons_of_mem _ (List.mem_cons_of_mem _ (List.mem_cons_of_mem _ (List.mem_cons_of_mem _ (List.mem_cons_of_mem _ (List.mem_cons_self)))))), True.intro⟩ ⟨#[], ht (c17, Pt17) (List.mem_cons_of_mem _ (List.mem_cons_of_mem _ (List.mem_cons_of_mem _ (List.mem_cons_of_mem _ (List.mem_cons_of_mem _ (List.mem_cons_of_mem _ (List.mem_cons_self))))))), True.intro⟩ ⟨#[], ht (c19, Pt19) (List.mem_cons_of_mem _ (List.mem_cons_of_mem _ (List.mem_cons_of_mem _ (List.mem_cons_of_mem _ (List.mem_cons_of_mem _ (List.mem_cons_of_mem _ (List.mem_cons_of_mem _ (List.mem_cons_self)))))))), True.intro⟩ ⟨#[], ht (c20, Pt20) (List.mem_cons_of_mem _ (List.mem_cons_of_mem _ (List.mem_cons_of_mem _ (List.mem_cons_of_mem _ (List.mem_cons_of_mem _ (List.mem_cons_of_mem _ (List.mem_cons_of_mem _ (List.mem_cons_of_mem _ (List.mem_cons_self))))))))), True.intro⟩ ⟨#[], ht (c40, Pt40) (List.mem_cons_of_mem _ (List.mem_cons_of_mem _ (List.mem_cons_of_mem _ (List.mem_cons_of_mem _ (List.mem_cons_of_mem _ (List.mem_cons_of_mem _ (List.mem_cons_of_mem _ (List.mem_cons_of_mem _ (List.mem_cons_of_mem _ (List.mem_cons_self)))))))))), True.intro⟩
    exact ⟨a, ns, rfl, hS, g, fun _ => rfl⟩
  have TB6 : GxR.TabB base mg c6 Pt6 := let z := TBs (c6, Pt6) (List.mem_cons_self); ⟨z.code, z.bm, z.gP⟩
  have TB7 : GxR.TabB base mg c7 Pt7 := let z := TBs (c7, Pt7) (List.mem_cons_of_mem _ (List.mem_cons_self)); ⟨z.code, z.bm, z.gP⟩
  have TB8 : GxR.TabB base mg c8 Pt8 := let z := TBs (c8, Pt8) (List.mem_cons_of_mem _ (List.mem_cons_of_mem _ (List.mem_cons_self))); ⟨z.code, z.bm, z.gP⟩
  have TB14 : GxR.TabB base mg c14 Pt14 := let z := TBs (c14, Pt14) (List.mem_cons_of_mem _ (List.mem_cons_of_mem _ (List.mem_cons_of_mem _ (List.mem_cons_self)))); ⟨z.code, z.bm, z.gP⟩
  have TB15 : GxR.TabB base mg c15 Pt15 := let z := TBs (c15, Pt15) (List.mem_cons_of_mem _ (List.mem_cons_of_mem _ (List.mem_cons_of_mem _ (List.mem_cons_of_mem _ (List.mem_cons_self))))); ⟨z.code, z.bm, z.gP⟩
  have TB16 : GxR.TabB base mg c16 Pt16 := let z := TBs (c16, Pt16) (List.mem_cons_of_mem _ (List.mem_cons_of_mem _ (List.mem_cons_of_mem _ (List.mem_cons_of_mem _ (List.mem_cons_of_mem _ (List.mem_cons_self)))))); ⟨z.code, z.bm, z.gP⟩
  have TB17 : GxR.TabB base mg c17 Pt17 := let z := TBs (c17, Pt17) (List.mem_cons_of_mem _ (List.mem_cons_of_mem _ (List.mem_cons_of_mem _ (List.mem_cons_of_mem _ (List.mem_cons_of_mem _ (List.mem_cons_of_mem _ (List.mem_cons_self))))))); ⟨z.code, z.bm, z.gP⟩
  have TB19 : GxR.TabB base mg c19 Pt19 := let z := TBs (c19, Pt19) (List.mem_cons_of_mem _ (List.mem_cons_of_mem _ (List.mem_cons_of_mem _ (List.mem_cons_of_mem _ (List.mem_cons_of_mem _ (List.mem_cons_of_mem _ (List.mem_cons_of_mem _ (List.mem_cons_self)))))))); ⟨z.code, z.bm, z.gP⟩
  have TB20 : GxR.TabB base mg c20 Pt20 := let z := TBs (c20, Pt20) (List.mem_cons_of_mem _ (List.mem_cons_of_mem _ (List.mem_cons_of_mem _ (List.mem_cons_of_mem _ (List.mem_cons_of_mem _ (List.mem_cons_of_mem _ (List.mem_cons_of_mem _ (List.mem_cons_of_mem _ (List.mem_cons_self))))))))); ⟨z.code, z.bm, z.gP⟩
  have TB40 : GxR.TabB base mg c40 Pt40 := let z := TBs (c40, Pt40) (List.mem_cons_of_mem _ (List.mem_cons_of_mem _ (List.mem_cons_of_mem _ (List.mem_cons_of_mem _ (List.mem_cons_of_mem _ (List.mem_cons_of_mem _ (List.mem_cons_of_mem _ (List.mem_cons_of_mem _ (List.mem_cons_of_mem _ (List.mem_cons_self)))))))))); ⟨z.code, z.bm, z.gP⟩
  have c_law_cell : Cal l.prog w K mg base CX0 (1) "_law_cell" (spCell K) := ⟨⟨f57, _, _, ok_cell F57 B, PySem.W.mg_of X G a57, k57, b57⟩⟩
  have c_law_stream : Cal l.prog w K mg base CX0 (1) "_law_stream" (spStream) := ⟨⟨f58, _, _, ok_stream F58 B, PySem.W.mg_of X G a58, k58, b58⟩⟩
  have c_law_take : Cal l.prog w K mg base CX0 (1) "_law_take" (spTake) := ⟨⟨f59, _, _, ok_take F59 B, PySem.W.mg_of X G a59, k59, b59⟩⟩
  have D : DgC mg := ⟨⟨_, PySem.W.mg_of X G v_FACTOR⟩, ⟨_, PySem.W.mg_of X G v_DIVISOR⟩, ⟨_, PySem.W.mg_of X G v_DIGEST_LENGTH⟩⟩
  have c_digest : Cal l.prog w K mg base CX0 (1) "digest" (spDigest) := ⟨⟨f0, _, _, ok_digest F0 B D, PySem.W.mg_of X G a0, k0, b0⟩⟩
  have DN : NmC mg := ⟨⟨_, PySem.W.mg_of X G v_DIGITS⟩, ⟨_, PySem.W.mg_of X G v_MOST_NAME⟩⟩
  have DD : DcC mg := ⟨⟨_, PySem.W.mg_of X G v_MOST_KEYS⟩⟩
  have c_is_integer : Cal l.prog w K mg base CX0 (1) "is_integer" (spIntg) := ⟨⟨f9, _, _, ok_integer F9 B, PySem.W.mg_of X G a9, k9, b9⟩⟩
  have c_consists_of : Cal l.prog w K mg base CX0 (3) "_consists_of" (spCons Pt6) := ⟨⟨f6, _, _, ok_consists B TB6 l6 cc6, PySem.W.mg_of X G a6, k6, b6⟩⟩
  have c_is_key : Cal l.prog w K mg base CX0 (4) "is_key" (spNm kyV Pt6) := ⟨⟨f2, _, _, ok_key F2 B DN c_consists_of, PySem.W.mg_of X G a2, k2, b2⟩⟩
  have c_ascends : Cal l.prog w K mg base CX0 (1) "ascends" (spAsc K) := ⟨⟨f5, _, _, ok_asc F5 B (PySem.W.mg_none_of X G z_sorted) (PySem.W.mg_none_of X G z_set), PySem.W.mg_of X G a5, k5, b5⟩⟩
  have c_is_tuple_of : Cal l.prog w K mg base CX0 (1) "_is_tuple_of" (spTOf) := ⟨⟨f27, _, _, ok_tof F27 B, PySem.W.mg_of X G a27, k27, b27⟩⟩
  have c_is_tuple_within : Cal l.prog w K mg base CX0 (1) "_is_tuple_within" (spTIn) := ⟨⟨f28, _, _, ok_tin F28 B, PySem.W.mg_of X G a28, k28, b28⟩⟩
  have c_is_role : Cal l.prog w K mg base CX0 (8) "is_role" (spDoc isRole ([Pt6, Pt7, Pt8, Pt14, Pt15, Pt16, Pt17, Pt19, Pt20, Pt40])) := ⟨⟨f14, _, _, ok_role B TB14 DD m_Pt14 m_Pt6 l14 cc14 c_is_tuple_of c_is_tuple_within c_is_key c_ascends c_is_integer, PySem.W.mg_of X G a14, k14, b14⟩⟩
  have DH : DhC mg := ⟨⟨_, PySem.W.mg_of X G v_MOST_NUMBER⟩⟩
  have c_is_headed : Cal l.prog w K mg base CX0 (2) "_is_headed" (spHead) := ⟨⟨f29, _, _, ok_headed F29 B c_is_tuple_of, PySem.W.mg_of X G a29, k29, b29⟩⟩
  have c_is_version : Cal l.prog w K mg base CX0 (2) "_is_version" (spNumP 1) := ⟨⟨f30, _, _, ok_version F30 B DH c_is_integer, PySem.W.mg_of X G a30, k30, b30⟩⟩
  have c_is_amount : Cal l.prog w K mg base CX0 (2) "is_amount" (spNumP 0) := ⟨⟨f21, _, _, ok_amount F21 B DH c_is_integer, PySem.W.mg_of X G a21, k21, b21⟩⟩
  have DP : PaC mg := ⟨⟨_, PySem.W.mg_of X G v_MOST_PATH⟩, ⟨_, PySem.W.mg_of X G v_MOST_PARTS⟩, ⟨_, PySem.W.mg_of X G v_PART_MARKS⟩⟩
  have DGR : DgrC mg := ⟨⟨_, PySem.W.mg_of X G v_MOST_PATTERNS⟩, ⟨_, PySem.W.mg_of X G v_TOP_LIST⟩⟩
  have DLS : DlsC mg := ⟨⟨_, PySem.W.mg_of X G v_MOST_GOODS⟩, ⟨_, PySem.W.mg_of X G v_MOST_LISTS⟩⟩
  have DCH : DchC mg := ⟨⟨_, PySem.W.mg_of X G v_ROLES⟩⟩
  have DSH : DshC mg := ⟨⟨_, PySem.W.mg_of X G v_MOST_LISTS⟩, ⟨_, PySem.W.mg_of X G v_TOP_LIST⟩⟩
  have c_is_list_name : Cal l.prog w K mg base CX0 (4) "is_list_name" (spNm lnV Pt6) := ⟨⟨f1, _, _, ok_list_name F1 B DN ⟨_, PySem.W.mg_of X G v_LETTERS⟩ c_consists_of, PySem.W.mg_of X G a1, k1, b1⟩⟩
  have c_has_parts_of : Cal l.prog w K mg base CX0 (6) "_has_parts_of" (spPartsOf ([Pt6, Pt7, Pt8, Pt14, Pt15, Pt16, Pt17, Pt19, Pt20, Pt40])) := ⟨⟨f7, _, _, ok_parts_of B TB7 DP m_Pt7 m_Pt6 l7 cc7 c_consists_of, PySem.W.mg_of X G a7, k7, b7⟩⟩
  have c_is_pattern : Cal l.prog w K mg base CX0 (7) "is_pattern" (spPa ptM ([Pt6, Pt7, Pt8, Pt14, Pt15, Pt16, Pt17, Pt19, Pt20, Pt40])) := ⟨⟨f4, _, _, ok_pattern F4 B DP c_has_parts_of, PySem.W.mg_of X G a4, k4, b4⟩⟩
  have c_is_path : Cal l.prog w K mg base CX0 (7) "is_path" (spPa paM ([Pt6, Pt7, Pt8, Pt14, Pt15, Pt16, Pt17, Pt19, Pt20, Pt40])) := ⟨⟨f3, _, _, ok_path F3 B DP c_has_parts_of, PySem.W.mg_of X G a3, k3, b3⟩⟩
  have c_is_grant : Cal l.prog w K mg base CX0 (11) "is_grant" (spDoc isGrant ([Pt6, Pt7, Pt8, Pt14, Pt15, Pt16, Pt17, Pt19, Pt20, Pt40])) := ⟨⟨f16, _, _, ok_grant B TB16 DGR m_Pt16 m_Pt6 l16 cc16 c_is_tuple_of c_is_tuple_within c_is_list_name c_is_role c_is_pattern c_is_integer, PySem.W.mg_of X G a16, k16, b16⟩⟩
  have DG : DdC mg := ⟨⟨_, PySem.W.mg_of X G v_DIGEST_LENGTH⟩, ⟨_, PySem.W.mg_of X G v_DIGEST_MARKS⟩⟩
  have c_is_digest : Cal l.prog w K mg base CX0 (3) "is_digest" (spDoc isDig ([Pt6, Pt7, Pt8, Pt14, Pt15, Pt16, Pt17, Pt19, Pt20, Pt40])) := ⟨⟨f15, _, _, ok_digestD B TB15 DG m_Pt15 l15 cc15, PySem.W.mg_of X G a15, k15, b15⟩⟩
  have c_is_entry : Cal l.prog w K mg base CX0 (4) "_is_entry" (spDoc isEntry ([Pt6, Pt7, Pt8, Pt14, Pt15, Pt16, Pt17, Pt19, Pt20, Pt40])) := ⟨⟨f31, _, _, ok_entry F31 B c_is_tuple_of c_is_version c_is_amount c_is_digest, PySem.W.mg_of X G a31, k31, b31⟩⟩
  have c_is_good : Cal l.prog w K mg base CX0 (8) "_is_good" (spDoc isGood ([Pt6, Pt7, Pt8, Pt14, Pt15, Pt16, Pt17, Pt19, Pt20, Pt40])) := ⟨⟨f33, _, _, ok_good F33 B c_is_tuple_of c_is_path c_is_amount c_is_digest, PySem.W.mg_of X G a33, k33, b33⟩⟩
  have c_is_charter : Cal l.prog w K mg base CX0 (12) "is_charter" (spDoc isCharter ([Pt6, Pt7, Pt8, Pt14, Pt15, Pt16, Pt17, Pt19, Pt20, Pt40])) := ⟨⟨f17, _, _, ok_charter B TB17 DCH m_Pt17 l17 cc17 c_is_headed c_is_version c_is_amount c_is_tuple_of c_is_role, PySem.W.mg_of X G a17, k17, b17⟩⟩
  have c_is_stamp : Cal l.prog w K mg base CX0 (12) "is_stamp" (spDoc isStamp ([Pt6, Pt7, Pt8, Pt14, Pt15, Pt16, Pt17, Pt19, Pt20, Pt40])) := ⟨⟨f18, _, _, ok_stamp F18 B c_is_headed c_is_version c_is_amount c_is_entry, PySem.W.mg_of X G a18, k18, b18⟩⟩
  have c_is_named_entry : Cal l.prog w K mg base CX0 (5) "_is_named_entry" (spDoc isNE ([Pt6, Pt7, Pt8, Pt14, Pt15, Pt16, Pt17, Pt19, Pt20, Pt40])) := ⟨⟨f32, _, _, ok_nentry F32 B m_Pt6 c_is_tuple_of c_is_list_name c_is_entry, PySem.W.mg_of X G a32, k32, b32⟩⟩
  have c_is_shelf : Cal l.prog w K mg base CX0 (12) "is_shelf" (spDoc isShelf ([Pt6, Pt7, Pt8, Pt14, Pt15, Pt16, Pt17, Pt19, Pt20, Pt40])) := ⟨⟨f19, _, _, ok_shelf B TB19 DSH m_Pt19 l19 cc19 c_is_headed c_is_version c_is_amount c_is_tuple_within c_is_named_entry c_ascends, PySem.W.mg_of X G a19, k19, b19⟩⟩
  have c_is_list : Cal l.prog w K mg base CX0 (15) "is_list" (spDoc isList ([Pt6, Pt7, Pt8, Pt14, Pt15, Pt16, Pt17, Pt19, Pt20, Pt40])) := ⟨⟨f20, _, _, ok_list B (PySem.W.mg_none_of X G z_sorted) TB20 DLS m_Pt20 m_Pt6 l20 cc20 c_is_headed c_is_list_name c_is_version c_is_amount c_is_tuple_within c_is_good c_is_grant c_ascends, PySem.W.mg_of X G a20, k20, b20⟩⟩
  have TX : TxtC K mg C_BadText t_MOST_DIGITS t_MOST_DEPTH t_MOST_TEXT := ⟨E_BadText, PySem.W.mg_of X G v_MOST_DIGITS, PySem.W.mg_of X G v_MOST_DEPTH, PySem.W.mg_of X G v_MOST_TEXT⟩
  have c_is_printable : Cal l.prog w K mg base CX0 (3) "is_printable" (spPrn Pt8) := ⟨⟨f8, _, _, ok_printable B (PySem.W.mg_of X G v_BARRED_CODE) TB8 l8 cc8, PySem.W.mg_of X G a8, k8, b8⟩⟩
  have c_greatest_integer : Cal l.prog w K mg base CX0 (1) "_greatest_integer" (spGreat) := ⟨⟨f13, _, _, ok_great F13 B TX, PySem.W.mg_of X G a13, k13, b13⟩⟩
  have r_tuple : ∀ n : Nat, Cal l.prog w K mg base (L2.CX l.prog w) (2 * n + 4) "_tuple_text" (spTup C_BadText Pt8 n) := by
    intro n
    induction n with
    | zero => exact ⟨⟨f12, _, _, ok_tuple0 F12 B TX, PySem.W.mg_of X G a12, k12, b12⟩⟩
    | succ n ih =>
      have c1 : Cal l.prog w K mg base (L2.CX l.prog w) (2 * n + 5) "_text_of" (spText C_BadText Pt8 n) := ⟨⟨f11, _, _, ok_text_of (by omega) F11 B TX c_is_printable c_is_integer c_greatest_integer ih, PySem.W.mg_of X G a11, k11, b11⟩⟩
      exact ⟨⟨f12, _, _, ok_tuple (by omega) F12 B TX c1, PySem.W.mg_of X G a12, k12, b12⟩⟩
  have c_text8 : Cal l.prog w K mg base (L2.CX l.prog w) (21) "_text_of" (spText C_BadText Pt8 8) := ⟨⟨f11, _, _, ok_text_of (by omega) F11 B TX c_is_printable c_is_integer c_greatest_integer (r_tuple 8), PySem.W.mg_of X G a11, k11, b11⟩⟩
  have c_encode : Cal l.prog w K mg base (L2.CX l.prog w) (23) "encode" (spEnc C_BadText Pt8) := ⟨⟨f10, _, _, ok_encode F10 B TX (c_text8.mono (by decide)), PySem.W.mg_of X G a10, k10, b10⟩⟩
  have BD : BdC K mg C_BadDocument := ⟨E_BadDocument⟩
  have c_require_document : Cal l.prog w K mg base (L2.CX l.prog w) (16) "_require_document" (spReq C_BadDocument ([Pt6, Pt7, Pt8, Pt14, Pt15, Pt16, Pt17, Pt19, Pt20, Pt40])) := ⟨⟨f34, _, _, ok_reqdoc F34 B BD c_is_charter c_is_stamp c_is_shelf c_is_list, PySem.W.mg_of X G a34, k34, b34⟩⟩
  have c_write : Cal l.prog w K mg base (L2.CX l.prog w) (24) "write" (spWrite C_BadDocument ([Pt6, Pt7, Pt8, Pt14, Pt15, Pt16, Pt17, Pt19, Pt20, Pt40])) := ⟨⟨f22, _, _, ok_write F22 B m_Pt8 c_require_document c_encode, PySem.W.mg_of X G a22, k22, b22⟩⟩
  have c_name_of_charter : Cal l.prog w K mg base CX0 (1) "name_of_charter" (spNmC (Str.ofString ".charter")) := ⟨⟨f24, _, _, ok_name_charter F24 B, PySem.W.mg_of X G a24, k24, b24⟩⟩
  have c_name_of_shelf : Cal l.prog w K mg base CX0 (1) "name_of_shelf" (spNmC (Str.ofString ".shelf")) := ⟨⟨f25, _, _, ok_name_shelf F25 B, PySem.W.mg_of X G a25, k25, b25⟩⟩
  have c_name_of_list : Cal l.prog w K mg base CX0 (1) "name_of_list" (spNmL) := ⟨⟨f26, _, _, ok_name_list F26 B, PySem.W.mg_of X G a26, k26, b26⟩⟩
  have c_published_name : Cal l.prog w K mg base (L2.CX l.prog w) (17) "published_name" (spPub C_BadDocument ([Pt6, Pt7, Pt8, Pt14, Pt15, Pt16, Pt17, Pt19, Pt20, Pt40])) := ⟨⟨f23, _, _, ok_pub F23 B ⟨_, PySem.W.mg_of X G v_STAMP_NAME⟩ c_require_document c_name_of_charter c_name_of_shelf c_name_of_list, PySem.W.mg_of X G a23, k23, b23⟩⟩
  have TS : SlC K mg C_Seals C_BadKey C_BadText := ⟨cl_Seals, na_marks_Seals, E_BadKey, E_BadText⟩
  have k_Seals : CalK l.prog w K mg base CX0 (1) C_Seals "Seals" (spInit C_Seals) := ⟨⟨f54, _, _, ok_sinit F54 TS, ⟨mk_Seals, a54, i54, kc_Seals⟩, b54⟩, PySem.W.mg_of X G aC_Seals⟩
  have m_make : CalM l.prog w K mg base (L2.CX l.prog w) (5) C_Seals "make" (spMake C_Seals C_BadKey C_BadText ([Pt6, Pt7, Pt8, Pt14, Pt15, Pt16, Pt17, Pt19, Pt20, Pt40])) := ⟨⟨f55, _, _, ok_smake F55 B TS m_Pt8 m_Pt6 c_is_key c_is_printable c_digest, ⟨a55, i55, k55⟩, b55⟩, cl_Seals⟩
  have m_count : CalM l.prog w K mg base CX0 (1) C_Seals "count" (spCount C_Seals) := ⟨⟨f56, _, _, ok_scount F56 B TS, ⟨a56, i56, k56⟩, b56⟩, cl_Seals⟩
  have c_different_keys : Cal l.prog w K mg base (L2.CX l.prog w) (8) "_different_keys" (spDiff C_BadKey K ([Pt6, Pt7, Pt8, Pt14, Pt15, Pt16, Pt17, Pt19, Pt20, Pt40])) := ⟨⟨f40, _, _, ok_diff B (PySem.W.mg_none_of X G z_sorted) (PySem.W.mg_none_of X G z_set) TB40 ⟨⟨_, PySem.W.mg_of X G v_MOST_SEALS⟩⟩ TS m_Pt40 m_Pt6 l40 cc40 c_is_key, PySem.W.mg_of X G a40, k40, b40⟩⟩
  have c_seal : Cal l.prog w K mg base (L2.CX l.prog w) (24) "seal" (spSeal2 C_Seals C_BadKey C_BadText K ([Pt6, Pt7, Pt8, Pt14, Pt15, Pt16, Pt17, Pt19, Pt20, Pt40])) := ⟨⟨f39, _, _, ok_seal2 F39 B D TS m_Pt8 c_different_keys c_is_printable c_encode m_make, PySem.W.mg_of X G a39, k39, b39⟩⟩
  have RN : RnC K mg R_RN := ⟨PySem.W.mg_of X G g_RN, ⟨o_RN, its_RN, n_RN, lo_RN, cl_RN, di_RN, da_RN, sz_RN, va_RN⟩⟩
  have c_role_of : Cal l.prog w K mg base CX0 (1) "role_of" (spRoleOf) := ⟨⟨f41, _, _, ok_roleof F41 RN, PySem.W.mg_of X G a41, k41, b41⟩⟩
  have Fi_BadAct := fun_mk (st := s_BadAct___init) li_BadAct ci_BadAct ki_BadAct
  have bi_BadAct := Fi_BadAct.binds (ps := ["self", "reason"]) fun _ _ _ _ _ _ us hl => match us, hl with | [_, _], _ => rfl
  have EO_BadAct : EOwn l.prog w K mg base "BadAct" C_BadAct := ⟨PySem.W.mg_of X G g_BadAct, oo_BadAct, nn_BadAct, ⟨_, _, ai_BadAct, ti_BadAct, ok_rin_BadAct Fi_BadAct, okh_rin_BadAct Fi_BadAct, bi_BadAct⟩, xfB_ok xf_BadAct, em_BadAct⟩
  have EWA : WaC l.prog w K mg base C_BadAct := ⟨EO_BadAct⟩
  have EWS : WsC K C_Workshop := ⟨cl_Workshop, na_office_Workshop, na_draft_Workshop, na_texts_Workshop, na_charters_Workshop, na_stamps_Workshop, na_snapshots_Workshop, na_latest_Workshop, na_entry_Workshop⟩
  have EDR : DrC K C_Draft := ⟨cl_Draft, na_files_Draft, na_grants_Draft, na_old_keys_Draft⟩
  have ETL : TlC mg := ⟨⟨_, PySem.W.mg_of X G v_TOP_LIST⟩⟩
  have c_require_roles : Cal l.prog w K mg base (CXG l.prog w) (13) "_require_roles" (spReqRoles C_BadAct ([Pt6, Pt7, Pt8, Pt14, Pt15, Pt16, Pt17, Pt19, Pt20, Pt40])) := ⟨⟨f52, _, _, ok_reqroles F52 EWA c_is_charter, PySem.W.mg_of X G a52, k52, b52⟩⟩
  have c_require_expires : Cal l.prog w K mg base (CXG l.prog w) (3) "_require_expires" (spReqExp C_BadAct) := ⟨⟨f53, _, _, ok_reqexp F53 EWA c_is_amount, PySem.W.mg_of X G a53, k53, b53⟩⟩
  have k_Draft : CalK l.prog w K mg base CX0 (1) C_Draft "Draft" (spDrInit C_Draft) := ⟨⟨f35, _, _, ok_drinit F35 EDR ETL, ⟨mk_Draft, a35, i35, kc_Draft⟩, b35⟩, PySem.W.mg_of X G aC_Draft⟩
  have m_Workshop_keys_of : CalM l.prog w K mg base CX0 (2) C_Workshop "_keys_of" (spWKeys C_Workshop C_Draft C_Seals) := ⟨⟨f49, _, _, ok_wkeys F49 B EWS c_role_of, ⟨a49, i49, k49⟩, b49⟩, cl_Workshop⟩
  have m_Workshop_issue : CalM l.prog w K mg base (L2.CX l.prog w) (25) C_Workshop "_issue" (spWIss C_Workshop C_Draft C_Seals ([Pt6, Pt7, Pt8, Pt14, Pt15, Pt16, Pt17, Pt19, Pt20, Pt40])) := ⟨⟨f50, _, _, ok_wissue F50 EWS c_published_name c_write c_seal, ⟨a50, i50, k50⟩, b50⟩, cl_Workshop⟩
  have m_Workshop_publish_charter : CalM l.prog w K mg base (L2.CX l.prog w) (26) C_Workshop "_publish_charter" (spWPubC C_Workshop C_Draft C_Seals ([Pt6, Pt7, Pt8, Pt14, Pt15, Pt16, Pt17, Pt19, Pt20, Pt40])) := ⟨⟨f51, _, _, ok_wpubc F51 EWS m_Workshop_keys_of m_Workshop_issue, ⟨a51, i51, k51⟩, b51⟩, cl_Workshop⟩
  have m_Workshop_text : CalM l.prog w K mg base CX0 (1) C_Workshop "text" (spWText C_Workshop C_Draft C_Seals) := ⟨⟨f45, _, _, ok_wtext F45 EWS, ⟨a45, i45, k45⟩, b45⟩, cl_Workshop⟩
  have m_Workshop_names : CalM l.prog w K mg base CX0 (1) C_Workshop "names" (spWNames C_Workshop C_Draft C_Seals) := ⟨⟨f46, _, _, ok_wnames F46 B (PySem.W.mg_none_of X G z_sorted) EWS, ⟨a46, i46, k46⟩, b46⟩, cl_Workshop⟩
  have m_Workshop_first : CalM l.prog w K mg base (L2.CX l.prog w) (18) C_Workshop "first" (spWFirst C_Workshop C_Draft C_Seals ([Pt6, Pt7, Pt8, Pt14, Pt15, Pt16, Pt17, Pt19, Pt20, Pt40])) := ⟨⟨f47, _, _, ok_wfirst F47 EWS c_published_name, ⟨a47, i47, k47⟩, b47⟩, cl_Workshop⟩
  have m_Workshop_charters : CalM l.prog w K mg base CX0 (1) C_Workshop "charters" (spWChs C_Workshop C_Draft C_Seals) := ⟨⟨f48, _, _, ok_wchs F48 B EWS, ⟨a48, i48, k48⟩, b48⟩, cl_Workshop⟩
  have m_Workshop_turn : CalM l.prog w K mg base (CXG l.prog w) (27) C_Workshop "turn" (spWTurn C_Workshop C_Draft C_Seals C_BadAct ([Pt6, Pt7, Pt8, Pt14, Pt15, Pt16, Pt17, Pt19, Pt20, Pt40])) := ⟨⟨f43, _, _, ok_wturn F43 B EWS c_require_roles c_require_expires m_Workshop_keys_of m_Workshop_publish_charter, ⟨a43, i43, k43⟩, b43⟩, cl_Workshop⟩
  have k_Workshop : CalK l.prog w K mg base (CXG l.prog w) (27) C_Workshop "Workshop" (spWInit C_Workshop C_Draft C_Seals C_BadAct ([Pt6, Pt7, Pt8, Pt14, Pt15, Pt16, Pt17, Pt19, Pt20, Pt40])) := ⟨⟨f42, _, _, ok_winit F42 EWS c_require_roles c_require_expires k_Draft m_Workshop_publish_charter, ⟨mk_Workshop, a42, i42, kc_Workshop⟩, b42⟩, PySem.W.mg_of X G aC_Workshop⟩
  have EDM : DmC mg := ⟨⟨_, PySem.W.mg_of X G v_MOST_GOODS⟩, ⟨_, PySem.W.mg_of X G v_MOST_TEXT⟩⟩
  have c_require_path : Cal l.prog w K mg base (CXG l.prog w) (8) "_require_path" (spReqPath C_BadAct ([Pt6, Pt7, Pt8, Pt14, Pt15, Pt16, Pt17, Pt19, Pt20, Pt40])) := ⟨⟨f38, _, _, ok_reqpath F38 EWA c_is_path, PySem.W.mg_of X G a38, k38, b38⟩⟩
  have m_Draft_require_list : CalM l.prog w K mg base (CXG l.prog w) (3) C_Draft "_require_list" (spReqList C_Workshop C_Draft C_Seals C_BadAct) := ⟨⟨f37, _, _, ok_reqlist F37 B EDR EWA, ⟨a37, i37, k37⟩, b37⟩, cl_Draft⟩
  have m_Draft_put : CalM l.prog w K mg base (CXG l.prog w) (9) C_Draft "put" (spDPut C_Workshop C_Draft C_Seals C_BadAct ([Pt6, Pt7, Pt8, Pt14, Pt15, Pt16, Pt17, Pt19, Pt20, Pt40]) fun _ A ↦ A.dr) := ⟨⟨f36, _, _, ok_dput F36 B EDM EDR EWA m_Pt8 m_Draft_require_list c_require_path c_is_printable c_digest, ⟨a36, i36, k36⟩, b36⟩, cl_Draft⟩
  have m_Workshop_put : CalM l.prog w K mg base (CXG l.prog w) (10) C_Workshop "put" (spDPut C_Workshop C_Draft C_Seals C_BadAct ([Pt6, Pt7, Pt8, Pt14, Pt15, Pt16, Pt17, Pt19, Pt20, Pt40]) fun o _ ↦ o) := ⟨⟨f44, _, _, ok_wput F44 EWS m_Draft_put, ⟨a44, i44, k44⟩, b44⟩, cl_Workshop⟩
  have c_law_all : Cal l.prog w K mg base CX0 (1) "_law_all" (spLAll) := ⟨⟨f65, _, _, ok_lall F65 B, PySem.W.mg_of X G a65, k65, b65⟩⟩
  have c_law_number : Cal l.prog w K mg base CX0 (1) "_law_number" (spLNum) := ⟨⟨f66, _, _, ok_lnum F66 B, PySem.W.mg_of X G a66, k66, b66⟩⟩
  have c_law_tuple : Cal l.prog w K mg base CX0 (1) "_law_tuple" (spTIn) := ⟨⟨f67, _, _, ok_ltup F67 B, PySem.W.mg_of X G a67, k67, b67⟩⟩
  have c_law_odd : Cal l.prog w K mg base CX0 (2) "_law_odd" (fun vs H Q E ↦ ∃ n, n ≤ 9 ∧ spOddS n vs H Q E) := ⟨⟨f71, _, _, fnok_ex fun n hn ↦ ok_odds F71 B c_law_take, PySem.W.mg_of X G a71, k71, b71⟩⟩
  have c_odd : ∀ n, n ≤ 9 → Cal l.prog w K mg base CX0 (2) "_law_odd" (spOddS n) := fun n hn => c_law_odd.imp fun _ _ _ _ h => ⟨n, hn, h⟩
  have c_sp0 : Cal l.prog w K mg base CX0 (3) "_law_spoilt" (fun _ _ _ _ ↦ False) := ⟨⟨f72, _, _, ok_never, PySem.W.mg_of X G a72, k72, b72⟩⟩
  have r_spoilt : ∀ n : Nat, n ≤ 9 → Cal l.prog w K mg base CX0 (n + 4) "_law_spoilt" (spOddS n) := by
    intro n
    induction n with
    | zero => exact fun _ => ⟨⟨f72, _, _, ok_spoilts0 F72 B (by decide) c_law_take (c_odd 0 (by decide)) c_sp0, PySem.W.mg_of X G a72, k72, b72⟩⟩
    | succ n ih => exact fun hn => ⟨⟨f72, _, _, ok_spoilts F72 B (by omega) c_law_take (c_odd (n + 1) hn) (ih (by omega)) (by omega), PySem.W.mg_of X G a72, k72, b72⟩⟩
  have c_law_once : Cal l.prog w K mg base CX0 (1) "_law_once" (spOnce K) := ⟨⟨f60, _, _, ok_once F60 B (PySem.W.mg_none_of X G z_sorted), PySem.W.mg_of X G a60, k60, b60⟩⟩
  have c_law_rising : Cal l.prog w K mg base CX0 (1) "_law_rising" (spRise K) := ⟨⟨f68, _, _, ok_rise F68 B, PySem.W.mg_of X G a68, k68, b68⟩⟩
  have c_law_is_key : Cal l.prog w K mg base CX0 (2) "_law_is_key" (spAsk kyD) := ⟨⟨f69, _, _, ok_liskey F69 B c_law_all, PySem.W.mg_of X G a69, k69, b69⟩⟩
  have c_law_is_role : Cal l.prog w K mg base CX0 (3) "_law_is_role" (spAsk isRole) := ⟨⟨f70, _, _, ok_lisrole F70 B c_law_tuple c_law_number c_law_is_key c_law_rising, PySem.W.mg_of X G a70, k70, b70⟩⟩
  have r_lt : ∀ n : Nat, Cal l.prog w K mg base CX0 (n) "_law_text" (spLTextR n) := by
    intro n
    induction n with
    | zero => exact ⟨⟨f62, _, _, ok_never, PySem.W.mg_of X G a62, k62, b62⟩⟩
    | succ n ih => exact ⟨⟨f62, _, _, ok_ltext F62 B ih, PySem.W.mg_of X G a62, k62, b62⟩⟩
  have c_law_text : Cal l.prog w K mg base CX0 (9) "_law_text" (spLText 8) := r_lt 9
  have r_ls : ∀ n : Nat, Cal l.prog w K mg base CX0 (n) "_law_same" (spSameR n) := by
    intro n
    induction n with
    | zero => exact ⟨⟨f63, _, _, ok_never, PySem.W.mg_of X G a63, k63, b63⟩⟩
    | succ n ih => exact ⟨⟨f63, _, _, ok_same F63 B ih, PySem.W.mg_of X G a63, k63, b63⟩⟩
  have c_law_same : Cal l.prog w K mg base CX0 (9) "_law_same" (spSame 8) := r_ls 9
  have c_law_digest : Cal l.prog w K mg base CX0 (1) "_law_digest" (spLDig) := ⟨⟨f61, _, _, ok_ldig F61 B, PySem.W.mg_of X G a61, k61, b61⟩⟩
  have c_law_counts : Cal l.prog w K mg base CX0 (1) "_law_counts" (spCounts) := ⟨⟨f64, _, _, ok_counts F64 B, PySem.W.mg_of X G a64, k64, b64⟩⟩
  have c_law_role : Cal l.prog w K mg base CX0 (3) "_law_role" (spLRole) := ⟨⟨f73, _, _, ok_lrole61 F73 B c_law_take c_law_once, PySem.W.mg_of X G a73, k73, b73⟩⟩
  have c_law_roles : Cal l.prog w K mg base CX0 (4) "_law_roles" (spRoles61) := ⟨⟨f74, _, _, ok_lroles61 F74 B c_law_role, PySem.W.mg_of X G a74, k74, b74⟩⟩
  have c_law_time : Cal l.prog w K mg base CX0 (2) "_law_time" (spTime61) := ⟨⟨f75, _, _, ok_ltime61 F75 B c_law_take, PySem.W.mg_of X G a75, k75, b75⟩⟩
  have c_law_are_roles : Cal l.prog w K mg base CX0 (4) "_law_are_roles" (spAsk isRoles) := ⟨⟨f77, _, _, ok_lareroles F77 B c_law_tuple c_law_is_role, PySem.W.mg_of X G a77, k77, b77⟩⟩
  have c_law_seal : Cal l.prog w K mg base CX0 (10) "_law_seal" (spLSeal K) := ⟨⟨f76, _, _, ok_lseal60 F76 B c_law_once c_law_digest c_law_text, PySem.W.mg_of X G a76, k76, b76⟩⟩
  have c_law_turned : Cal l.prog w K mg base CX0 (29) "_law_turned" (spTurned61 C_Workshop C_Draft C_Seals ([Pt6, Pt7, Pt8, Pt14, Pt15, Pt16, Pt17, Pt19, Pt20, Pt40])) := ⟨⟨f78, _, _, ok_lturned61 F78 B EWA m_Workshop_turn, PySem.W.mg_of X G a78, k78, b78⟩⟩
  have c_law_holds : Cal l.prog w K mg base CX0 (19) "_law_holds" (spHolds61 C_Workshop C_Draft C_Seals ([Pt6, Pt7, Pt8, Pt14, Pt15, Pt16, Pt17, Pt19, Pt20, Pt40])) := ⟨⟨f79, _, _, ok_lholds61 F79 B c_law_same m_Workshop_text m_Workshop_names m_Workshop_charters m_Workshop_first, PySem.W.mg_of X G a79, k79, b79⟩⟩
  exact ok_law61 F80 B c_law_cell c_law_stream c_law_take c_law_roles c_law_time ((r_spoilt 4 (by decide)).mono (by decide)) c_law_are_roles c_law_number c_law_turned c_law_holds c_law_counts c_law_seal c_law_text k_Seals m_count k_Workshop m_Workshop_put
def d_digest : He.FnD := ⟨("digest", none), "digest", "digest", defArgs s_digest, defBody s_digest, defScope s_digest⟩
def d_is_list_name : He.FnD := ⟨("is_list_name", none), "is_list_name", "is_list_name", defArgs s_is_list_name, defBody s_is_list_name, defScope s_is_list_name⟩
def d_is_key : He.FnD := ⟨("is_key", none), "is_key", "is_key", defArgs s_is_key, defBody s_is_key, defScope s_is_key⟩
def d_is_path : He.FnD := ⟨("is_path", none), "is_path", "is_path", defArgs s_is_path, defBody s_is_path, defScope s_is_path⟩
def d_is_pattern : He.FnD := ⟨("is_pattern", none), "is_pattern", "is_pattern", defArgs s_is_pattern, defBody s_is_pattern, defScope s_is_pattern⟩
def d_ascends : He.FnD := ⟨("ascends", none), "ascends", "ascends", defArgs s_ascends, defBody s_ascends, defScope s_ascends⟩
def d_consists_of : He.FnD := ⟨("_consists_of", none), "_consists_of", "_consists_of", defArgs s_consists_of, defBody s_consists_of, defScope s_consists_of⟩
def d_has_parts_of : He.FnD := ⟨("_has_parts_of", none), "_has_parts_of", "_has_parts_of", defArgs s_has_parts_of, defBody s_has_parts_of, defScope s_has_parts_of⟩
def d_is_printable : He.FnD := ⟨("is_printable", none), "is_printable", "is_printable", defArgs s_is_printable, defBody s_is_printable, defScope s_is_printable⟩
def d_is_integer : He.FnD := ⟨("is_integer", none), "is_integer", "is_integer", defArgs s_is_integer, defBody s_is_integer, defScope s_is_integer⟩
def d_encode : He.FnD := ⟨("encode", none), "encode", "encode", defArgs s_encode, defBody s_encode, defScope s_encode⟩
def d_text_of : He.FnD := ⟨("_text_of", none), "_text_of", "_text_of", defArgs s_text_of, defBody s_text_of, defScope s_text_of⟩
def d_tuple_text : He.FnD := ⟨("_tuple_text", none), "_tuple_text", "_tuple_text", defArgs s_tuple_text, defBody s_tuple_text, defScope s_tuple_text⟩
def d_greatest_integer : He.FnD := ⟨("_greatest_integer", none), "_greatest_integer", "_greatest_integer", defArgs s_greatest_integer, defBody s_greatest_integer, defScope s_greatest_integer⟩
def d_is_role : He.FnD := ⟨("is_role", none), "is_role", "is_role", defArgs s_is_role, defBody s_is_role, defScope s_is_role⟩
def d_is_digest : He.FnD := ⟨("is_digest", none), "is_digest", "is_digest", defArgs s_is_digest, defBody s_is_digest, defScope s_is_digest⟩
def d_is_grant : He.FnD := ⟨("is_grant", none), "is_grant", "is_grant", defArgs s_is_grant, defBody s_is_grant, defScope s_is_grant⟩
def d_is_charter : He.FnD := ⟨("is_charter", none), "is_charter", "is_charter", defArgs s_is_charter, defBody s_is_charter, defScope s_is_charter⟩
def d_is_stamp : He.FnD := ⟨("is_stamp", none), "is_stamp", "is_stamp", defArgs s_is_stamp, defBody s_is_stamp, defScope s_is_stamp⟩
def d_is_shelf : He.FnD := ⟨("is_shelf", none), "is_shelf", "is_shelf", defArgs s_is_shelf, defBody s_is_shelf, defScope s_is_shelf⟩
def d_is_list : He.FnD := ⟨("is_list", none), "is_list", "is_list", defArgs s_is_list, defBody s_is_list, defScope s_is_list⟩
def d_is_amount : He.FnD := ⟨("is_amount", none), "is_amount", "is_amount", defArgs s_is_amount, defBody s_is_amount, defScope s_is_amount⟩
def d_write : He.FnD := ⟨("write", none), "write", "write", defArgs s_write, defBody s_write, defScope s_write⟩
def d_published_name : He.FnD := ⟨("published_name", none), "published_name", "published_name", defArgs s_published_name, defBody s_published_name, defScope s_published_name⟩
def d_name_of_charter : He.FnD := ⟨("name_of_charter", none), "name_of_charter", "name_of_charter", defArgs s_name_of_charter, defBody s_name_of_charter, defScope s_name_of_charter⟩
def d_name_of_shelf : He.FnD := ⟨("name_of_shelf", none), "name_of_shelf", "name_of_shelf", defArgs s_name_of_shelf, defBody s_name_of_shelf, defScope s_name_of_shelf⟩
def d_name_of_list : He.FnD := ⟨("name_of_list", none), "name_of_list", "name_of_list", defArgs s_name_of_list, defBody s_name_of_list, defScope s_name_of_list⟩
def d_is_tuple_of : He.FnD := ⟨("_is_tuple_of", none), "_is_tuple_of", "_is_tuple_of", defArgs s_is_tuple_of, defBody s_is_tuple_of, defScope s_is_tuple_of⟩
def d_is_tuple_within : He.FnD := ⟨("_is_tuple_within", none), "_is_tuple_within", "_is_tuple_within", defArgs s_is_tuple_within, defBody s_is_tuple_within, defScope s_is_tuple_within⟩
def d_is_headed : He.FnD := ⟨("_is_headed", none), "_is_headed", "_is_headed", defArgs s_is_headed, defBody s_is_headed, defScope s_is_headed⟩
def d_is_version : He.FnD := ⟨("_is_version", none), "_is_version", "_is_version", defArgs s_is_version, defBody s_is_version, defScope s_is_version⟩
def d_is_entry : He.FnD := ⟨("_is_entry", none), "_is_entry", "_is_entry", defArgs s_is_entry, defBody s_is_entry, defScope s_is_entry⟩
def d_is_named_entry : He.FnD := ⟨("_is_named_entry", none), "_is_named_entry", "_is_named_entry", defArgs s_is_named_entry, defBody s_is_named_entry, defScope s_is_named_entry⟩
def d_is_good : He.FnD := ⟨("_is_good", none), "_is_good", "_is_good", defArgs s_is_good, defBody s_is_good, defScope s_is_good⟩
def d_require_document : He.FnD := ⟨("_require_document", none), "_require_document", "_require_document", defArgs s_require_document, defBody s_require_document, defScope s_require_document⟩
def d_Draft___init : He.FnD := ⟨("Draft", some "__init__"), "__init__", "Draft.__init__", defArgs s_Draft___init, defBody s_Draft___init, defScope s_Draft___init⟩
def d_Draft_put : He.FnD := ⟨("Draft", some "put"), "put", "Draft.put", defArgs s_Draft_put, defBody s_Draft_put, defScope s_Draft_put⟩
def d_Draft__require_list : He.FnD := ⟨("Draft", some "_require_list"), "_require_list", "Draft._require_list", defArgs s_Draft__require_list, defBody s_Draft__require_list, defScope s_Draft__require_list⟩
def d_require_path : He.FnD := ⟨("_require_path", none), "_require_path", "_require_path", defArgs s_require_path, defBody s_require_path, defScope s_require_path⟩
def d_seal : He.FnD := ⟨("seal", none), "seal", "seal", defArgs s_seal, defBody s_seal, defScope s_seal⟩
def d_different_keys : He.FnD := ⟨("_different_keys", none), "_different_keys", "_different_keys", defArgs s_different_keys, defBody s_different_keys, defScope s_different_keys⟩
def d_role_of : He.FnD := ⟨("role_of", none), "role_of", "role_of", defArgs s_role_of, defBody s_role_of, defScope s_role_of⟩
def d_Workshop___init : He.FnD := ⟨("Workshop", some "__init__"), "__init__", "Workshop.__init__", defArgs s_Workshop___init, defBody s_Workshop___init, defScope s_Workshop___init⟩
def d_Workshop_turn : He.FnD := ⟨("Workshop", some "turn"), "turn", "Workshop.turn", defArgs s_Workshop_turn, defBody s_Workshop_turn, defScope s_Workshop_turn⟩
def d_Workshop_put : He.FnD := ⟨("Workshop", some "put"), "put", "Workshop.put", defArgs s_Workshop_put, defBody s_Workshop_put, defScope s_Workshop_put⟩
def d_Workshop_text : He.FnD := ⟨("Workshop", some "text"), "text", "Workshop.text", defArgs s_Workshop_text, defBody s_Workshop_text, defScope s_Workshop_text⟩
def d_Workshop_names : He.FnD := ⟨("Workshop", some "names"), "names", "Workshop.names", defArgs s_Workshop_names, defBody s_Workshop_names, defScope s_Workshop_names⟩
def d_Workshop_first : He.FnD := ⟨("Workshop", some "first"), "first", "Workshop.first", defArgs s_Workshop_first, defBody s_Workshop_first, defScope s_Workshop_first⟩
def d_Workshop_charters : He.FnD := ⟨("Workshop", some "charters"), "charters", "Workshop.charters", defArgs s_Workshop_charters, defBody s_Workshop_charters, defScope s_Workshop_charters⟩
def d_Workshop__keys_of : He.FnD := ⟨("Workshop", some "_keys_of"), "_keys_of", "Workshop._keys_of", defArgs s_Workshop__keys_of, defBody s_Workshop__keys_of, defScope s_Workshop__keys_of⟩
def d_Workshop__issue : He.FnD := ⟨("Workshop", some "_issue"), "_issue", "Workshop._issue", defArgs s_Workshop__issue, defBody s_Workshop__issue, defScope s_Workshop__issue⟩
def d_Workshop__publish_charter : He.FnD := ⟨("Workshop", some "_publish_charter"), "_publish_charter", "Workshop._publish_charter", defArgs s_Workshop__publish_charter, defBody s_Workshop__publish_charter, defScope s_Workshop__publish_charter⟩
def d_require_roles : He.FnD := ⟨("_require_roles", none), "_require_roles", "_require_roles", defArgs s_require_roles, defBody s_require_roles, defScope s_require_roles⟩
def d_require_expires : He.FnD := ⟨("_require_expires", none), "_require_expires", "_require_expires", defArgs s_require_expires, defBody s_require_expires, defScope s_require_expires⟩
def d_Seals___init : He.FnD := ⟨("Seals", some "__init__"), "__init__", "Seals.__init__", defArgs s_Seals___init, defBody s_Seals___init, defScope s_Seals___init⟩
def d_Seals_make : He.FnD := ⟨("Seals", some "make"), "make", "Seals.make", defArgs s_Seals_make, defBody s_Seals_make, defScope s_Seals_make⟩
def d_Seals_count : He.FnD := ⟨("Seals", some "count"), "count", "Seals.count", defArgs s_Seals_count, defBody s_Seals_count, defScope s_Seals_count⟩
def d_law_cell : He.FnD := ⟨("_law_cell", none), "_law_cell", "_law_cell", defArgs s_law_cell, defBody s_law_cell, defScope s_law_cell⟩
def d_law_stream : He.FnD := ⟨("_law_stream", none), "_law_stream", "_law_stream", defArgs s_law_stream, defBody s_law_stream, defScope s_law_stream⟩
def d_law_take : He.FnD := ⟨("_law_take", none), "_law_take", "_law_take", defArgs s_law_take, defBody s_law_take, defScope s_law_take⟩
def d_law_once : He.FnD := ⟨("_law_once", none), "_law_once", "_law_once", defArgs s_law_once, defBody s_law_once, defScope s_law_once⟩
def d_law_digest : He.FnD := ⟨("_law_digest", none), "_law_digest", "_law_digest", defArgs s_law_digest, defBody s_law_digest, defScope s_law_digest⟩
def d_law_text : He.FnD := ⟨("_law_text", none), "_law_text", "_law_text", defArgs s_law_text, defBody s_law_text, defScope s_law_text⟩
def d_law_same : He.FnD := ⟨("_law_same", none), "_law_same", "_law_same", defArgs s_law_same, defBody s_law_same, defScope s_law_same⟩
def d_law_counts : He.FnD := ⟨("_law_counts", none), "_law_counts", "_law_counts", defArgs s_law_counts, defBody s_law_counts, defScope s_law_counts⟩
def d_law_all : He.FnD := ⟨("_law_all", none), "_law_all", "_law_all", defArgs s_law_all, defBody s_law_all, defScope s_law_all⟩
def d_law_number : He.FnD := ⟨("_law_number", none), "_law_number", "_law_number", defArgs s_law_number, defBody s_law_number, defScope s_law_number⟩
def d_law_tuple : He.FnD := ⟨("_law_tuple", none), "_law_tuple", "_law_tuple", defArgs s_law_tuple, defBody s_law_tuple, defScope s_law_tuple⟩
def d_law_rising : He.FnD := ⟨("_law_rising", none), "_law_rising", "_law_rising", defArgs s_law_rising, defBody s_law_rising, defScope s_law_rising⟩
def d_law_is_key : He.FnD := ⟨("_law_is_key", none), "_law_is_key", "_law_is_key", defArgs s_law_is_key, defBody s_law_is_key, defScope s_law_is_key⟩
def d_law_is_role : He.FnD := ⟨("_law_is_role", none), "_law_is_role", "_law_is_role", defArgs s_law_is_role, defBody s_law_is_role, defScope s_law_is_role⟩
def d_law_odd : He.FnD := ⟨("_law_odd", none), "_law_odd", "_law_odd", defArgs s_law_odd, defBody s_law_odd, defScope s_law_odd⟩
def d_law_spoilt : He.FnD := ⟨("_law_spoilt", none), "_law_spoilt", "_law_spoilt", defArgs s_law_spoilt, defBody s_law_spoilt, defScope s_law_spoilt⟩
def d_law_role : He.FnD := ⟨("_law_role", none), "_law_role", "_law_role", defArgs s_law_role, defBody s_law_role, defScope s_law_role⟩
def d_law_roles : He.FnD := ⟨("_law_roles", none), "_law_roles", "_law_roles", defArgs s_law_roles, defBody s_law_roles, defScope s_law_roles⟩
def d_law_time : He.FnD := ⟨("_law_time", none), "_law_time", "_law_time", defArgs s_law_time, defBody s_law_time, defScope s_law_time⟩
def d_law_seal : He.FnD := ⟨("_law_seal", none), "_law_seal", "_law_seal", defArgs s_law_seal, defBody s_law_seal, defScope s_law_seal⟩
def d_law_are_roles : He.FnD := ⟨("_law_are_roles", none), "_law_are_roles", "_law_are_roles", defArgs s_law_are_roles, defBody s_law_are_roles, defScope s_law_are_roles⟩
def d_law_turned : He.FnD := ⟨("_law_turned", none), "_law_turned", "_law_turned", defArgs s_law_turned, defBody s_law_turned, defScope s_law_turned⟩
def d_law_holds : He.FnD := ⟨("_law_holds", none), "_law_holds", "_law_holds", defArgs s_law_holds, defBody s_law_holds, defScope s_law_holds⟩
def d_law : He.FnD := ⟨("law", none), "law", "law", defArgs s_law, defBody s_law, defScope s_law⟩
def d_BadAct___init : He.FnD := ⟨("BadAct", some "__init__"), "__init__", "BadAct.__init__", defArgs s_BadAct___init, defBody s_BadAct___init, defScope s_BadAct___init⟩
def fg0 : List He.FnD := [d_digest, d_is_list_name, d_is_key, d_is_path, d_is_pattern, d_ascends, d_consists_of, d_has_parts_of, d_is_printable, d_is_integer, d_encode, d_text_of]
def fg1 : List He.FnD := [d_tuple_text, d_greatest_integer, d_is_role, d_is_digest, d_is_grant, d_is_charter, d_is_stamp, d_is_shelf, d_is_list, d_is_amount, d_write, d_published_name]
def fg2 : List He.FnD := [d_name_of_charter, d_name_of_shelf, d_name_of_list, d_is_tuple_of, d_is_tuple_within, d_is_headed, d_is_version, d_is_entry, d_is_named_entry, d_is_good, d_require_document, d_Draft___init]
def fg3 : List He.FnD := [d_Draft_put, d_Draft__require_list, d_require_path, d_seal, d_different_keys, d_role_of, d_Workshop___init, d_Workshop_turn, d_Workshop_put, d_Workshop_text, d_Workshop_names, d_Workshop_first]
def fg4 : List He.FnD := [d_Workshop_charters, d_Workshop__keys_of, d_Workshop__issue, d_Workshop__publish_charter, d_require_roles, d_require_expires, d_Seals___init, d_Seals_make, d_Seals_count, d_law_cell, d_law_stream, d_law_take]
def fg5 : List He.FnD := [d_law_once, d_law_digest, d_law_text, d_law_same, d_law_counts, d_law_all, d_law_number, d_law_tuple, d_law_rising, d_law_is_key, d_law_is_role, d_law_odd]
def fg6 : List He.FnD := [d_law_spoilt, d_law_role, d_law_roles, d_law_time, d_law_seal, d_law_are_roles, d_law_turned, d_law_holds, d_law, d_BadAct___init]
def fgs : List (List He.FnD) := [fg0, fg1, fg2, fg3, fg4, fg5, fg6]
def tfs : List He.FnD := [d_consists_of, d_has_parts_of, d_is_printable, d_is_role, d_is_digest, d_is_grant, d_is_charter, d_is_shelf, d_is_list, d_different_keys]
noncomputable def xg0 : List (PySem.W.Frag → Bool) := [fun K => He.eqO (PySem.W.nsIn K mainGlobals "Seals") (some (some (.ref (gA K "Seals")))), fun K => PySem.W.plainGet K (gA K "Seals") Str.empty, fun K => PySem.W.hasDictIn K (gA K "Seals"), fun K => PySem.W.plainOver K (gA K "Seals"), fun K => He.eqO (PySem.W.findIn K (.ref (gA K "Seals")) "__setattr__") (some (some (.builtin "object.__setattr__"))), fun K => PySem.W.makesIn K (gA K "Seals"), fun K => PySem.W.keepIn K (.ref (gA K "Seals")), fun K => He.eqO (PySem.W.findIn K (.ref (gA K "Seals")) "_marks") (some none), fun K => He.eqO (PySem.W.nsIn K mainGlobals "Draft") (some (some (.ref (gA K "Draft")))), fun K => PySem.W.plainGet K (gA K "Draft") Str.empty, fun K => PySem.W.hasDictIn K (gA K "Draft"), fun K => PySem.W.plainOver K (gA K "Draft")]
noncomputable def xg1 : List (PySem.W.Frag → Bool) := [fun K => He.eqO (PySem.W.findIn K (.ref (gA K "Draft")) "__setattr__") (some (some (.builtin "object.__setattr__"))), fun K => PySem.W.makesIn K (gA K "Draft"), fun K => PySem.W.keepIn K (.ref (gA K "Draft")), fun K => He.eqO (PySem.W.findIn K (.ref (gA K "Draft")) "_files") (some none), fun K => He.eqO (PySem.W.findIn K (.ref (gA K "Draft")) "_grants") (some none), fun K => He.eqO (PySem.W.findIn K (.ref (gA K "Draft")) "_old_keys") (some none), fun K => He.eqO (PySem.W.nsIn K mainGlobals "Workshop") (some (some (.ref (gA K "Workshop")))), fun K => PySem.W.plainGet K (gA K "Workshop") Str.empty, fun K => PySem.W.hasDictIn K (gA K "Workshop"), fun K => PySem.W.plainOver K (gA K "Workshop"), fun K => He.eqO (PySem.W.findIn K (.ref (gA K "Workshop")) "__setattr__") (some (some (.builtin "object.__setattr__"))), fun K => PySem.W.makesIn K (gA K "Workshop")]
noncomputable def xg2 : List (PySem.W.Frag → Bool) := [fun K => PySem.W.keepIn K (.ref (gA K "Workshop")), fun K => He.eqO (PySem.W.findIn K (.ref (gA K "Workshop")) "_office") (some none), fun K => He.eqO (PySem.W.findIn K (.ref (gA K "Workshop")) "_draft") (some none), fun K => He.eqO (PySem.W.findIn K (.ref (gA K "Workshop")) "_texts") (some none), fun K => He.eqO (PySem.W.findIn K (.ref (gA K "Workshop")) "_charters") (some none), fun K => He.eqO (PySem.W.findIn K (.ref (gA K "Workshop")) "_stamps") (some none), fun K => He.eqO (PySem.W.findIn K (.ref (gA K "Workshop")) "_snapshots") (some none), fun K => He.eqO (PySem.W.findIn K (.ref (gA K "Workshop")) "_latest") (some none), fun K => He.eqO (PySem.W.findIn K (.ref (gA K "Workshop")) "_entry") (some none), fun K => He.eqO (PySem.W.nsIn K mainGlobals "len") (some none), fun K => He.eqO (PySem.W.nsIn K mainGlobals "int") (some none), fun K => He.eqO (PySem.W.nsIn K mainGlobals "str") (some none)]
noncomputable def xg3 : List (PySem.W.Frag → Bool) := [fun K => He.eqO (PySem.W.nsIn K mainGlobals "bool") (some none), fun K => He.eqO (PySem.W.nsIn K mainGlobals "list") (some none), fun K => He.eqO (PySem.W.nsIn K mainGlobals "tuple") (some none), fun K => He.eqO (PySem.W.nsIn K mainGlobals "range") (some none), fun K => He.eqO (PySem.W.nsIn K mainGlobals "isinstance") (some none), fun K => He.eqO (PySem.W.nsIn K mainGlobals "ord") (some none), fun K => He.eqO (PySem.W.nsIn K mainGlobals "all") (some none), fun K => (He.Fa.int "_FACTOR" (65599)).ok K, fun K => (He.Fa.int "_DIVISOR" (2361183241434822606617)).ok K, fun K => (He.Fa.str "_LETTERS" "abcdefghijklmnopqrstuvwxyz").ok K, fun K => (He.Fa.str "_DIGITS" "0123456789").ok K, fun K => (He.Fa.str "_PART_MARKS" "abcdefghijklmnopqrstuvwxyz0123456789_-.").ok K]
noncomputable def xg4 : List (PySem.W.Frag → Bool) := [fun K => (He.Fa.int "_MOST_NAME" (12)).ok K, fun K => (He.Fa.int "_MOST_PARTS" (6)).ok K, fun K => (He.Fa.int "MOST_PATH" (60)).ok K, fun K => (He.Fa.int "MOST_KEYS" (16)).ok K, fun K => (He.Fa.int "MOST_NUMBER" (1000000000000)).ok K, fun K => (He.Fa.int "DIGEST_LENGTH" (18)).ok K, fun K => (He.Fa.str "_DIGEST_MARKS" "0123456789abcdef").ok K, fun K => (He.Fa.int "_MOST_PATTERNS" (8)).ok K, fun K => (He.Fa.int "MOST_GOODS" (64)).ok K, fun K => (He.Fa.int "MOST_LISTS" (32)).ok K, fun K => (He.Fa.str "TOP_LIST" "list").ok K, fun K => (He.Fa.int "_ROLES" (4)).ok K]
noncomputable def xg5 : List (PySem.W.Frag → Bool) := [fun K => (He.Fa.int "_BARRED_CODE" (37)).ok K, fun K => (He.Fa.int "MOST_DIGITS" (20)).ok K, fun K => (He.Fa.int "MOST_DEPTH" (8)).ok K, fun K => (He.Fa.int "MOST_TEXT" (100000)).ok K, fun K => (He.Fa.int "MOST_SEALS" (32)).ok K, fun K => (He.Fa.str "STAMP_NAME" "stamp").ok K, fun K => He.eqO (PySem.W.nsIn K mainGlobals "BadText") (some (some (.ref (gA K "BadText")))), fun K => PySem.W.excIn K (gA K "BadText") [.type "ValueError", .type "Exception", .type "BaseException", .type "object"] "ValueError.__new__", fun K => PySem.W.keepIn K (.ref (gA K "BadText")), fun K => decide (PySem.W.subIn K (.ref (gA K "BadText")) (.type "BaseException") = some true), fun K => decide (PySem.W.typeIn K (.ref (gA K "BadText")) = some (.type "type")), fun K => PySem.W.isClsIn K (gA K "BadText")]
noncomputable def xg6 : List (PySem.W.Frag → Bool) := [fun K => decide (PySem.W.subIn K (.ref (gA K "BadText")) (.ref (gA K "BadText")) = some true), fun K => He.eqO (PySem.W.nsIn K mainGlobals "BadDocument") (some (some (.ref (gA K "BadDocument")))), fun K => PySem.W.excIn K (gA K "BadDocument") [.type "ValueError", .type "Exception", .type "BaseException", .type "object"] "ValueError.__new__", fun K => PySem.W.keepIn K (.ref (gA K "BadDocument")), fun K => decide (PySem.W.subIn K (.ref (gA K "BadDocument")) (.type "BaseException") = some true), fun K => decide (PySem.W.typeIn K (.ref (gA K "BadDocument")) = some (.type "type")), fun K => PySem.W.isClsIn K (gA K "BadDocument"), fun K => decide (PySem.W.subIn K (.ref (gA K "BadDocument")) (.ref (gA K "BadDocument")) = some true), fun K => He.eqO (PySem.W.nsIn K mainGlobals "BadKey") (some (some (.ref (gA K "BadKey")))), fun K => PySem.W.excIn K (gA K "BadKey") [.type "ValueError", .type "Exception", .type "BaseException", .type "object"] "ValueError.__new__", fun K => PySem.W.keepIn K (.ref (gA K "BadKey")), fun K => decide (PySem.W.subIn K (.ref (gA K "BadKey")) (.type "BaseException") = some true)]
noncomputable def xg7 : List (PySem.W.Frag → Bool) := [fun K => decide (PySem.W.typeIn K (.ref (gA K "BadKey")) = some (.type "type")), fun K => PySem.W.isClsIn K (gA K "BadKey"), fun K => decide (PySem.W.subIn K (.ref (gA K "BadKey")) (.ref (gA K "BadKey")) = some true), fun K => He.eqO (PySem.W.nsIn K mainGlobals "BadAct") (some (some (.ref (gA K "BadAct")))), fun K => decide (PySem.W.typeIn K (.ref (fA K d_BadAct___init.at_)) = some (.type "function")), fun K => oexB K (gA K "BadAct"), fun K => He.eqO (PySem.W.findIn K (.ref (gA K "BadAct")) "reason") (some none), fun K => xfB K (gA K "BadAct"), fun K => decide (PySem.W.exmOne K (.ref (gA K "BadAct")) (.ref (gA K "BadAct")) = some true), fun K => decide (PySem.W.exmOne K (.ref (gA K "BadText")) (.ref (gA K "BadDocument")) = some false), fun K => decide (PySem.W.exmOne K (.ref (gA K "BadDocument")) (.ref (gA K "BadText")) = some false), fun K => He.eqO (PySem.W.nsIn K mainGlobals "sorted") (some none)]
noncomputable def xg8 : List (PySem.W.Frag → Bool) := [fun K => He.eqO (PySem.W.nsIn K mainGlobals "set") (some none), fun K => He.eqO (PySem.W.nsIn K mainGlobals "_ROLE_NAMES") (some (some (.ref (gA K "_ROLE_NAMES")))), fun K => strsB K (gA K "_ROLE_NAMES") rnm]
noncomputable def xgs : FxL := [xg0, xg1, xg2, xg3, xg4, xg5, xg6, xg7, xg8]
def nm0_ : List Str := ["_wall", "DIGEST_LENGTH", "_FACTOR", "_DIVISOR", "digest", "ChartError", "BadText", "BadDocument", "BadKey", "BadAct", "MOST_NUMBER", "MOST_DIGITS"]
def nm1_ : List Str := ["MOST_DEPTH", "MOST_TEXT", "MOST_KEYS", "MOST_SEALS", "MOST_GOODS", "MOST_LISTS", "MOST_PATH", "_LETTERS", "_DIGITS", "_PART_MARKS", "_MOST_NAME", "_MOST_PARTS"]
def nm2_ : List Str := ["is_list_name", "is_key", "is_path", "is_pattern", "ascends", "_BARRED_CODE", "is_integer", "encode", "_text_of", "_tuple_text", "_greatest_integer", "TOP_LIST"]
def nm3_ : List Str := ["STAMP_NAME", "_DIGEST_MARKS", "_ROLES", "_MOST_PATTERNS", "is_stamp", "is_amount", "write", "published_name", "name_of_charter", "name_of_shelf", "name_of_list", "_is_tuple_of"]
def nm4_ : List Str := ["_is_tuple_within", "_is_headed", "_is_version", "_is_entry", "_is_named_entry", "_is_good", "_require_document", "Draft", "_require_path", "seal", "_ROLE_NAMES", "role_of"]
def nm5_ : List Str := ["Workshop", "_require_roles", "_require_expires", "Seals", "_law_cell", "_law_stream", "_law_take", "_law_once", "_law_digest", "_law_text", "_law_same", "_law_counts"]
def nm6_ : List Str := ["_law_all", "_law_number", "_law_tuple", "_law_rising", "_law_is_key", "_law_is_role", "_law_odd", "_law_spoilt", "_law_role", "_law_roles", "_law_time", "_law_seal"]
def nm7_ : List Str := ["_law_are_roles", "_law_turned", "_law_holds"]
def nms_ : List Str := nm0_ ++ nm1_ ++ nm2_ ++ nm3_ ++ nm4_ ++ nm5_ ++ nm6_ ++ nm7_
abbrev Rr : PySem.W.OpenRow := PySem.W.OpenLaw.row PySem.Challenge.rw_sealchart_k61_turned_charters
abbrev qv : Program := PySem.W.view Rr.prog [32, 33, 36, 48, 49, 50, 51, 53, 54, 74, 108]
noncomputable abbrev hk : PySem.W.Hook := hookH xgs fgs tfs
noncomputable def ob (s : PySem.W.SharedT) : AlH := obsHG xgs fgs tfs (HandSHeadRun.getT s)
theorem ob_eq (s : PySem.W.SharedT) : ob s = hk.obs s.abs := obsHG_eq s
open PySem.W PySem.Calls in
set_option maxHeartbeats 0 in
theorem run_a (w : World) (os : OsState) : (HandSHeadRun.endF (HandSHeadRun.stepQ (HandSHeadRun.denQ HandSHeadRun.tabQ) Rr.prog w) 40000 Rr.prog w os).map (fun s => HandSHeadRun.looksF Rr.prog (boot_heap w.params) s.abs) = some true := by
  kernel_rfl
open PySem.W PySem.Calls in
set_option maxHeartbeats 0 in
theorem run_b (w : World) (os : OsState) : (HandSHeadRun.endF (HandSHeadRun.stepQ (HandSHeadRun.denQ HandSHeadRun.tabQ) Rr.prog w) 40000 Rr.prog w os).map (fun s => HandSHeadRun.seenQ qv nms_ (importedModules Rr.prog.main.body) (fun s => xlAt qv [] s && recOk Rr.toRowW.records s) s.abs) = some (openGood qv nms_) := by
  kernel_rfl
open PySem.W PySem.Calls in
set_option maxHeartbeats 0 in
theorem run_c (w : World) (os : OsState) : (HandSHeadRun.endF (HandSHeadRun.stepQ (HandSHeadRun.denQ HandSHeadRun.tabQ) Rr.prog w) 40000 Rr.prog w os).map (ob) = some (hk.val w) := by
  kernel_rfl
theorem run (w : World) : HandSHeadRun.RunEq Rr qv hk ob 40000 nms_ w := run_of3 (run_a w) (run_b w) (run_c w)
open PySem.Spec PyProof.Rows in
set_option maxHeartbeats 0 in
theorem all_hk {l : PySem.W.OpenLaw} {lo : List Str} {mean : ExcName → Option Value} {w : World} {K : PySem.W.Frag} {h : Heap} {mg mb : Str → Option Value} {fa : Addr} (T : Top qv lo mean mg mb h) (X : K.In h) (c : SaysH xgs fgs tfs K) (G : h.Ns mainGlobals mg) (hfa : mg "law" = some (.ref fa)) :
    LamX.LawAtS l w K CX0 30 63 "script" mg fa h := by
  obtain ⟨A0, Z0, oc0, od0, ol0, kv0, dc0, pm0, an0, cv0, ct0, L0, Q0⟩ := SaysH.glo c 0 0 (d := d_digest) rfl rfl rfl
  obtain ⟨A1, Z1, oc1, od1, ol1, kv1, dc1, pm1, an1, cv1, ct1, L1, Q1⟩ := SaysH.glo c 0 1 (d := d_is_list_name) rfl rfl rfl
  obtain ⟨A2, Z2, oc2, od2, ol2, kv2, dc2, pm2, an2, cv2, ct2, L2, Q2⟩ := SaysH.glo c 0 2 (d := d_is_key) rfl rfl rfl
  obtain ⟨A3, Z3, oc3, od3, ol3, kv3, dc3, pm3, an3, cv3, ct3, L3, Q3⟩ := SaysH.glo c 0 3 (d := d_is_path) rfl rfl rfl
  obtain ⟨A4, Z4, oc4, od4, ol4, kv4, dc4, pm4, an4, cv4, ct4, L4, Q4⟩ := SaysH.glo c 0 4 (d := d_is_pattern) rfl rfl rfl
  obtain ⟨A5, Z5, oc5, od5, ol5, kv5, dc5, pm5, an5, cv5, ct5, L5, Q5⟩ := SaysH.glo c 0 5 (d := d_ascends) rfl rfl rfl
  obtain ⟨A6, Z6, oc6, od6, ol6, kv6, dc6, pm6, an6, cv6, ct6, L6, Q6⟩ := SaysH.glo c 0 6 (d := d_consists_of) rfl rfl rfl
  obtain ⟨A7, Z7, oc7, od7, ol7, kv7, dc7, pm7, an7, cv7, ct7, L7, Q7⟩ := SaysH.glo c 0 7 (d := d_has_parts_of) rfl rfl rfl
  obtain ⟨A8, Z8, oc8, od8, ol8, kv8, dc8, pm8, an8, cv8, ct8, L8, Q8⟩ := SaysH.glo c 0 8 (d := d_is_printable) rfl rfl rfl
  obtain ⟨A9, Z9, oc9, od9, ol9, kv9, dc9, pm9, an9, cv9, ct9, L9, Q9⟩ := SaysH.glo c 0 9 (d := d_is_integer) rfl rfl rfl
  obtain ⟨A10, Z10, oc10, od10, ol10, kv10, dc10, pm10, an10, cv10, ct10, L10, Q10⟩ := SaysH.glo c 0 10 (d := d_encode) rfl rfl rfl
  obtain ⟨A11, Z11, oc11, od11, ol11, kv11, dc11, pm11, an11, cv11, ct11, L11, Q11⟩ := SaysH.glo c 0 11 (d := d_text_of) rfl rfl rfl
  obtain ⟨A12, Z12, oc12, od12, ol12, kv12, dc12, pm12, an12, cv12, ct12, L12, Q12⟩ := SaysH.glo c 1 0 (d := d_tuple_text) rfl rfl rfl
  obtain ⟨A13, Z13, oc13, od13, ol13, kv13, dc13, pm13, an13, cv13, ct13, L13, Q13⟩ := SaysH.glo c 1 1 (d := d_greatest_integer) rfl rfl rfl
  obtain ⟨A14, Z14, oc14, od14, ol14, kv14, dc14, pm14, an14, cv14, ct14, L14, Q14⟩ := SaysH.glo c 1 2 (d := d_is_role) rfl rfl rfl
  obtain ⟨A15, Z15, oc15, od15, ol15, kv15, dc15, pm15, an15, cv15, ct15, L15, Q15⟩ := SaysH.glo c 1 3 (d := d_is_digest) rfl rfl rfl
  obtain ⟨A16, Z16, oc16, od16, ol16, kv16, dc16, pm16, an16, cv16, ct16, L16, Q16⟩ := SaysH.glo c 1 4 (d := d_is_grant) rfl rfl rfl
  obtain ⟨A17, Z17, oc17, od17, ol17, kv17, dc17, pm17, an17, cv17, ct17, L17, Q17⟩ := SaysH.glo c 1 5 (d := d_is_charter) rfl rfl rfl
  obtain ⟨A18, Z18, oc18, od18, ol18, kv18, dc18, pm18, an18, cv18, ct18, L18, Q18⟩ := SaysH.glo c 1 6 (d := d_is_stamp) rfl rfl rfl
  obtain ⟨A19, Z19, oc19, od19, ol19, kv19, dc19, pm19, an19, cv19, ct19, L19, Q19⟩ := SaysH.glo c 1 7 (d := d_is_shelf) rfl rfl rfl
  obtain ⟨A20, Z20, oc20, od20, ol20, kv20, dc20, pm20, an20, cv20, ct20, L20, Q20⟩ := SaysH.glo c 1 8 (d := d_is_list) rfl rfl rfl
  obtain ⟨A21, Z21, oc21, od21, ol21, kv21, dc21, pm21, an21, cv21, ct21, L21, Q21⟩ := SaysH.glo c 1 9 (d := d_is_amount) rfl rfl rfl
  obtain ⟨A22, Z22, oc22, od22, ol22, kv22, dc22, pm22, an22, cv22, ct22, L22, Q22⟩ := SaysH.glo c 1 10 (d := d_write) rfl rfl rfl
  obtain ⟨A23, Z23, oc23, od23, ol23, kv23, dc23, pm23, an23, cv23, ct23, L23, Q23⟩ := SaysH.glo c 1 11 (d := d_published_name) rfl rfl rfl
  obtain ⟨A24, Z24, oc24, od24, ol24, kv24, dc24, pm24, an24, cv24, ct24, L24, Q24⟩ := SaysH.glo c 2 0 (d := d_name_of_charter) rfl rfl rfl
  obtain ⟨A25, Z25, oc25, od25, ol25, kv25, dc25, pm25, an25, cv25, ct25, L25, Q25⟩ := SaysH.glo c 2 1 (d := d_name_of_shelf) rfl rfl rfl
  obtain ⟨A26, Z26, oc26, od26, ol26, kv26, dc26, pm26, an26, cv26, ct26, L26, Q26⟩ := SaysH.glo c 2 2 (d := d_name_of_list) rfl rfl rfl
  obtain ⟨A27, Z27, oc27, od27, ol27, kv27, dc27, pm27, an27, cv27, ct27, L27, Q27⟩ := SaysH.glo c 2 3 (d := d_is_tuple_of) rfl rfl rfl
  obtain ⟨A28, Z28, oc28, od28, ol28, kv28, dc28, pm28, an28, cv28, ct28, L28, Q28⟩ := SaysH.glo c 2 4 (d := d_is_tuple_within) rfl rfl rfl
  obtain ⟨A29, Z29, oc29, od29, ol29, kv29, dc29, pm29, an29, cv29, ct29, L29, Q29⟩ := SaysH.glo c 2 5 (d := d_is_headed) rfl rfl rfl
  obtain ⟨A30, Z30, oc30, od30, ol30, kv30, dc30, pm30, an30, cv30, ct30, L30, Q30⟩ := SaysH.glo c 2 6 (d := d_is_version) rfl rfl rfl
  obtain ⟨A31, Z31, oc31, od31, ol31, kv31, dc31, pm31, an31, cv31, ct31, L31, Q31⟩ := SaysH.glo c 2 7 (d := d_is_entry) rfl rfl rfl
  obtain ⟨A32, Z32, oc32, od32, ol32, kv32, dc32, pm32, an32, cv32, ct32, L32, Q32⟩ := SaysH.glo c 2 8 (d := d_is_named_entry) rfl rfl rfl
  obtain ⟨A33, Z33, oc33, od33, ol33, kv33, dc33, pm33, an33, cv33, ct33, L33, Q33⟩ := SaysH.glo c 2 9 (d := d_is_good) rfl rfl rfl
  obtain ⟨A34, Z34, oc34, od34, ol34, kv34, dc34, pm34, an34, cv34, ct34, L34, Q34⟩ := SaysH.glo c 2 10 (d := d_require_document) rfl rfl rfl
  obtain ⟨A35, I35, Z35, oc35, od35, ol35, kv35, dc35, pm35, an35, cv35, ct35, L35, Q35⟩ := SaysH.met c 2 11 (d := d_Draft___init) rfl rfl rfl
  obtain ⟨A36, I36, Z36, oc36, od36, ol36, kv36, dc36, pm36, an36, cv36, ct36, L36, Q36⟩ := SaysH.met c 3 0 (d := d_Draft_put) rfl rfl rfl
  obtain ⟨A37, I37, Z37, oc37, od37, ol37, kv37, dc37, pm37, an37, cv37, ct37, L37, Q37⟩ := SaysH.met c 3 1 (d := d_Draft__require_list) rfl rfl rfl
  obtain ⟨A38, Z38, oc38, od38, ol38, kv38, dc38, pm38, an38, cv38, ct38, L38, Q38⟩ := SaysH.glo c 3 2 (d := d_require_path) rfl rfl rfl
  obtain ⟨A39, Z39, oc39, od39, ol39, kv39, dc39, pm39, an39, cv39, ct39, L39, Q39⟩ := SaysH.glo c 3 3 (d := d_seal) rfl rfl rfl
  obtain ⟨A40, Z40, oc40, od40, ol40, kv40, dc40, pm40, an40, cv40, ct40, L40, Q40⟩ := SaysH.glo c 3 4 (d := d_different_keys) rfl rfl rfl
  obtain ⟨A41, Z41, oc41, od41, ol41, kv41, dc41, pm41, an41, cv41, ct41, L41, Q41⟩ := SaysH.glo c 3 5 (d := d_role_of) rfl rfl rfl
  obtain ⟨A42, I42, Z42, oc42, od42, ol42, kv42, dc42, pm42, an42, cv42, ct42, L42, Q42⟩ := SaysH.met c 3 6 (d := d_Workshop___init) rfl rfl rfl
  obtain ⟨A43, I43, Z43, oc43, od43, ol43, kv43, dc43, pm43, an43, cv43, ct43, L43, Q43⟩ := SaysH.met c 3 7 (d := d_Workshop_turn) rfl rfl rfl
  obtain ⟨A44, I44, Z44, oc44, od44, ol44, kv44, dc44, pm44, an44, cv44, ct44, L44, Q44⟩ := SaysH.met c 3 8 (d := d_Workshop_put) rfl rfl rfl
  obtain ⟨A45, I45, Z45, oc45, od45, ol45, kv45, dc45, pm45, an45, cv45, ct45, L45, Q45⟩ := SaysH.met c 3 9 (d := d_Workshop_text) rfl rfl rfl
  obtain ⟨A46, I46, Z46, oc46, od46, ol46, kv46, dc46, pm46, an46, cv46, ct46, L46, Q46⟩ := SaysH.met c 3 10 (d := d_Workshop_names) rfl rfl rfl
  obtain ⟨A47, I47, Z47, oc47, od47, ol47, kv47, dc47, pm47, an47, cv47, ct47, L47, Q47⟩ := SaysH.met c 3 11 (d := d_Workshop_first) rfl rfl rfl
  obtain ⟨A48, I48, Z48, oc48, od48, ol48, kv48, dc48, pm48, an48, cv48, ct48, L48, Q48⟩ := SaysH.met c 4 0 (d := d_Workshop_charters) rfl rfl rfl
  obtain ⟨A49, I49, Z49, oc49, od49, ol49, kv49, dc49, pm49, an49, cv49, ct49, L49, Q49⟩ := SaysH.met c 4 1 (d := d_Workshop__keys_of) rfl rfl rfl
  obtain ⟨A50, I50, Z50, oc50, od50, ol50, kv50, dc50, pm50, an50, cv50, ct50, L50, Q50⟩ := SaysH.met c 4 2 (d := d_Workshop__issue) rfl rfl rfl
  obtain ⟨A51, I51, Z51, oc51, od51, ol51, kv51, dc51, pm51, an51, cv51, ct51, L51, Q51⟩ := SaysH.met c 4 3 (d := d_Workshop__publish_charter) rfl rfl rfl
  obtain ⟨A52, Z52, oc52, od52, ol52, kv52, dc52, pm52, an52, cv52, ct52, L52, Q52⟩ := SaysH.glo c 4 4 (d := d_require_roles) rfl rfl rfl
  obtain ⟨A53, Z53, oc53, od53, ol53, kv53, dc53, pm53, an53, cv53, ct53, L53, Q53⟩ := SaysH.glo c 4 5 (d := d_require_expires) rfl rfl rfl
  obtain ⟨A54, I54, Z54, oc54, od54, ol54, kv54, dc54, pm54, an54, cv54, ct54, L54, Q54⟩ := SaysH.met c 4 6 (d := d_Seals___init) rfl rfl rfl
  obtain ⟨A55, I55, Z55, oc55, od55, ol55, kv55, dc55, pm55, an55, cv55, ct55, L55, Q55⟩ := SaysH.met c 4 7 (d := d_Seals_make) rfl rfl rfl
  obtain ⟨A56, I56, Z56, oc56, od56, ol56, kv56, dc56, pm56, an56, cv56, ct56, L56, Q56⟩ := SaysH.met c 4 8 (d := d_Seals_count) rfl rfl rfl
  obtain ⟨A57, Z57, oc57, od57, ol57, kv57, dc57, pm57, an57, cv57, ct57, L57, Q57⟩ := SaysH.glo c 4 9 (d := d_law_cell) rfl rfl rfl
  obtain ⟨A58, Z58, oc58, od58, ol58, kv58, dc58, pm58, an58, cv58, ct58, L58, Q58⟩ := SaysH.glo c 4 10 (d := d_law_stream) rfl rfl rfl
  obtain ⟨A59, Z59, oc59, od59, ol59, kv59, dc59, pm59, an59, cv59, ct59, L59, Q59⟩ := SaysH.glo c 4 11 (d := d_law_take) rfl rfl rfl
  obtain ⟨A60, Z60, oc60, od60, ol60, kv60, dc60, pm60, an60, cv60, ct60, L60, Q60⟩ := SaysH.glo c 5 0 (d := d_law_once) rfl rfl rfl
  obtain ⟨A61, Z61, oc61, od61, ol61, kv61, dc61, pm61, an61, cv61, ct61, L61, Q61⟩ := SaysH.glo c 5 1 (d := d_law_digest) rfl rfl rfl
  obtain ⟨A62, Z62, oc62, od62, ol62, kv62, dc62, pm62, an62, cv62, ct62, L62, Q62⟩ := SaysH.glo c 5 2 (d := d_law_text) rfl rfl rfl
  obtain ⟨A63, Z63, oc63, od63, ol63, kv63, dc63, pm63, an63, cv63, ct63, L63, Q63⟩ := SaysH.glo c 5 3 (d := d_law_same) rfl rfl rfl
  obtain ⟨A64, Z64, oc64, od64, ol64, kv64, dc64, pm64, an64, cv64, ct64, L64, Q64⟩ := SaysH.glo c 5 4 (d := d_law_counts) rfl rfl rfl
  obtain ⟨A65, Z65, oc65, od65, ol65, kv65, dc65, pm65, an65, cv65, ct65, L65, Q65⟩ := SaysH.glo c 5 5 (d := d_law_all) rfl rfl rfl
  obtain ⟨A66, Z66, oc66, od66, ol66, kv66, dc66, pm66, an66, cv66, ct66, L66, Q66⟩ := SaysH.glo c 5 6 (d := d_law_number) rfl rfl rfl
  obtain ⟨A67, Z67, oc67, od67, ol67, kv67, dc67, pm67, an67, cv67, ct67, L67, Q67⟩ := SaysH.glo c 5 7 (d := d_law_tuple) rfl rfl rfl
  obtain ⟨A68, Z68, oc68, od68, ol68, kv68, dc68, pm68, an68, cv68, ct68, L68, Q68⟩ := SaysH.glo c 5 8 (d := d_law_rising) rfl rfl rfl
  obtain ⟨A69, Z69, oc69, od69, ol69, kv69, dc69, pm69, an69, cv69, ct69, L69, Q69⟩ := SaysH.glo c 5 9 (d := d_law_is_key) rfl rfl rfl
  obtain ⟨A70, Z70, oc70, od70, ol70, kv70, dc70, pm70, an70, cv70, ct70, L70, Q70⟩ := SaysH.glo c 5 10 (d := d_law_is_role) rfl rfl rfl
  obtain ⟨A71, Z71, oc71, od71, ol71, kv71, dc71, pm71, an71, cv71, ct71, L71, Q71⟩ := SaysH.glo c 5 11 (d := d_law_odd) rfl rfl rfl
  obtain ⟨A72, Z72, oc72, od72, ol72, kv72, dc72, pm72, an72, cv72, ct72, L72, Q72⟩ := SaysH.glo c 6 0 (d := d_law_spoilt) rfl rfl rfl
  obtain ⟨A73, Z73, oc73, od73, ol73, kv73, dc73, pm73, an73, cv73, ct73, L73, Q73⟩ := SaysH.glo c 6 1 (d := d_law_role) rfl rfl rfl
  obtain ⟨A74, Z74, oc74, od74, ol74, kv74, dc74, pm74, an74, cv74, ct74, L74, Q74⟩ := SaysH.glo c 6 2 (d := d_law_roles) rfl rfl rfl
  obtain ⟨A75, Z75, oc75, od75, ol75, kv75, dc75, pm75, an75, cv75, ct75, L75, Q75⟩ := SaysH.glo c 6 3 (d := d_law_time) rfl rfl rfl
  obtain ⟨A76, Z76, oc76, od76, ol76, kv76, dc76, pm76, an76, cv76, ct76, L76, Q76⟩ := SaysH.glo c 6 4 (d := d_law_seal) rfl rfl rfl
  obtain ⟨A77, Z77, oc77, od77, ol77, kv77, dc77, pm77, an77, cv77, ct77, L77, Q77⟩ := SaysH.glo c 6 5 (d := d_law_are_roles) rfl rfl rfl
  obtain ⟨A78, Z78, oc78, od78, ol78, kv78, dc78, pm78, an78, cv78, ct78, L78, Q78⟩ := SaysH.glo c 6 6 (d := d_law_turned) rfl rfl rfl
  obtain ⟨A79, Z79, oc79, od79, ol79, kv79, dc79, pm79, an79, cv79, ct79, L79, Q79⟩ := SaysH.glo c 6 7 (d := d_law_holds) rfl rfl rfl
  obtain ⟨A80, Z80, oc80, od80, ol80, kv80, dc80, pm80, an80, cv80, ct80, L80, Q80⟩ := SaysH.glo c 6 8 (d := d_law) rfl rfl rfl
  obtain ⟨A_BadAct, I_BadAct, Z_BadAct, oc_BadAct, od_BadAct, ol_BadAct, kv_BadAct, dc_BadAct, pm_BadAct, an_BadAct, cv_BadAct, ct_BadAct, L_BadAct, Q_BadAct⟩ := SaysH.met c 6 9 (d := d_BadAct___init) rfl rfl rfl
  obtain ⟨tc6, tk6, td6, tv6, ts6, tp6, te6, T6, U6, N6⟩ := SaysH.tab c 0 (d := d_consists_of) rfl L6
  cases te6
  obtain ⟨tc7, tk7, td7, tv7, ts7, tp7, te7, T7, U7, N7⟩ := SaysH.tab c 1 (d := d_has_parts_of) rfl L7
  cases te7
  obtain ⟨tc8, tk8, td8, tv8, ts8, tp8, te8, T8, U8, N8⟩ := SaysH.tab c 2 (d := d_is_printable) rfl L8
  cases te8
  obtain ⟨tc14, tk14, td14, tv14, ts14, tp14, te14, T14, U14, N14⟩ := SaysH.tab c 3 (d := d_is_role) rfl L14
  cases te14
  obtain ⟨tc15, tk15, td15, tv15, ts15, tp15, te15, T15, U15, N15⟩ := SaysH.tab c 4 (d := d_is_digest) rfl L15
  cases te15
  obtain ⟨tc16, tk16, td16, tv16, ts16, tp16, te16, T16, U16, N16⟩ := SaysH.tab c 5 (d := d_is_grant) rfl L16
  cases te16
  obtain ⟨tc17, tk17, td17, tv17, ts17, tp17, te17, T17, U17, N17⟩ := SaysH.tab c 6 (d := d_is_charter) rfl L17
  cases te17
  obtain ⟨tc19, tk19, td19, tv19, ts19, tp19, te19, T19, U19, N19⟩ := SaysH.tab c 7 (d := d_is_shelf) rfl L19
  cases te19
  obtain ⟨tc20, tk20, td20, tv20, ts20, tp20, te20, T20, U20, N20⟩ := SaysH.tab c 8 (d := d_is_list) rfl L20
  cases te20
  obtain ⟨tc40, tk40, td40, tv40, ts40, tp40, te40, T40, U40, N40⟩ := SaysH.tab c 9 (d := d_different_keys) rfl L40
  cases te40
  obtain ⟨vt__FACTOR, V__FACTOR⟩ := int_in (SaysH.fact c 3 7 (f := fun K => (He.Fa.int "_FACTOR" (65599)).ok K) rfl rfl)
  obtain ⟨vt__DIVISOR, V__DIVISOR⟩ := int_in (SaysH.fact c 3 8 (f := fun K => (He.Fa.int "_DIVISOR" (2361183241434822606617)).ok K) rfl rfl)
  obtain ⟨vt__LETTERS, V__LETTERS⟩ := str_in (SaysH.fact c 3 9 (f := fun K => (He.Fa.str "_LETTERS" "abcdefghijklmnopqrstuvwxyz").ok K) rfl rfl)
  obtain ⟨vt__DIGITS, V__DIGITS⟩ := str_in (SaysH.fact c 3 10 (f := fun K => (He.Fa.str "_DIGITS" "0123456789").ok K) rfl rfl)
  obtain ⟨vt__PART_MARKS, V__PART_MARKS⟩ := str_in (SaysH.fact c 3 11 (f := fun K => (He.Fa.str "_PART_MARKS" "abcdefghijklmnopqrstuvwxyz0123456789_-.").ok K) rfl rfl)
  obtain ⟨vt__MOST_NAME, V__MOST_NAME⟩ := int_in (SaysH.fact c 4 0 (f := fun K => (He.Fa.int "_MOST_NAME" (12)).ok K) rfl rfl)
  obtain ⟨vt__MOST_PARTS, V__MOST_PARTS⟩ := int_in (SaysH.fact c 4 1 (f := fun K => (He.Fa.int "_MOST_PARTS" (6)).ok K) rfl rfl)
  obtain ⟨vt_MOST_PATH, V_MOST_PATH⟩ := int_in (SaysH.fact c 4 2 (f := fun K => (He.Fa.int "MOST_PATH" (60)).ok K) rfl rfl)
  obtain ⟨vt_MOST_KEYS, V_MOST_KEYS⟩ := int_in (SaysH.fact c 4 3 (f := fun K => (He.Fa.int "MOST_KEYS" (16)).ok K) rfl rfl)
  obtain ⟨vt_MOST_NUMBER, V_MOST_NUMBER⟩ := int_in (SaysH.fact c 4 4 (f := fun K => (He.Fa.int "MOST_NUMBER" (1000000000000)).ok K) rfl rfl)
  obtain ⟨vt_DIGEST_LENGTH, V_DIGEST_LENGTH⟩ := int_in (SaysH.fact c 4 5 (f := fun K => (He.Fa.int "DIGEST_LENGTH" (18)).ok K) rfl rfl)
  obtain ⟨vt__DIGEST_MARKS, V__DIGEST_MARKS⟩ := str_in (SaysH.fact c 4 6 (f := fun K => (He.Fa.str "_DIGEST_MARKS" "0123456789abcdef").ok K) rfl rfl)
  obtain ⟨vt__MOST_PATTERNS, V__MOST_PATTERNS⟩ := int_in (SaysH.fact c 4 7 (f := fun K => (He.Fa.int "_MOST_PATTERNS" (8)).ok K) rfl rfl)
  obtain ⟨vt_MOST_GOODS, V_MOST_GOODS⟩ := int_in (SaysH.fact c 4 8 (f := fun K => (He.Fa.int "MOST_GOODS" (64)).ok K) rfl rfl)
  obtain ⟨vt_MOST_LISTS, V_MOST_LISTS⟩ := int_in (SaysH.fact c 4 9 (f := fun K => (He.Fa.int "MOST_LISTS" (32)).ok K) rfl rfl)
  obtain ⟨vt_TOP_LIST, V_TOP_LIST⟩ := str_in (SaysH.fact c 4 10 (f := fun K => (He.Fa.str "TOP_LIST" "list").ok K) rfl rfl)
  obtain ⟨vt__ROLES, V__ROLES⟩ := int_in (SaysH.fact c 4 11 (f := fun K => (He.Fa.int "_ROLES" (4)).ok K) rfl rfl)
  obtain ⟨vt__BARRED_CODE, V__BARRED_CODE⟩ := int_in (SaysH.fact c 5 0 (f := fun K => (He.Fa.int "_BARRED_CODE" (37)).ok K) rfl rfl)
  obtain ⟨vt_MOST_DIGITS, V_MOST_DIGITS⟩ := int_in (SaysH.fact c 5 1 (f := fun K => (He.Fa.int "MOST_DIGITS" (20)).ok K) rfl rfl)
  obtain ⟨vt_MOST_DEPTH, V_MOST_DEPTH⟩ := int_in (SaysH.fact c 5 2 (f := fun K => (He.Fa.int "MOST_DEPTH" (8)).ok K) rfl rfl)
  obtain ⟨vt_MOST_TEXT, V_MOST_TEXT⟩ := int_in (SaysH.fact c 5 3 (f := fun K => (He.Fa.int "MOST_TEXT" (100000)).ok K) rfl rfl)
  obtain ⟨vt_MOST_SEALS, V_MOST_SEALS⟩ := int_in (SaysH.fact c 5 4 (f := fun K => (He.Fa.int "MOST_SEALS" (32)).ok K) rfl rfl)
  obtain ⟨vt_STAMP_NAME, V_STAMP_NAME⟩ := str_in (SaysH.fact c 5 5 (f := fun K => (He.Fa.str "STAMP_NAME" "stamp").ok K) rfl rfl)
  obtain ⟨wo, wi, wn, w0, w1, w2, w3, w4, w5⟩ := strsB_ok (SaysH.fact c 8 2 (f := fun K => strsB K (gA K "_ROLE_NAMES") rnm) rfl rfl)
  exact all_mk T X G hfa
    (He.eqO_ok (SaysH.fact c 0 0 (f := fun K => He.eqO (PySem.W.nsIn K mainGlobals "Seals") (some (some (.ref (gA K "Seals"))))) rfl rfl))
    (SaysH.fact c 0 1 (f := fun K => PySem.W.plainGet K (gA K "Seals") Str.empty) rfl rfl)
    (SaysH.fact c 0 2 (f := fun K => PySem.W.hasDictIn K (gA K "Seals")) rfl rfl)
    (SaysH.fact c 0 3 (f := fun K => PySem.W.plainOver K (gA K "Seals")) rfl rfl)
    (He.eqO_ok (SaysH.fact c 0 4 (f := fun K => He.eqO (PySem.W.findIn K (.ref (gA K "Seals")) "__setattr__") (some (some (.builtin "object.__setattr__")))) rfl rfl))
    (SaysH.fact c 0 5 (f := fun K => PySem.W.makesIn K (gA K "Seals")) rfl rfl)
    (SaysH.fact c 0 6 (f := fun K => PySem.W.keepIn K (.ref (gA K "Seals"))) rfl rfl)
    (He.eqO_ok (SaysH.fact c 0 7 (f := fun K => He.eqO (PySem.W.findIn K (.ref (gA K "Seals")) "_marks") (some none)) rfl rfl))
    (He.eqO_ok (SaysH.fact c 0 8 (f := fun K => He.eqO (PySem.W.nsIn K mainGlobals "Draft") (some (some (.ref (gA K "Draft"))))) rfl rfl))
    (SaysH.fact c 0 9 (f := fun K => PySem.W.plainGet K (gA K "Draft") Str.empty) rfl rfl)
    (SaysH.fact c 0 10 (f := fun K => PySem.W.hasDictIn K (gA K "Draft")) rfl rfl)
    (SaysH.fact c 0 11 (f := fun K => PySem.W.plainOver K (gA K "Draft")) rfl rfl)
    (He.eqO_ok (SaysH.fact c 1 0 (f := fun K => He.eqO (PySem.W.findIn K (.ref (gA K "Draft")) "__setattr__") (some (some (.builtin "object.__setattr__")))) rfl rfl))
    (SaysH.fact c 1 1 (f := fun K => PySem.W.makesIn K (gA K "Draft")) rfl rfl)
    (SaysH.fact c 1 2 (f := fun K => PySem.W.keepIn K (.ref (gA K "Draft"))) rfl rfl)
    (He.eqO_ok (SaysH.fact c 1 3 (f := fun K => He.eqO (PySem.W.findIn K (.ref (gA K "Draft")) "_files") (some none)) rfl rfl))
    (He.eqO_ok (SaysH.fact c 1 4 (f := fun K => He.eqO (PySem.W.findIn K (.ref (gA K "Draft")) "_grants") (some none)) rfl rfl))
    (He.eqO_ok (SaysH.fact c 1 5 (f := fun K => He.eqO (PySem.W.findIn K (.ref (gA K "Draft")) "_old_keys") (some none)) rfl rfl))
    (He.eqO_ok (SaysH.fact c 1 6 (f := fun K => He.eqO (PySem.W.nsIn K mainGlobals "Workshop") (some (some (.ref (gA K "Workshop"))))) rfl rfl))
    (SaysH.fact c 1 7 (f := fun K => PySem.W.plainGet K (gA K "Workshop") Str.empty) rfl rfl)
    (SaysH.fact c 1 8 (f := fun K => PySem.W.hasDictIn K (gA K "Workshop")) rfl rfl)
    (SaysH.fact c 1 9 (f := fun K => PySem.W.plainOver K (gA K "Workshop")) rfl rfl)
    (He.eqO_ok (SaysH.fact c 1 10 (f := fun K => He.eqO (PySem.W.findIn K (.ref (gA K "Workshop")) "__setattr__") (some (some (.builtin "object.__setattr__")))) rfl rfl))
    (SaysH.fact c 1 11 (f := fun K => PySem.W.makesIn K (gA K "Workshop")) rfl rfl)
    (SaysH.fact c 2 0 (f := fun K => PySem.W.keepIn K (.ref (gA K "Workshop"))) rfl rfl)
    (He.eqO_ok (SaysH.fact c 2 1 (f := fun K => He.eqO (PySem.W.findIn K (.ref (gA K "Workshop")) "_office") (some none)) rfl rfl))
    (He.eqO_ok (SaysH.fact c 2 2 (f := fun K => He.eqO (PySem.W.findIn K (.ref (gA K "Workshop")) "_draft") (some none)) rfl rfl))
    (He.eqO_ok (SaysH.fact c 2 3 (f := fun K => He.eqO (PySem.W.findIn K (.ref (gA K "Workshop")) "_texts") (some none)) rfl rfl))
    (He.eqO_ok (SaysH.fact c 2 4 (f := fun K => He.eqO (PySem.W.findIn K (.ref (gA K "Workshop")) "_charters") (some none)) rfl rfl))
    (He.eqO_ok (SaysH.fact c 2 5 (f := fun K => He.eqO (PySem.W.findIn K (.ref (gA K "Workshop")) "_stamps") (some none)) rfl rfl))
    (He.eqO_ok (SaysH.fact c 2 6 (f := fun K => He.eqO (PySem.W.findIn K (.ref (gA K "Workshop")) "_snapshots") (some none)) rfl rfl))
    (He.eqO_ok (SaysH.fact c 2 7 (f := fun K => He.eqO (PySem.W.findIn K (.ref (gA K "Workshop")) "_latest") (some none)) rfl rfl))
    (He.eqO_ok (SaysH.fact c 2 8 (f := fun K => He.eqO (PySem.W.findIn K (.ref (gA K "Workshop")) "_entry") (some none)) rfl rfl))
    A0
    L0
    Q0
    Z0
    A1
    L1
    Q1
    Z1
    A2
    L2
    Q2
    Z2
    A3
    L3
    Q3
    Z3
    A4
    L4
    Q4
    Z4
    A5
    L5
    Q5
    Z5
    A6
    L6
    Q6
    Z6
    A7
    L7
    Q7
    Z7
    A8
    L8
    Q8
    Z8
    A9
    L9
    Q9
    Z9
    A10
    L10
    Q10
    Z10
    A11
    L11
    Q11
    Z11
    A12
    L12
    Q12
    Z12
    A13
    L13
    Q13
    Z13
    A14
    L14
    Q14
    Z14
    A15
    L15
    Q15
    Z15
    A16
    L16
    Q16
    Z16
    A17
    L17
    Q17
    Z17
    A18
    L18
    Q18
    Z18
    A19
    L19
    Q19
    Z19
    A20
    L20
    Q20
    Z20
    A21
    L21
    Q21
    Z21
    A22
    L22
    Q22
    Z22
    A23
    L23
    Q23
    Z23
    A24
    L24
    Q24
    Z24
    A25
    L25
    Q25
    Z25
    A26
    L26
    Q26
    Z26
    A27
    L27
    Q27
    Z27
    A28
    L28
    Q28
    Z28
    A29
    L29
    Q29
    Z29
    A30
    L30
    Q30
    Z30
    A31
    L31
    Q31
    Z31
    A32
    L32
    Q32
    Z32
    A33
    L33
    Q33
    Z33
    A34
    L34
    Q34
    Z34
    A35
    I35
    L35
    Q35
    Z35
    A36
    I36
    L36
    Q36
    Z36
    A37
    I37
    L37
    Q37
    Z37
    A38
    L38
    Q38
    Z38
    A39
    L39
    Q39
    Z39
    A40
    L40
    Q40
    Z40
    A41
    L41
    Q41
    Z41
    A42
    I42
    L42
    Q42
    Z42
    A43
    I43
    L43
    Q43
    Z43
    A44
    I44
    L44
    Q44
    Z44
    A45
    I45
    L45
    Q45
    Z45
    A46
    I46
    L46
    Q46
    Z46
    A47
    I47
    L47
    Q47
    Z47
    A48
    I48
    L48
    Q48
    Z48
    A49
    I49
    L49
    Q49
    Z49
    A50
    I50
    L50
    Q50
    Z50
    A51
    I51
    L51
    Q51
    Z51
    A52
    L52
    Q52
    Z52
    A53
    L53
    Q53
    Z53
    A54
    I54
    L54
    Q54
    Z54
    A55
    I55
    L55
    Q55
    Z55
    A56
    I56
    L56
    Q56
    Z56
    A57
    L57
    Q57
    Z57
    A58
    L58
    Q58
    Z58
    A59
    L59
    Q59
    Z59
    A60
    L60
    Q60
    Z60
    A61
    L61
    Q61
    Z61
    A62
    L62
    Q62
    Z62
    A63
    L63
    Q63
    Z63
    A64
    L64
    Q64
    Z64
    A65
    L65
    Q65
    Z65
    A66
    L66
    Q66
    Z66
    A67
    L67
    Q67
    Z67
    A68
    L68
    Q68
    Z68
    A69
    L69
    Q69
    Z69
    A70
    L70
    Q70
    Z70
    A71
    L71
    Q71
    Z71
    A72
    L72
    Q72
    Z72
    A73
    L73
    Q73
    Z73
    A74
    L74
    Q74
    Z74
    A75
    L75
    Q75
    Z75
    A76
    L76
    Q76
    Z76
    A77
    L77
    Q77
    Z77
    A78
    L78
    Q78
    Z78
    A79
    L79
    Q79
    Z79
    A80
    L80
    Q80
    Z80
    (He.eqO_ok (SaysH.fact c 2 9 (f := fun K => He.eqO (PySem.W.nsIn K mainGlobals "len") (some none)) rfl rfl))
    (He.eqO_ok (SaysH.fact c 2 10 (f := fun K => He.eqO (PySem.W.nsIn K mainGlobals "int") (some none)) rfl rfl))
    (He.eqO_ok (SaysH.fact c 2 11 (f := fun K => He.eqO (PySem.W.nsIn K mainGlobals "str") (some none)) rfl rfl))
    (He.eqO_ok (SaysH.fact c 3 0 (f := fun K => He.eqO (PySem.W.nsIn K mainGlobals "bool") (some none)) rfl rfl))
    (He.eqO_ok (SaysH.fact c 3 1 (f := fun K => He.eqO (PySem.W.nsIn K mainGlobals "list") (some none)) rfl rfl))
    (He.eqO_ok (SaysH.fact c 3 2 (f := fun K => He.eqO (PySem.W.nsIn K mainGlobals "tuple") (some none)) rfl rfl))
    (He.eqO_ok (SaysH.fact c 3 3 (f := fun K => He.eqO (PySem.W.nsIn K mainGlobals "range") (some none)) rfl rfl))
    (He.eqO_ok (SaysH.fact c 3 4 (f := fun K => He.eqO (PySem.W.nsIn K mainGlobals "isinstance") (some none)) rfl rfl))
    (He.eqO_ok (SaysH.fact c 3 5 (f := fun K => He.eqO (PySem.W.nsIn K mainGlobals "ord") (some none)) rfl rfl))
    (He.eqO_ok (SaysH.fact c 3 6 (f := fun K => He.eqO (PySem.W.nsIn K mainGlobals "all") (some none)) rfl rfl))
    V__FACTOR
    V__DIVISOR
    V__LETTERS
    V__DIGITS
    V__PART_MARKS
    V__MOST_NAME
    V__MOST_PARTS
    V_MOST_PATH
    V_MOST_KEYS
    V_MOST_NUMBER
    V_DIGEST_LENGTH
    V__DIGEST_MARKS
    V__MOST_PATTERNS
    V_MOST_GOODS
    V_MOST_LISTS
    V_TOP_LIST
    V__ROLES
    V__BARRED_CODE
    V_MOST_DIGITS
    V_MOST_DEPTH
    V_MOST_TEXT
    V_MOST_SEALS
    V_STAMP_NAME
    (He.eqO_ok (SaysH.fact c 5 6 (f := fun K => He.eqO (PySem.W.nsIn K mainGlobals "BadText") (some (some (.ref (gA K "BadText"))))) rfl rfl))
    (SaysH.fact c 5 7 (f := fun K => PySem.W.excIn K (gA K "BadText") [.type "ValueError", .type "Exception", .type "BaseException", .type "object"] "ValueError.__new__") rfl rfl)
    (SaysH.fact c 5 8 (f := fun K => PySem.W.keepIn K (.ref (gA K "BadText"))) rfl rfl)
    (of_decide_eq_true (SaysH.fact c 5 9 (f := fun K => decide (PySem.W.subIn K (.ref (gA K "BadText")) (.type "BaseException") = some true)) rfl rfl))
    (of_decide_eq_true (SaysH.fact c 5 10 (f := fun K => decide (PySem.W.typeIn K (.ref (gA K "BadText")) = some (.type "type"))) rfl rfl))
    (SaysH.fact c 5 11 (f := fun K => PySem.W.isClsIn K (gA K "BadText")) rfl rfl)
    (of_decide_eq_true (SaysH.fact c 6 0 (f := fun K => decide (PySem.W.subIn K (.ref (gA K "BadText")) (.ref (gA K "BadText")) = some true)) rfl rfl))
    (He.eqO_ok (SaysH.fact c 6 1 (f := fun K => He.eqO (PySem.W.nsIn K mainGlobals "BadDocument") (some (some (.ref (gA K "BadDocument"))))) rfl rfl))
    (SaysH.fact c 6 2 (f := fun K => PySem.W.excIn K (gA K "BadDocument") [.type "ValueError", .type "Exception", .type "BaseException", .type "object"] "ValueError.__new__") rfl rfl)
    (SaysH.fact c 6 3 (f := fun K => PySem.W.keepIn K (.ref (gA K "BadDocument"))) rfl rfl)
    (of_decide_eq_true (SaysH.fact c 6 4 (f := fun K => decide (PySem.W.subIn K (.ref (gA K "BadDocument")) (.type "BaseException") = some true)) rfl rfl))
    (of_decide_eq_true (SaysH.fact c 6 5 (f := fun K => decide (PySem.W.typeIn K (.ref (gA K "BadDocument")) = some (.type "type"))) rfl rfl))
    (SaysH.fact c 6 6 (f := fun K => PySem.W.isClsIn K (gA K "BadDocument")) rfl rfl)
    (of_decide_eq_true (SaysH.fact c 6 7 (f := fun K => decide (PySem.W.subIn K (.ref (gA K "BadDocument")) (.ref (gA K "BadDocument")) = some true)) rfl rfl))
    (He.eqO_ok (SaysH.fact c 6 8 (f := fun K => He.eqO (PySem.W.nsIn K mainGlobals "BadKey") (some (some (.ref (gA K "BadKey"))))) rfl rfl))
    (SaysH.fact c 6 9 (f := fun K => PySem.W.excIn K (gA K "BadKey") [.type "ValueError", .type "Exception", .type "BaseException", .type "object"] "ValueError.__new__") rfl rfl)
    (SaysH.fact c 6 10 (f := fun K => PySem.W.keepIn K (.ref (gA K "BadKey"))) rfl rfl)
    (of_decide_eq_true (SaysH.fact c 6 11 (f := fun K => decide (PySem.W.subIn K (.ref (gA K "BadKey")) (.type "BaseException") = some true)) rfl rfl))
    (of_decide_eq_true (SaysH.fact c 7 0 (f := fun K => decide (PySem.W.typeIn K (.ref (gA K "BadKey")) = some (.type "type"))) rfl rfl))
    (SaysH.fact c 7 1 (f := fun K => PySem.W.isClsIn K (gA K "BadKey")) rfl rfl)
    (of_decide_eq_true (SaysH.fact c 7 2 (f := fun K => decide (PySem.W.subIn K (.ref (gA K "BadKey")) (.ref (gA K "BadKey")) = some true)) rfl rfl))
    (He.eqO_ok (SaysH.fact c 7 3 (f := fun K => He.eqO (PySem.W.nsIn K mainGlobals "BadAct") (some (some (.ref (gA K "BadAct"))))) rfl rfl))
    A_BadAct
    L_BadAct
    Q_BadAct
    Z_BadAct
    (of_decide_eq_true (SaysH.fact c 7 4 (f := fun K => decide (PySem.W.typeIn K (.ref (fA K d_BadAct___init.at_)) = some (.type "function"))) rfl rfl))
    (oexB_ok (SaysH.fact c 7 5 (f := fun K => oexB K (gA K "BadAct")) rfl rfl))
    (He.eqO_ok (SaysH.fact c 7 6 (f := fun K => He.eqO (PySem.W.findIn K (.ref (gA K "BadAct")) "reason") (some none)) rfl rfl))
    (SaysH.fact c 7 7 (f := fun K => xfB K (gA K "BadAct")) rfl rfl)
    (of_decide_eq_true (SaysH.fact c 7 8 (f := fun K => decide (PySem.W.exmOne K (.ref (gA K "BadAct")) (.ref (gA K "BadAct")) = some true)) rfl rfl))
    (of_decide_eq_true (SaysH.fact c 7 9 (f := fun K => decide (PySem.W.exmOne K (.ref (gA K "BadText")) (.ref (gA K "BadDocument")) = some false)) rfl rfl))
    (of_decide_eq_true (SaysH.fact c 7 10 (f := fun K => decide (PySem.W.exmOne K (.ref (gA K "BadDocument")) (.ref (gA K "BadText")) = some false)) rfl rfl))
    (He.eqO_ok (SaysH.fact c 7 11 (f := fun K => He.eqO (PySem.W.nsIn K mainGlobals "sorted") (some none)) rfl rfl))
    (He.eqO_ok (SaysH.fact c 8 0 (f := fun K => He.eqO (PySem.W.nsIn K mainGlobals "set") (some none)) rfl rfl))
    (He.eqO_ok (SaysH.fact c 8 1 (f := fun K => He.eqO (PySem.W.nsIn K mainGlobals "_ROLE_NAMES") (some (some (.ref (gA K "_ROLE_NAMES"))))) rfl rfl))
    w0
    w1
    w2
    w3
    w4
    w5
    T6
    U6
    N6
    rfl
    T7
    U7
    N7
    rfl
    T8
    U8
    N8
    rfl
    T14
    U14
    N14
    rfl
    T15
    U15
    N15
    rfl
    T16
    U16
    N16
    rfl
    T17
    U17
    N17
    rfl
    T19
    U19
    N19
    rfl
    T20
    U20
    N20
    rfl
    T40
    U40
    N40
    rfl
end SC
open PySem PySem.W PySem.Calls PyProof.Rows
set_option maxRecDepth 100000 in
set_option maxHeartbeats 0 in
theorem PySem.Challenge.cw_sealchart_k61_turned_charters_holds : PySem.Challenge.rw_sealchart_k61_turned_charters.Holds := by
  w_on; o_law
  refine HandSHeadRun.head_any (r := SC.Rr) (q := SC.qv) (H := SC.hk) (ob := SC.ob) (M := 40000) (loose := SC.nms_) (d := HandSHeadRun.topDef SC.Rr.prog 108) (kwd := []) SC.ob_eq
    (by kernel_rfl) (fun s => by kernel_rfl) SC.run (by kernel_rfl) (by kernel_rfl) (by kernel_rfl) (by rfl) (by first | assumption | decide +kernel) (by decide +kernel) ⟨rfl, rfl, rfl, rfl, rfl, by decide +kernel⟩ ?hw ?hc
  case hw => w_witness2
  case hc =>
    refine SC.walk_tabE (l := PySem.Challenge.rw_sealchart_k61_turned_charters) (k := 30) (n := 63) (x := "script") (nm := "law") (CX := L2.CX0) (Sx := SC.SaysH SC.xgs SC.fgs SC.tfs) rfl (by decide) (by kernel_rfl) (by kernel_rfl) ⟨rfl, by decide, by decide⟩ (fun w h Y => Y) (fun _ _ _ _ z => z) ?F
    intro w mg mb lo mean fa h K T KX c G hmg
    exact SC.all_hk T KX c G hmg
--END
