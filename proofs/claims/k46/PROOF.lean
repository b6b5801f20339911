import PyProof.Rows.All
import Wide.All
import OpenK.AllK
import Wide.FinOn
import HandS.ForMost
import HandS.ForExc
import HandS.Wide
import HandS.IsInst
import HandS.AnyAll
import HandS.EndTab
import HandS.TupAny
import HandS.TupMul
import HandS.FStr
import HandS.StrMore
import HandS.WideBits
import KE.KxField
import HandS.Walk
import HandS.Replace
import HandS.Style
import HandS.Codes
import KE.KRevSl
import HandS.GenList
import HandS.TupLen
import HandS.Deep
import HandS.ExcIs
import HandS.ExcOwn
import HandS.Set
import HandS.SetFor
import HandS.SetTxt0
import HandS.Strs
import PyProof.Rows.SortShellAny
import PyProof.SumWalk
import HandS.More
import PySem.Challenge.RW_sealchart_k46_disk_that_crashes
set_option Elab.async false
set_option linter.all false
set_option maxRecDepth 100000
set_option maxHeartbeats 2000000
namespace SC
open PySem L2

/-- the built-in names are the built-ins -/
structure Blt (mg : Str → Option Value) : Prop where
  len : mg "len" = none
  int : mg "int" = none
  str : mg "str" = none
  bool : mg "bool" = none
  list : mg "list" = none
  tuple : mg "tuple" = none
  range : mg "range" = none
  isinstance : mg "isinstance" = none
  ord : mg "ord" = none
  all : mg "all" = none
section
variable {X : Cx} {p p2 pos : Pos} {e : Expr} {es : List Expr} {t : TA}
theorem Blt.len_s (B : Blt X.mg) (ha : PA X (e :: es) t) (hg : Gl X "len" := by rfl) (he : starEach (e :: es) X.env = (false, eval e X.env) :: starEach es X.env := by rfl) (hpl : (backTo pos (starEach es X.env)).any (·.1) = false := by rfl) :
    PE X (.Call (.Name "len" p) (e :: es) [] pos) (tCB (fun xs H Q => ∃ z, xs = [.str z] ∧ z.length ≤ sizeLine ∧ Q (.int z.length) H) t) := pe_callB call_len_str hg B.len PySem.boot_len ha (he := he) (hpl := hpl)
theorem Blt.len_q (B : Blt X.mg) (ha : PA X (e :: es) t) (hg : Gl X "len" := by rfl) (he : starEach (e :: es) X.env = (false, eval e X.env) :: starEach es X.env := by rfl) (hpl : (backTo pos (starEach es X.env)).any (·.1) = false := by rfl) :
    PE X (.Call (.Name "len" p) (e :: es) [] pos) (tCB (fun xs H Q => ∃ p ys, xs = [.ref p] ∧ (SqL X.K H p ys ∨ SqT X.K H p ys) ∧ Q (.int ys.length) H) t) := pe_callB call_len_seq hg B.len PySem.boot_len ha (he := he) (hpl := hpl)
theorem call_intI : CallR X (.type "int") (fun xs H Q => ∃ i, xs = [.int i] ∧ Q (.int i) H) := fun pins s σ H xs us Q I r h => call_int1 pins s σ H xs us Q I r (.inl h)
theorem Blt.int_i (B : Blt X.mg) (ha : PA X (e :: es) t) (hg : Gl X "int" := by rfl) (he : starEach (e :: es) X.env = (false, eval e X.env) :: starEach es X.env := by rfl) (hpl : (backTo pos (starEach es X.env)).any (·.1) = false := by rfl) :
    PE X (.Call (.Name "int" p) (e :: es) [] pos) (tCB (fun xs H Q => ∃ i, xs = [.int i] ∧ Q (.int i) H) t) :=
  pe_callTy call_intI hg B.int (by decide +kernel) ha (he := he) (hpl := hpl)
theorem Blt.int_s (B : Blt X.mg) (ha : PA X (e :: es) t) (hg : Gl X "int" := by rfl) (he : starEach (e :: es) X.env = (false, eval e X.env) :: starEach es X.env := by rfl) (hpl : (backTo pos (starEach es X.env)).any (·.1) = false := by rfl) :
    PE X (.Call (.Name "int" p) (e :: es) [] pos) (tCB (fun xs H Q => ∃ a n, xs = [.str a] ∧ PySem.intText? a = some n ∧ a.length ≤ 640 ∧ Q (.int n) H) t) :=
  pe_callTy call_int_str hg B.int (by decide +kernel) ha (he := he) (hpl := hpl)
theorem Blt.str_i (B : Blt X.mg) (ha : PA X (e :: es) t) (hg : Gl X "str" := by rfl) (he : starEach (e :: es) X.env = (false, eval e X.env) :: starEach es X.env := by rfl) (hpl : (backTo pos (starEach es X.env)).any (·.1) = false := by rfl) :
    PE X (.Call (.Name "str" p) (e :: es) [] pos) (tCB (fun xs H Q => ∃ i, xs = [.int i] ∧ i.natAbs.log2 < 1920 ∧ Q (.str (toString i)) H) t) :=
  pe_callTy call_str_int hg B.str (by decide +kernel) ha (he := he) (hpl := hpl)
theorem Blt.isi (B : Blt X.mg) (ha : PA X (e :: es) t) (hg : Gl X "isinstance" := by rfl) (he : starEach (e :: es) X.env = (false, eval e X.env) :: starEach es X.env := by rfl) (hpl : (backTo pos (starEach es X.env)).any (·.1) = false := by rfl) :
    PE X (.Call (.Name "isinstance" p) (e :: es) [] pos) (tCB (rIsi X.K) t) := pe_callB call_isi hg B.isinstance (by decide +kernel) ha (he := he) (hpl := hpl)
theorem Blt.ord_ (B : Blt X.mg) (ha : PA X (e :: es) t) (hg : Gl X "ord" := by rfl) (he : starEach (e :: es) X.env = (false, eval e X.env) :: starEach es X.env := by rfl) (hpl : (backTo pos (starEach es X.env)).any (·.1) = false := by rfl) :
    PE X (.Call (.Name "ord" p) (e :: es) [] pos) (tCB (fun xs H Q => ∃ x, xs = [.str x] ∧ x.length = 1 ∧ Q (.int (x.cps.getD 0 0 : Nat)) H) t) :=
  pe_callB call_ord hg B.ord (by decide +kernel) ha (he := he) (hpl := hpl)
theorem Blt.tuple_l (B : Blt X.mg) (ha : PA X (e :: es) t) (hg : Gl X "tuple" := by rfl) (he : starEach (e :: es) X.env = (false, eval e X.env) :: starEach es X.env := by rfl) (hpl : (backTo pos (starEach es X.env)).any (·.1) = false := by rfl) :
    PE X (.Call (.Name "tuple" p) (e :: es) [] pos) (tCB (fun xs H Q => ∃ p ys, xs = [.ref p] ∧ ((SqL X.K H p ys ∧ ∀ l, H l = none → Q (.ref l) (upd H l (.tup ys))) ∨ (SqT X.K H p ys ∧ Q (.ref p) H))) t) :=
  pe_callTy call_tuple_of hg B.tuple (by decide +kernel) ha (he := he) (hpl := hpl)
theorem Blt.list_q (B : Blt X.mg) (ha : PA X (e :: es) t) (hg : Gl X "list" := by rfl) (he : starEach (e :: es) X.env = (false, eval e X.env) :: starEach es X.env := by rfl) (hpl : (backTo pos (starEach es X.env)).any (·.1) = false := by rfl) :
    PE X (.Call (.Name "list" p) (e :: es) [] pos) (tCB (fun xs H Q => ∃ p ys, xs = [.ref p] ∧ (SqL X.K H p ys ∨ SqT X.K H p ys) ∧ ∀ l, H l = none → Q (.ref l) (upd H l (.lst ys))) t) :=
  pe_callTy call_list_of hg B.list (by decide +kernel) ha (he := he) (hpl := hpl)
theorem Blt.v_int (B : Blt X.mg) (hg : Gl X "int" := by rfl) : PE X (.Name "int" p) (tC (.ty "int")) := pe_bltn hg B.int (by decide +kernel) rfl
theorem Blt.v_str (B : Blt X.mg) (hg : Gl X "str" := by rfl) : PE X (.Name "str" p) (tC (.ty "str")) := pe_bltn hg B.str (by decide +kernel) rfl
theorem Blt.v_bool (B : Blt X.mg) (hg : Gl X "bool" := by rfl) : PE X (.Name "bool" p) (tC (.ty "bool")) := pe_bltn hg B.bool (by decide +kernel) rfl
theorem Blt.v_list (B : Blt X.mg) (hg : Gl X "list" := by rfl) : PE X (.Name "list" p) (tC (.ty "list")) := pe_bltn hg B.list (by decide +kernel) rfl
theorem Blt.v_tuple (B : Blt X.mg) (hg : Gl X "tuple" := by rfl) : PE X (.Name "tuple" p) (tC (.ty "tuple")) := pe_bltn hg B.tuple (by decide +kernel) rfl
theorem Blt.range1 (B : Blt X.mg) {tg : Expr} (ha : PA X [e] t) (hg : Gl X "range" := by rfl) (hs : starEach [e] X.env = [(false, eval e X.env)] := by rfl) : PI X tg (.Call (.Name "range" p) [e] [] pos) (iRng1 t) := pi_range1 hg B.range ha hs
end

section
variable {X : Cx}
/-- the same rules for what is tracked: the item list is told by the heap -/
theorem ix_lM : IxR X (fun x y H Q => ∃ p xs i v, x = .ref p ∧ H p = some (.lst xs) ∧ y = .int i ∧ atI xs i = some v ∧ Q v H) := by
  intro value slice pins s σ H x y v u Q I rx ry h hs
  obtain ⟨p, xs, i, z, e1, hp, e2, he, q⟩ := h
  exact ix_list value slice pins s σ H x y v u Q I rx ry ⟨p, xs, i, z, e1, e2, SqL.of hp, he, q⟩ hs
theorem ix_tM : IxR X (fun x y H Q => ∃ p xs i v, x = .ref p ∧ H p = some (.tup xs) ∧ y = .int i ∧ atI xs i = some v ∧ Q v H) := by
  intro value slice pins s σ H x y v u Q I rx ry h hs
  obtain ⟨p, xs, i, z, e1, hp, e2, he, q⟩ := h
  exact ix_tup value slice pins s σ H x y v u Q I rx ry ⟨p, xs, i, z, e1, e2, SqT.of hp, he, q⟩ hs
end
/-- a def of the text that keeps its promise, by its name -/
structure Cal (P : Program) (w : World) (K : PySem.W.Frag) (mg : Str → Option Value) (base : Heap) (CX : CXT) (k : Nat) (x : Str) (sp : Sp) : Prop where
  ex : ∃ f fd ps, FnOk P w K mg base CX k f fd ps sp ∧ mg x = some (.ref f) ∧ PySem.W.keepIn K (.ref f) = true ∧ Binds K fd ps []
section
variable {P : Program} {w : World} {K : PySem.W.Frag} {mg : Str → Option Value} {base : Heap} {CX : CXT} {x qual : Str} {sp : Sp}
theorem Cal.mono {j k : Nat} (c : Cal P w K mg base CX j x sp) (h : j ≤ k) : Cal P w K mg base CX k x sp :=
  let ⟨f, fd, ps, F, m, kp, b⟩ := c.ex
  ⟨f, fd, ps, F.mono h, m, kp, b⟩
theorem Cal.imp {k : Nat} {sp' : Sp} (c : Cal P w K mg base CX k x sp) (h : ∀ vs H Q E, sp' vs H Q E → sp vs H Q E) : Cal P w K mg base CX k x sp' :=
  let ⟨f, fd, ps, F, m, kp, b⟩ := c.ex
  ⟨f, fd, ps, F.imp h, m, kp, b⟩
end
section
variable {X : Cx} {x : Str} {p pos : Pos} {e : Expr} {es : List Expr} {t : TA} {sp : Sp} {j k : Nat} {CX : CXT} {E : XK}
/-- its call, what it raises passes as hx says -/
theorem Cal.pex (c : Cal X.prog X.w X.K X.mg X.base CX j x sp) (hr : Room k X.A) (hx : Passes CX X E) (ha : PA X (e :: es) t) (hjk : j ≤ k := by first | decide | omega) (hg : Gl X x := by rfl) (hdb : (x == ("__debug__" : Str)) = false := by decide)
    (he : starEach (e :: es) X.env = (false, eval e X.env) :: starEach es X.env := by rfl) (hpl : (backTo pos (starEach es X.env)).any (·.1) = false := by rfl) :
    PE X (.Call (.Name x p) (e :: es) [] pos) (tCall sp [] E t) :=
  let ⟨_, _, _, F, m, kp, b⟩ := c.ex
  pe_call F (hr.mono hjk) hg m kp b .nil hx ha hdb he hpl
theorem Cal.pe (c : Cal X.prog X.w X.K X.mg X.base CX0 j x sp) (hr : Room k X.A) (ha : PA X (e :: es) t) (hjk : j ≤ k := by first | decide | omega) (hg : Gl X x := by rfl) (hdb : (x == ("__debug__" : Str)) = false := by decide)
    (he : starEach (e :: es) X.env = (false, eval e X.env) :: starEach es X.env := by rfl) (hpl : (backTo pos (starEach es X.env)).any (·.1) = false := by rfl) :
    PE X (.Call (.Name x p) (e :: es) [] pos) (tCall sp [] E0 t) := c.pex hr pass0 ha hjk hg hdb he hpl
theorem Cal.pe0 (c : Cal X.prog X.w X.K X.mg X.base CX0 j x sp) (hr : Room k X.A) (hjk : j ≤ k := by first | decide | omega) (hg : Gl X x := by rfl) (hdb : (x == ("__debug__" : Str)) = false := by decide) :
    PE X (.Call (.Name x p) [] [] pos) (tCall sp [] E0 tNil) :=
  let ⟨_, _, _, F, m, kp, b⟩ := c.ex
  pe_call0 F (hr.mono hjk) hg m kp b .nil pass0 hdb
/-- of a def that may raise, where it does not -/
theorem Cal.peL (c : Cal X.prog X.w X.K X.mg X.base (L2.CX X.prog X.w) j x sp) (hr : Room k X.A) (ha : PA X (e :: es) t) (hjk : j ≤ k := by first | decide | omega) (hg : Gl X x := by rfl) (hdb : (x == ("__debug__" : Str)) = false := by decide)
    (he : starEach (e :: es) X.env = (false, eval e X.env) :: starEach es X.env := by rfl) (hpl : (backTo pos (starEach es X.env)).any (·.1) = false := by rfl) :
    PE X (.Call (.Name x p) (e :: es) [] pos) (tCall sp [] E0 t) := c.pex hr passL ha hjk hg hdb he hpl
end

/-- what was tracked outside S is as it was; tuples stand -/
structure Kp (S : List Addr) (H H' : Hp) : Prop where
  keep : ∀ b o, b ∉ S → H b = some o → H' b = some o
  tup : ∀ b xs, H b = some (.tup xs) → H' b = some (.tup xs)
theorem Kp.refl (S : List Addr) (H : Hp) : Kp S H H := ⟨fun _ _ _ h => h, fun _ _ h => h⟩
theorem Kp.trans {S : List Addr} {H H1 H2 : Hp} (a : Kp S H H1) (b : Kp S H1 H2) : Kp S H H2 := ⟨fun c o n h => b.keep c o n (a.keep c o n h), fun c xs h => b.tup c xs (a.tup c xs h)⟩
theorem Kp.new {S : List Addr} {H : Hp} {p : Addr} (h : H p = none) (o : HO) : Kp S H (upd H p o) :=
  ⟨fun b u _ q => by rw [upd_ne (ne_of_none q h)]; exact q, fun b u q => by rw [upd_ne (ne_of_none q h)]; exact q⟩
theorem Kp.lst {S : List Addr} {H : Hp} {p : Addr} {xs ys : List V} (h : H p = some (.lst xs)) (m : p ∈ S) : Kp S H (upd H p (.lst ys)) :=
  ⟨fun b u n q => by rw [upd_ne (fun z => n (by rw [z]; exact m))]; exact q, fun b u q => by rw [upd_ne (ne_of q h (by intro z; cases z))]; exact q⟩
theorem Kp.mono {S S' : List Addr} {H H' : Hp} (a : Kp S H H') (h : ∀ b ∈ S, b ∈ S') : Kp S' H H' := ⟨fun b o n q => a.keep b o (fun z => n (h b z)) q, a.tup⟩
/-- what was not there may change -/
theorem Kp.drop {S : List Addr} {H H' : Hp} {p : Addr} (h : H p = none) (a : Kp (p :: S) H H') : Kp S H H' :=
  ⟨fun b o n q => a.keep b o (fun z => by
    rcases List.mem_cons.mp z with z | z
    · rw [z, h] at q; cases q
    · exact n z) q, a.tup⟩
theorem Kp.upd {S : List Addr} {H H' : Hp} {p : Addr} {xs ys : List V} (a : Kp S H H') (h : H p = none) (e : H' p = some (.lst xs)) : Kp S H (upd H' p (.lst ys)) :=
  Kp.drop h ((a.mono fun b hb => List.mem_cons_of_mem _ hb).trans (Kp.lst e List.mem_cons_self))
theorem Kp.seqL {K : PySem.W.Frag} {S : List Addr} {H H' : Hp} {a : Addr} {xs : List V} (e : Kp S H H') (n : a ∉ S) (h : SqL K H a xs) : SqL K H' a xs := by
  rcases h with (h | ⟨o, h⟩) | h
  · exact .inl (.inl (e.keep _ _ n h))
  · exact .inl (.inr ⟨o, e.keep _ _ n h⟩)
  · exact .inr h
theorem Kp.tab {P : Addr} {S : List Addr} {H H' : Hp} (hG : GxR.TabG H P) (t : GxR.Tabbed P H H') (m : P ∈ S) : Kp S H H' := by
  obtain ⟨ps, e, _⟩ := hG
  refine ⟨fun b o n q => ?_, fun b xs q => ?_⟩
  · rw [t.2 b (fun z => n (by rw [z]; exact m))]; exact q
  · rw [t.2 b (ne_of q e (by intro z; cases z))]; exact q
/-- a stream of the law's: a list of two ints -/
def Strm (H : Hp) (s : Addr) : Prop := ∃ a b : Int, H s = some (.lst [.int a, .int b])
theorem Strm.mk {H : Hp} {s : Addr} {a b : Int} : Strm (upd H s (.lst [.int a, .int b])) s := ⟨a, b, upd_same⟩
theorem Strm.nT {H : Hp} {s P : Addr} (h : Strm H s) (g : GxR.TabG H P) : s ≠ P := by
  obtain ⟨a, b, e⟩ := h
  obtain ⟨ps, q, _⟩ := g
  exact ne_of e q (by intro z; cases z)
theorem Strm.kp {H H' : Hp} {s : Addr} {S : List Addr} (h : Strm H s) (k : Kp S H H') (n : s ∉ S) : Strm H' s := let ⟨a, b, e⟩ := h; ⟨a, b, k.keep _ _ n e⟩
theorem tabG_kp {H H' : Hp} {P : Addr} {S : List Addr} (h : GxR.TabG H P) (k : Kp S H H') (n : P ∉ S) : GxR.TabG H' P := let ⟨a, e, q⟩ := h; ⟨a, k.keep _ _ n e, q⟩

/-- the built-in type of a value, by the tracked heap -/
def tyN (H : Hp) : V → Option String
  | .non => some "NoneType" | .bl _ => some "bool" | .int _ => some "int" | .str _ => some "str"
  | .ref p => match H p with
    | some (.lst _) => some "list"
    | some (.tup _) => some "tuple"
    | some (.dK _) => some "dict"
    | _ => none
  | _ => none
theorem tyN_ok {K : PySem.W.Frag} {H : Hp} {v : V} {t : String} (h : tyN H v = some t) : TyX K H v (.type t) := by
  cases v with
  | non => cases h; exact .base .non
  | bl b => cases h; exact .base (.bl b)
  | int i => cases h; exact .base (.int i)
  | str z => cases h; exact .base (.str z)
  | ref p =>
    unfold tyN at h
    simp only at h
    split at h
    · rename_i xs e; cases h; exact .base (.lst e)
    · rename_i xs e; cases h; exact .base (.tup e)
    · rename_i xs e; cases h; exact .base (.dK e)
    · cases h
  | _ => cases h
theorem tyN_lst {H : Hp} {p : Addr} {xs : List V} (h : H p = some (.lst xs)) : tyN H (.ref p) = some "list" := by unfold tyN; simp only [h]
theorem tyN_tup {H : Hp} {p : Addr} {xs : List V} (h : H p = some (.tup xs)) : tyN H (.ref p) = some "tuple" := by unfold tyN; simp only [h]
theorem tyN_dK {H : Hp} {p : Addr} {xs : List (Key × V)} (h : H p = some (.dK xs)) : tyN H (.ref p) = some "dict" := by unfold tyN; simp only [h]
/-- whether the first type is one of the second -/
def isaB (t c : String) : Bool := t == c || (t == "bool" && c == "int")
theorem kit_isaB {t c : String} (ht : t ∈ ["NoneType", "bool", "int", "str", "list", "tuple", "dict"]) (hc : c ∈ ["bool", "int", "str", "list", "tuple"]) : kitB t c = some (isaB t c) := by
  simp only [List.mem_cons, List.not_mem_nil, or_false] at ht hc
  rcases ht with rfl | rfl | rfl | rfl | rfl | rfl | rfl <;> rcases hc with rfl | rfl | rfl | rfl | rfl <;> decide +kernel
theorem tyN_in {H : Hp} {v : V} {t : String} (h : tyN H v = some t) : t ∈ ["NoneType", "bool", "int", "str", "list", "tuple", "dict"] := by
  unfold tyN at h
  split at h
  · cases h; decide
  · cases h; decide
  · cases h; decide
  · cases h; decide
  · split at h
    · cases h; decide
    · cases h; decide
    · cases h; decide
    · cases h
  · cases h
section
variable {X : Cx} {p pos : Pos} {e : Expr} {es : List Expr} {t : TA}
/-- len of a tracked tuple, of a tracked list -/
theorem Blt.len_t (B : Blt X.mg) (ha : PA X (e :: es) t) (hg : Gl X "len" := by rfl) (he : starEach (e :: es) X.env = (false, eval e X.env) :: starEach es X.env := by rfl) (hpl : (backTo pos (starEach es X.env)).any (·.1) = false := by rfl) :
    PE X (.Call (.Name "len" p) (e :: es) [] pos) (tCB (fun xs H Q => ∃ p ys, xs = [.ref p] ∧ H p = some (.tup ys) ∧ Q (.int ys.length) H) t) :=
  pe_callB (fun pins s σ H xs us Q I r ⟨p, ys, e1, e2, q⟩ => call_len_seq pins s σ H xs us Q I r ⟨p, ys, e1, .inr (SqT.of e2), q⟩) hg B.len PySem.boot_len ha (he := he) (hpl := hpl)
theorem Blt.len_l (B : Blt X.mg) (ha : PA X (e :: es) t) (hg : Gl X "len" := by rfl) (he : starEach (e :: es) X.env = (false, eval e X.env) :: starEach es X.env := by rfl) (hpl : (backTo pos (starEach es X.env)).any (·.1) = false := by rfl) :
    PE X (.Call (.Name "len" p) (e :: es) [] pos) (tCB (fun xs H Q => ∃ p ys, xs = [.ref p] ∧ H p = some (.lst ys) ∧ Q (.int ys.length) H) t) :=
  pe_callB (fun pins s σ H xs us Q I r ⟨p, ys, e1, e2, q⟩ => call_len_seq pins s σ H xs us Q I r ⟨p, ys, e1, .inl (SqL.of e2), q⟩) hg B.len PySem.boot_len ha (he := he) (hpl := hpl)
end
section
variable {X : Cx} {p p2 pos : Pos} {e : Expr} {te : TE} {c : Str} {cs : String}
/-- a reading that may be weakened -/
def tMono (te : TE) : TE := fun σ H Q => ∃ Q0 : VK, te σ H Q0 ∧ ∀ x H1, Q0 x H1 → Q x H1
theorem pe_mono (he : PE X e te) : PE X e (tMono te) := ⟨fun pins s σ H Q I ⟨Q0, q, m⟩ => thn (he.run pins s σ H Q0 I q) fun u s1 ⟨v, H1, J, r, z⟩ => ⟨v, H1, J, r, m v H1 z⟩⟩
/-- isinstance(e, T), T a built-in type's name: told by the tracked heap -/
def tIsT (c : String) (te : TE) : TE := fun σ H Q => te σ H fun x H1 => ∃ t, tyN H1 x = some t ∧ Q (.bl (isaB t c)) H1
theorem Blt.isT (B : Blt X.mg) (he : PE X e te) (hc : PE X (.Name c p2) (tC (.ty cs))) (hm : cs ∈ ["bool", "int", "str", "list", "tuple"] := by decide) (hg : Gl X "isinstance" := by rfl) (hs : starEach [e, .Name c p2] X.env = (false, eval e X.env) :: starEach [.Name c p2] X.env := by rfl)
    (hs2 : starEach [.Name c p2] X.env = (false, eval (.Name c p2) X.env) :: starEach [] X.env := by rfl) (hpl : (backTo pos (starEach [.Name c p2] X.env)).any (·.1) = false := by rfl) :
    PE X (.Call (.Name "isinstance" p) [e, .Name c p2] [] pos) (tIsT cs te) := by
  have h := Blt.isi (p := p) (pos := pos) B (pa_cons (pe_mono he) (pa_cons hc pa_nil hs2) hs) hg hs hpl
  exact ⟨fun pins s σ H Q I q => h.run pins s σ H Q I ⟨_, q, fun x H1 ⟨t, h1, h2⟩ => ⟨x, .ty cs, .type t, .type cs, isaB t cs, rfl, .ty cs, tyN_ok h1, kit_ty (kit_isaB (tyN_in h1) hm), h2⟩⟩⟩
end

theorem tyN_ref {H : Hp} {p : Addr} {t : String} (h : tyN H (.ref p) = some t) : t = "list" ∨ t = "tuple" ∨ t = "dict" := by
  unfold tyN at h
  simp only at h
  split at h
  · cases h; exact .inl rfl
  · cases h; exact .inr (.inl rfl)
  · cases h; exact .inr (.inr rfl)
  · cases h
theorem isa_str {H : Hp} {v : V} {t : String} (h : tyN H v = some t) (q : isaB t "str" = true) : ∃ z, v = .str z := by
  cases v with
  | str z => exact ⟨z, rfl⟩
  | ref p => rcases tyN_ref h with rfl | rfl | rfl <;> exact absurd q (by decide)
  | _ => cases h <;> exact absurd q (by decide)
theorem isa_int {H : Hp} {v : V} {t : String} (h : tyN H v = some t) (q : isaB t "int" = true) : (∃ z, v = .int z) ∨ ∃ b, v = .bl b := by
  cases v with
  | int z => exact .inl ⟨z, rfl⟩
  | bl b => exact .inr ⟨b, rfl⟩
  | ref p => rcases tyN_ref h with rfl | rfl | rfl <;> exact absurd q (by decide)
  | _ => cases h <;> exact absurd q (by decide)
theorem isa_bool {H : Hp} {v : V} {t : String} (h : tyN H v = some t) (q : isaB t "bool" = true) : ∃ b, v = .bl b := by
  cases v with
  | bl b => exact ⟨b, rfl⟩
  | ref p => rcases tyN_ref h with rfl | rfl | rfl <;> exact absurd q (by decide)
  | _ => cases h <;> exact absurd q (by decide)
theorem isa_tuple {H : Hp} {v : V} {t : String} (h : tyN H v = some t) (q : isaB t "tuple" = true) : ∃ p xs, v = .ref p ∧ H p = some (.tup xs) := by
  cases v with
  | ref p =>
    unfold tyN at h
    simp only at h
    split at h
    · cases h; exact absurd q (by decide)
    · rename_i xs e; exact ⟨p, xs, rfl, e⟩
    · cases h; exact absurd q (by decide)
    · cases h
  | _ => cases h <;> exact absurd q (by decide)
theorem isaB_all : isaB "NoneType" "bool" = false ∧ isaB "NoneType" "int" = false ∧ isaB "NoneType" "str" = false ∧ isaB "NoneType" "list" = false ∧ isaB "NoneType" "tuple" = false ∧
  isaB "bool" "bool" = true ∧ isaB "bool" "int" = true ∧ isaB "bool" "str" = false ∧ isaB "bool" "list" = false ∧ isaB "bool" "tuple" = false ∧
  isaB "int" "bool" = false ∧ isaB "int" "int" = true ∧ isaB "int" "str" = false ∧ isaB "int" "list" = false ∧ isaB "int" "tuple" = false ∧
  isaB "str" "bool" = false ∧ isaB "str" "int" = false ∧ isaB "str" "str" = true ∧ isaB "str" "list" = false ∧ isaB "str" "tuple" = false ∧
  isaB "list" "bool" = false ∧ isaB "list" "int" = false ∧ isaB "list" "str" = false ∧ isaB "list" "list" = true ∧ isaB "list" "tuple" = false ∧
  isaB "tuple" "bool" = false ∧ isaB "tuple" "int" = false ∧ isaB "tuple" "str" = false ∧ isaB "tuple" "list" = false ∧ isaB "tuple" "tuple" = true ∧
  isaB "dict" "bool" = false ∧ isaB "dict" "int" = false ∧ isaB "dict" "str" = false ∧ isaB "dict" "list" = false ∧ isaB "dict" "tuple" = false := by decide
theorem tyN_non {H : Hp} : tyN H .non = some "NoneType" := rfl
theorem tyN_bl {H : Hp} {b : Bool} : tyN H (.bl b) = some "bool" := rfl
theorem tyN_int {H : Hp} {b : Int} : tyN H (.int b) = some "int" := rfl
theorem tyN_str {H : Hp} {b : Str} : tyN H (.str b) = some "str" := rfl
theorem ixN_20 : ixN 2 0 = some 0 := rfl
theorem ixN_21 : ixN 2 1 = some 1 := rfl
theorem ixN_10 : ixN 1 0 = some 0 := rfl
theorem at0 {α : Type} {a : α} {l : List α} : atI (a :: l) 0 = some a := atI_nat (j := 0) rfl
theorem at1 {α : Type} {a b : α} {l : List α} : atI (a :: b :: l) 1 = some b := atI_nat (j := 1) rfl
theorem if_dec {p : Prop} [Decidable p] {A B : Prop} (h1 : p → A) (h2 : ¬ p → B) : if decide p = true then A else B := by
  by_cases c : p
  · rw [decide_eq_true c]; exact iteT (h1 c)
  · rw [decide_eq_false c]; exact iteF (h2 c)
theorem gsOf {env : Env} {scope : Scope} {x : Str} (h : (match scope.kind with | .function => true | _ => false) && !scope.isCoroutine && (scope.names.all fun y => match y.2 with | .cell => false | .free => false | _ => true) && (match scope.names.lookup (".0" : Str) with | some .local => true | _ => false) = true)
    (hx : (match scope.names.lookup x with | some .local => true | _ => false) = true) : GxR.GenS env scope x := by
  simp only [Bool.and_eq_true, List.all_eq_true] at h
  obtain ⟨⟨⟨h1, h2⟩, h3⟩, h4⟩ := h
  refine ⟨?_, by simpa using h2, fun y hy e => ?_, ?_, ?_, fun y hy e => ?_⟩
  · split at h1
    · assumption
    · cases h1
  · have := h3 y hy; rw [e] at this; cases this
  · split at h4
    · assumption
    · cases h4
  · split at hx
    · assumption
    · cases hx
  · have := h3 y hy; rw [e] at this; cases this
/-- the empty text joins -/
theorem joinL_nil : ∀ l : List (List Nat), TL.joinL [] l = l.flatten
  | [] => rfl
  | [p] => by simp [TL.joinL]
  | p :: q :: r => by
    show p ++ ([] ++ TL.joinL [] (q :: r)) = _
    rw [joinL_nil (q :: r)]
    simp
theorem tl_joinE (ys : List Str) : TL.tl (Txt.join (Str.ofString "") ys) = (ys.map TL.tl).flatten := by
  rw [TL.join_eq, TL.tl_join]
  exact joinL_nil _
/-- one-sign texts -/
def sgs (cs : List Nat) : List Str := cs.map fun c => (⟨#[c]⟩ : Str)
theorem tl_sgs (cs : List Nat) : TL.tl (Txt.join (Str.ofString "") (sgs cs)) = cs := by
  rw [tl_joinE]
  unfold sgs
  rw [List.map_map]
  induction cs with
  | nil => rfl
  | cons c r ih => rw [List.map_cons, List.flatten_cons, ih]; rfl
theorem sgs_sum (cs : List Nat) : ((sgs cs).map (·.length)).sum = cs.length := by
  unfold sgs
  rw [List.map_map]
  induction cs with
  | nil => rfl
  | cons c r ih => rw [List.map_cons, List.sum_cons, ih]; show 1 + r.length = r.length + 1; omega
theorem sgs_len (cs : List Nat) : (sgs cs).length = cs.length := List.length_map _
theorem sgs_add (cs : List Nat) (c : Nat) : (sgs cs).map V.str ++ [.str ⟨#[c]⟩] = (sgs (cs ++ [c])).map V.str := by unfold sgs; simp
end SC

/-! all(test for mark in text), the test one that reads built-ins and globals too -/
namespace SC
open PySem PySem.Spec PyProof.Rows L2
open GxR (TabB TabG Tabbed Ready GenS keeps_tok trF trF_some all_signs inv_tab sh_eta)
/-- what the element may lean on: the module's names, the built-ins -/
structure Names2 (h : Heap) (mg : Str → Option Value) : Prop where
  glob : h.Ns mainGlobals mg
  blt : ∃ mb, h.Ns builtinsNs mb ∧ ∀ x : Str, x ≠ "__name__" → mb x = bootBuiltins x
def EltX (prog : Program) (w : World) (mg : Str → Option Value) (scope : Scope) (x : Str) (elt : Expr) (pb : Nat → Bool) : Prop :=
  ∀ (ce : Env) (A' : Around) (E' : Value → Shared → Prop) (c : Nat) (t : Tok) (s2 : Shared) (m2 : Str → Option Value), ce.scope = scope → ce.globals = mainGlobals → ce.builtins = builtinsNs → Names2 s2.heap mg →
    s2.heap.Ns ce.locals m2 → m2 x = some (.str ⟨#[c]⟩ t) → wpAny (model prog w) A' (eval elt ce) (fun y s3 => y = .bool (pb c) ∧ Keeps s2 s3) E' s2
section
variable {X : Cx} {pins : List (Addr × Obj)} {σ : L2.St} {H : Hp} {s : Shared}
theorem gen_mk {c P : Addr} {elt iter : Expr} {x : Str} {px gpos : Pos} {scope : Scope} {pb : Nat → Bool} {te : TE} {k : Nat} {Q' : Value → Shared → Prop} {R : Str → Hp → Prop}
    (hr : Room k X.A) (TB : TabB X.base X.mg c P) (hcode : X.env.code = .ref c) (S : GenS X.env scope x) (hi : PE X iter te) (hel : EltX X.prog X.w X.mg scope x elt pb)
    (hs : ∀ v, genFold iter X.env v = pure v) (I : Inv X pins σ H s) (h : te σ H fun v H1 => ∃ a : Str, v = .str a ∧ TabG H1 P ∧ R a H1)
    (hQ : ∀ a H1 g s5, R a H1 → Ready X pins σ H1 P a pb g s5 → Q' (.ref g) s5) :
    wpAny (model X.prog X.w) X.A (eval (.GeneratorExp elt [⟨.Name x px, iter, [], 0⟩] scope gpos) X.env) Q' X.xe s := by
  refine wpAny_GeneratorExp_walksQ hr.hd S.co (closure_ok S.free) S.cell S.dot S.loc S.kind (by have := hr.dp; omega) ?_ hs
  refine thn (hi.run pins s σ H _ I h) fun xv t1 ⟨v, H1, J, rv, a, ev, ⟨ps, hP, htr⟩, hR⟩ => ?_
  subst ev
  obtain ⟨tk1, rfl⟩ := rv
  refine wpAny_pyIter_str fun o St W hst => ?_
  have hPs : t1.heap.get? P = some { cls := .none, data := .fields ps } := J.hok P _ hP
  have hPlt := Heap.lt_size hPs
  have up : ∀ b u, t1.heap.get? b = some u → (t1.heap.push o).get? b = some u := fun b u e => Heap.get?_push_of_some _ e
  have cd : PySem.W.CodeHd (t1.heap.push o) c P := TB.code.keeps fun b u e => up b u (J.bk b u e)
  have lim : (t1.heap.push o).NoLimit := J.nolimit.push o
  have hclt : cStatics < t1.heap.objs.size := let ⟨_, hn, _⟩ := J.nolimit; hn.lt
  have hsz1 : (t1.heap.push o).objs.size = t1.heap.objs.size + 1 := Heap.size_push ..
  refine ⟨lim, ?_⟩
  have go : ∀ (code : Value) (h3 : Heap) (tk : Nat) (qs : Array Value), Heap.ExtBut P (t1.heap.push o) h3 → (t1.heap.push o).objs.size ≤ h3.objs.size → h3.get? P = some { cls := .none, data := .fields qs } →
      (∃ more, qs = ps ++ more) → TriplesOk qs.toList →
      wpAny (model X.prog X.w) X.A (builtinsFor X.env.globals X.env.builtins) (fun bi s4 =>
        ∃ Ia fp wr n0 Pf St0 pz F, Value.ref t1.heap.objs.size = .ref Ia ∧ (∀ A' : Around, A'.handled = none → Walks X.prog X.w A' Ia fp wr n0 Pf St0) ∧ St0 0 s4.heap ∧ (∀ b ∈ fp, b < s4.heap.objs.size) ∧ s4.heap.NoLimit ∧ cStatics ∉ wr ∧
          (∀ href : Heap, (∀ b o, s4.heap.get? b = some o → href.get? b = some o) →
            QuietGen X.prog X.w (genEnv scope (cloFrom X.env.cells scope.names []) s4.heap.objs.size code bi X.env) x [] elt (List.range s4.heap.objs.size) wr Pf pz F href) ∧
          (∀ g h5 tk5 gs, gs.bare = true → s4.heap.objs.size < g → h5.objs.size = g + 1 → (∀ b o, s4.heap.get? b = some o → h5.get? b = some o) →
            WalksS X.prog X.w X.A.in4 g (g :: s4.heap.objs.size :: List.range s4.heap.objs.size) (s4.heap.objs.size :: wr) (GenOnlyQ s4.gens.size) (passing pz n0 0).length
              (fun j y => ∃ i, (passing pz n0 0)[j]? = some i ∧ F i y) (GenAt X.prog X.w X.A.in4 g s4.gens.size s4.heap.objs.size (List.range s4.heap.objs.size) wr pz n0 F) →
            GenAt X.prog X.w X.A.in4 g s4.gens.size s4.heap.objs.size (List.range s4.heap.objs.size) wr pz n0 F 0 { s4 with gens := s4.gens.push gs, toks := tk5, heap := h5 } →
            Q' (.ref g) { s4 with gens := s4.gens.push gs, toks := tk5, heap := h5 })) X.xe { t1 with heap := h3, toks := tk } := by
    intro code h3 tk qs hx hsz hP3 hmore htq
    obtain ⟨bm, ob, e1, e2, e3, e4, e5, e6, e7, e8⟩ := TB.bm
    have ncP : cStatics ≠ P := fun e => by
      obtain ⟨_, hns, _⟩ := J.nolimit
      obtain ⟨o', es, ep, ho, hd, _⟩ := hns
      rw [e, hPs] at ho
      cases ho; cases hd
    have nbP : (builtinsNs : Addr) ≠ P := fun e => by
      obtain ⟨mb, hns, _⟩ := J.mod.blt
      obtain ⟨o', es, ep, ho, hd, _⟩ := hns
      have ho := J.bk _ _ ho
      rw [e, hPs] at ho
      cases ho; cases hd
    have k3 : ∀ b u, b ≠ P → t1.heap.get? b = some u → h3.get? b = some u := fun b u hb e => hx b u hb (up b u e)
    refine wpAny_builtinsFor (m := X.mg) (by rw [J.ok.glob]; exact ((J.mod.glob.keeps J.bk).push o).extBut hx TB.gP) e1 e2 (k3 _ _ e4 (J.bk _ _ e5)) e6 e7 e8 ?_
    refine ⟨t1.heap.objs.size, [t1.heap.objs.size], [t1.heap.objs.size], a.cps.size, SignAt a, St, (fun _ => true), (fun i y => ∃ cc, a.cps[i]? = some cc ∧ y = .bool (pb cc)), rfl, W, ?_, ?_, lim.extBut hx ncP, ?_, ?_, ?_⟩
    · refine (W X.A hr.hd).frame _ _ _ hst fun b hb u e => hx b u (fun z => ?_) e
      rcases List.mem_cons.mp hb with y | y
      · exact Nat.ne_of_lt hPlt (z.symm.trans y)
      · cases y
    · intro b hb
      rcases List.mem_cons.mp hb with z | z
      · rw [z]
        show t1.heap.objs.size < h3.objs.size
        omega
      · cases z
    · intro z
      rcases List.mem_cons.mp z with z | z
      · exact Nat.ne_of_lt hclt z
      · cases z
    · intro href hh
      refine ⟨fun A' E' i v s2 m2 hA hv hn hm hk => ?_, fun A' E' i v s2 m2 hA hv hp hn hm hk => ?_⟩
      · simp only [List.forIn_nil]
        exact wpAny_pure ⟨rfl, GxR.keeps_refl _⟩
      · obtain ⟨cc, u, hcc, rfl⟩ := hv
        have old : ∀ L, L ≠ P → ∀ q, X.base.get? L = some q → s2.heap.get? L = some q := fun L nL q e => by
          have e1 := J.bk _ _ e
          have l1 := Heap.lt_size e1
          have e2 := k3 L q nL e1
          refine hk L (List.mem_range.mpr (Heap.lt_size e2)) (fun z => ?_) q (hh L q e2)
          rcases List.mem_cons.mp z with z | z
          · rw [z] at l1; exact Nat.lt_irrefl _ l1
          · cases z
        have nm : Names2 s2.heap X.mg := ⟨J.mod.glob.at (old mainGlobals TB.gP), let ⟨mb, q1, q2⟩ := J.mod.blt; ⟨mb, q1.at (old builtinsNs nbP), q2⟩⟩
        exact wpAny_mono (hel (genEnv scope (cloFrom X.env.cells scope.names []) h3.objs.size code builtinsNs X.env) A' E' cc u s2 m2 rfl J.ok.glob rfl nm hn hm) (fun y s3 r => ⟨⟨cc, hcc, r.1⟩, r.2⟩) fun _ _ e => e
    · intro g h5 tk5 gs hgb hag hsz5 hk5 W5 hat
      simp only [GxR.passing_true, List.length_range] at W5
      refine hQ a H1 g _ hR ⟨_, _, _, _, _, W5.in4_1, hat, ?_, fun s' hm => ?_⟩
      · intro j y sj Qj Ej hy hQj
        obtain ⟨i, hij, cc, hcc, rfl⟩ := hy
        obtain ⟨hj, ej⟩ := List.getElem?_eq_some_iff.mp hij
        rw [List.getElem_range] at ej
        subst ej
        have e9 : a.cps.toList[j]? = some cc := by rw [Array.getElem?_toList]; exact hcc
        have hQ2 : Qj (trF pb a.cps.toList j) sj := hQj
        rw [trF_some e9] at hQ2
        exact wpAny_truthy_bool hQ2
      · obtain ⟨more, em⟩ := hmore
        have nwr : ∀ b u, t1.heap.get? b = some u → b ∉ h3.objs.size :: [t1.heap.objs.size] := fun b u e hb => by
          have hl : b < t1.heap.objs.size := Heap.lt_size e
          rcases List.mem_cons.mp hb with z | z
          · rw [z] at hl
            exact absurd hl (Nat.not_lt.mpr (show t1.heap.objs.size ≤ h3.objs.size by omega))
          · rcases List.mem_cons.mp z with z | z
            · rw [z] at hl
              exact Nat.lt_irrefl _ hl
            · cases z
        have J2 := inv_tab (more := more) (h' := s'.heap) (g' := s'.gens) (d' := s'.drawn) (t' := s'.toks) J hP (fun b u hb e => hm.heap b u (nwr b u e) (hk5 b u (k3 b u hb e)))
          (by rw [← em]; exact hm.heap P _ (nwr P _ hPs) (hk5 P _ hP3)) (AllBare.movedS (J.bare.push hgb) hm)
        rw [sh_eta t1 s' hm.os] at J2
        refine ⟨upd H1 P (.tbl (ps ++ more)), ⟨⟨ps ++ more, upd_same, by rw [← em]; exact htq⟩, fun b hb => upd_ne hb⟩, J2⟩
  cases hf : codeAmong gpos ps.toList with
  | none =>
    refine wpAny_genexprCodeX hcode (cd.code (up _ _ hPs) htr) (cd.tab (up _ _ hPs)) hf fun c' h' tk hx hge hlt hco' _ htab' _ => ?_
    obtain ⟨o1, vs, f1, tf, fl, tg, inF, tx, tt, op, _, _, _, _, _, _, _, _, _, hz, _⟩ := hco'
    exact go _ h' tk _ hx (Nat.le_trans hge (Nat.le_of_lt hlt)) htab'.2 ⟨_, rfl⟩ hz
  | some cv =>
    refine wpAny_genexprCode_hit hcode (cd.code (up _ _ hPs) htr) hf ?_
    exact go cv (t1.heap.push o) t1.toks ps (Heap.ExtBut.refl _ _) (Nat.le_refl _) (up _ _ hPs) ⟨#[], by simp⟩ htr

theorem pe_allX {c P : Addr} {elt iter : Expr} {x : Str} {px p pos gpos : Pos} {scope : Scope} {pb : Nat → Bool} {te : TE} {k : Nat}
    (hr : Room k X.A) (B : Blt X.mg) (TB : TabB X.base X.mg c P) (hcode : X.env.code = .ref c) (S : GenS X.env scope x) (hi : PE X iter te) (hel : EltX X.prog X.w X.mg scope x elt pb)
    (hs : ∀ v, genFold iter X.env v = pure v) (hg : Gl X "all" := by rfl)
    (he : starEach [.GeneratorExp elt [⟨.Name x px, iter, [], 0⟩] scope gpos] X.env = (false, eval (.GeneratorExp elt [⟨.Name x px, iter, [], 0⟩] scope gpos) X.env) :: starEach [] X.env := by rfl) :
    PE X (.Call (.Name "all" p) [.GeneratorExp elt [⟨.Name x px, iter, [], 0⟩] scope gpos] [] pos) (GxR.tAllS P pb te) := by
  refine ⟨fun pins s σ H Q I h => ?_⟩
  refine wpAny_Call_Name_kw (ld_blt I hg B.all (show bootBuiltins "all" = some (.builtin "all") by decide +kernel) ?_)
  refine PyProof.Rows.callWith_builtin1 ?_ he (by rfl)
  rw [he]
  show wpAny _ _ (spliced ((false, eval (.GeneratorExp elt [⟨.Name x px, iter, [], 0⟩] scope gpos) X.env) :: backTo pos (starEach [] X.env))) _ _ s
  refine Calls.spliced_cons (gen_mk (R := fun a H1 => ∀ H2, Tabbed P H1 H2 → Q (.bl (a.cps.toList.all pb)) H2) hr TB hcode S hi hel hs I h fun a H1 g t5 hR hG => ?_)
  obtain ⟨fp, wr, G, F, St, W, hst, htr, hI⟩ := hG
  refine Calls.spliced_nil (call_all_walkS (W.self 0 _ _ _ hst ⟨g, fp, wr, G, _, F, St, _, rfl, W, hst, htr, fun s' hmv => ?_⟩))
  obtain ⟨H2, hT, J⟩ := hI s' hmv
  refine ⟨.bl _, H2, J, rfl, ?_⟩
  rw [all_signs a pb]
  exact hR H2 hT
end

/-- a sign that the document calls printable -/
def prc (c : Nat) : Bool := decide (32 ≤ c) && decide (c ≤ 126) && !decide (c = 37)
def prn (z : Str) : Bool := z.cps.toList.all prc
theorem prn_app (x y : Str) : prn (x ++ y) = (prn x && prn y) := by
  unfold prn
  rw [show (x ++ y).cps.toList = TL.tl x ++ TL.tl y from TL.tl_append x y, List.all_append]
theorem prn_cut {z : Str} (h : prn z = true) (lo hi : Option Int) : prn (cutS z lo hi) = true := by
  unfold prn at h ⊢
  rw [List.all_eq_true] at h ⊢
  intro c hc
  exact h c (List.mem_of_mem_drop (List.mem_of_mem_take (show c ∈ (z.cps.toList.drop _).take _ from hc)))
theorem prn_no {z : Str} {c : Nat} (h : c ∈ TL.tl z) (hc : prc c = false) : prn z = false := by
  unfold prn
  cases e : z.cps.toList.all prc with
  | false => rfl
  | true => rw [List.all_eq_true] at e; rw [e c h] at hc; cases hc
theorem one_lt {a b : Nat} : ([a] < [b]) ↔ a < b := by
  constructor
  · intro h
    cases h with
    | rel h => exact h
    | cons h => cases h
  · intro h
    exact List.Lex.rel h
theorem elt_prn {prog : Program} {w : World} {mg : Str → Option Value} {scope : Scope} {j1 j2 : Nat} {q1 q2 q3 q4 q5 q6 q7 q8 q9 q10 : Pos} {t37 : Tok} (B : Blt mg) (h37 : mg "_BARRED_CODE" = some (.int 37 t37))
    (hk : scope.kind = .function) (hl : scope.names.lookup ("mark" : Str) = some .local) (h1 : scope.names.lookup ("ord" : Str) = some .globalImplicit) (h2 : scope.names.lookup ("_BARRED_CODE" : Str) = some .globalImplicit) :
    EltX prog w mg scope "mark" (.BoolOp .And [.Compare (.Constant (.str " ") j1 q1) [.LtE, .LtE] [.Name "mark" q2, .Constant (.str "~") j2 q3] q4,
      .Compare (.Call (.Name "ord" q5) [.Name "mark" q6] [] q7) [.NotEq] [.Name "_BARRED_CODE" q8] q9] q10) prc := by
  intro ce A' E' c t s2 m2 hs hg hb nm hn hm
  have ld : ∀ {Q : Value → Shared → Prop} {p : Pos} {s3 : Shared}, (∃ tk, s3 = { s2 with toks := tk }) → Q (.str ⟨#[c]⟩ t) s3 → wpAny (model prog w) A' (eval (.Name "mark" p) ce) Q E' s3 := by
    rintro Q p s3 ⟨tk, rfl⟩ h
    exact wpAny_Name (wpAny_loadName_local (by rw [hs]; exact hk) (show ce.scope.names.lookup ("mark" : Str) = some .local by rw [hs]; exact hl) hn hm h) (by decide)
  have fin : ∀ {b : Bool} {tk : Nat}, b = prc c → (fun y s3 => y = Value.bool (prc c) ∧ Keeps s2 s3) (.bool b) { s2 with toks := tk } := fun e => ⟨by rw [e], keeps_tok _ _⟩
  refine BoolOp_and ?_
  refine Compare_chain (Calls.Constant_str (chain_link (ld ⟨_, rfl⟩ (PySem.P.le_str ?_))))
  have e1 : (!decide ((⟨#[c]⟩ : Str).cps.toList < (Str.ofString " ").cps.toList)) = decide (32 ≤ c) := by
    show (!decide ([c] < [32])) = _
    rw [decide_eq_decide.mpr (one_lt (a := c) (b := 32))]
    by_cases h : c < 32
    · rw [decide_eq_true h, decide_eq_false (by omega)]; rfl
    · rw [decide_eq_false h, decide_eq_true (by omega)]; rfl
  rw [e1]
  refine wpAny_truthy_bool ?_
  by_cases c1 : 32 ≤ c
  · rw [decide_eq_true c1]
    refine ite_tt (chain_last (Calls.Constant_str (PySem.P.le_str ?_)))
    have e2 : (!decide ((Str.ofString "~").cps.toList < (⟨#[c]⟩ : Str).cps.toList)) = decide (c ≤ 126) := by
      show (!decide ([126] < [c])) = _
      rw [decide_eq_decide.mpr (one_lt (a := 126) (b := c))]
      by_cases h : c ≤ 126
      · rw [decide_eq_true h, decide_eq_false (by omega)]; rfl
      · rw [decide_eq_false h, decide_eq_true (by omega)]; rfl
    rw [e2]
    refine wpAny_truthy_bool ?_
    by_cases c2 : c ≤ 126
    · rw [decide_eq_true c2]
      refine ite_tt (BoolOp_one (wpAny_Compare1 ?_))
      obtain ⟨mb, n1, n2⟩ := nm.blt
      refine wpAny_Call_Name_kw (Calls.Name_function_global (by rw [hs]; exact hk) (show ce.scope.names.lookup ("ord" : Str) = some .globalImplicit by rw [hs]; exact h1) (Calls.loadGlobal_builtin (by rw [hg]; exact nm.glob) B.ord (by rw [hb]; exact n1) ((n2 "ord" (by decide)).trans (show bootBuiltins "ord" = some (.builtin "ord") by decide +kernel)) ?_) (by decide))
      refine PyProof.Rows.callWith_builtin1 ?_ (by rfl) (by rfl)
      refine Calls.spliced_cons (ld ⟨_, rfl⟩ (Calls.spliced_nil (PyProof.Rows.ord_of_one rfl ?_)))
      refine Calls.Name_function_global (by rw [hs]; exact hk) (show ce.scope.names.lookup ("_BARRED_CODE" : Str) = some .globalImplicit by rw [hs]; exact h2) (Calls.loadGlobal_global (by rw [hg]; exact nm.glob) h37 ?_) (by decide)
      refine ne_int (fin ?_)
      show (((c : Int)) != 37) = (decide (32 ≤ c) && decide (c ≤ 126) && !decide (c = 37))
      rw [decide_eq_true c1, decide_eq_true c2]
      by_cases c3 : c = 37
      · subst c3; rfl
      · rw [decide_eq_false c3]
        have : ((c : Int) != 37) = true := bne_iff_ne.mpr (by omega)
        rw [this]; rfl
    · rw [decide_eq_false c2]
      refine ite_ff (fin ?_)
      simp [prc, c2]
  · rw [decide_eq_false c1]
    refine ite_ff (wpAny_truthy_bool (ite_ff (fin ?_)))
    simp [prc, c1]
end SC

/-! the end of a law's row whose text holds generator expressions: the tables out of the top -/
namespace SC
open PySem PySem.Spec PyProof.Rows L2 LamX
theorem walk_tab {l : PySem.W.OpenLaw} {n k : Nat} {q : Program} {loose : List Str} {XP : (Str → Option Value) → Heap → Prop} {YP : World → Heap → Prop} {d : DefRec} {K : Params → PySem.W.Frag} {CX : World → CXT} {x : Str}
    (hn : l.most = some n) (hn2 : n ≤ sizeLine) (hdf : d.params.defaults = []) (hr : Room k callerA) (hY : ∀ (w : World) (h : Heap), YP w h → (K w.params).In h)
    (hCX : ∀ (w : World) (H : Hp) (s : Shared) (e : Value) (s' : Shared), CX w [] H s (fun _ _ _ => False) e s' → False)
    (F : ∀ (w : World) (mg mb : Str → Option Value) (lo : List Str) (mean : ExcName → Option Value) (fa : Addr) (h : Heap), Top q lo mean mg mb h → (K w.params).In h → h.Ns mainGlobals mg → mg d.name = some (.ref fa) → LawAtS l w (K w.params) (CX w) k n x mg fa h) :
    PySem.W.WalkO q loose XP YP l.row.toRowW d [] (fun f vs => PySem.call f vs) := by
  refine Att.attach_callB hn hdf fun w s0 s1 mg mb fa o pm cd doc a vs ns G Y ho hd hcd hmg hobj hints hlen hbits hg => ?_
  have KX := hY w _ Y
  obtain ⟨fd, cs, sp, hT, nT, C, hb, hsp, hF⟩ := F w mg mb _ _ fa _ G.T KX G.T.g hmg
  exact law_callTs KX G.T.g G.T.b G.T.builtins G.T.nolimit hg hT nT C G.T.bmain hobj hints (Nat.le_trans hlen hn2) hr hF hb (fun H hH hS => hsp H a ns hlen hbits hH hS) fun H e s' => hCX w H s1 e s'
theorem tab_mk {q : Program} {lo : List Str} {mean : ExcName → Option Value} {mg mb : Str → Option Value} {h : Heap} {K : PySem.W.Frag} {d : DefRec} {x : Str} {f c P : Addr} {fd : FuncData} {oc cc : Value} {od dc : Option Addr} {sl sc : Array (Option Value)} {vs : Array Value}
    (T : Top q lo mean mg mb h) (X : K.In h) (hr : (recsOf q).find? (fun e => e.name == x) = some d) (a : PySem.W.nsIn K mainGlobals x = some (some (.ref f))) (l : K.lookup f = some ⟨oc, od, .func fd, sl⟩) (hc : fd.code = .ref c)
    (lc : K.lookup c = some ⟨cc, dc, .fields vs, sc⟩) (hv : vs[11]? = some (.ref P)) : PySem.W.CodeHd h c P ∧ h.get? P = some (PySem.W.tabObj #[]) := by
  refine PySem.W.tab_of T X hr ?_
  unfold PySem.W.tabIn
  rw [a]
  simp only [l, hc, lc, hv]
/-- a law's state: the table may have grown, the stream stands, all else that was there is as it was -/
structure LS (Pt st : Addr) (H0 H : Hp) : Prop where
  k : Kp [Pt] H0 H
  g : GxR.TabG H Pt
  s : Strm H st
  g0 : GxR.TabG H0 Pt
  fr : H0 st = none
section
variable {Pt st p : Addr} {H0 H H' : Hp} {K : PySem.W.Frag}
theorem LS.ne (L : LS Pt st H0 H) : st ≠ Pt := L.s.nT L.g
theorem LS.first (g0 : GxR.TabG H0 Pt) (h : H0 st = none) {a b : Int} : LS Pt st H0 (upd H0 st (.lst [.int a, .int b])) :=
  ⟨Kp.new h _, tabG_kp g0 (Kp.new h _ : Kp [] _ _) (by simp), Strm.mk, g0, h⟩
theorem LS.take (L : LS Pt st H0 H) (k : Kp [st] H H') (s : Strm H' st) : LS Pt st H0 H' :=
  ⟨Kp.drop L.fr ((L.k.mono fun b hb => List.mem_cons_of_mem _ hb).trans (k.mono fun b hb => by rw [List.mem_singleton.mp hb]; exact List.mem_cons_self)), tabG_kp L.g k (by simpa using L.ne.symm), s, L.g0, L.fr⟩
theorem LS.prn (L : LS Pt st H0 H) (k : Kp [Pt] H H') (g : GxR.TabG H' Pt) : LS Pt st H0 H' := ⟨L.k.trans k, g, L.s.kp k (by simpa using L.ne), L.g0, L.fr⟩
theorem LS.new (L : LS Pt st H0 H) (h : H p = none) (o : HO) : LS Pt st H0 (upd H p o) :=
  ⟨L.k.trans (Kp.new h o), tabG_kp L.g (Kp.new h o : Kp [] _ _) (by simp), L.s.kp (Kp.new h o : Kp [] _ _) (by simp), L.g0, L.fr⟩
theorem LS.kp0 (L : LS Pt st H0 H) (k : Kp [] H H') : LS Pt st H0 H' := ⟨L.k.trans (k.mono fun b hb => absurd hb (by simp)), tabG_kp L.g k (by simp), L.s.kp k (by simp), L.g0, L.fr⟩
theorem seq_tab {a : Addr} {xs : List V} (k : Kp [Pt] H0 H) (g0 : GxR.TabG H0 Pt) (h : SqL K H0 a xs) : SqL K H a xs := by
  obtain ⟨ps, e, _⟩ := g0
  rcases h with (h | ⟨o, h⟩) | h
  · exact .inl (.inl (k.keep _ _ (by simpa using ne_of h e (by intro z; cases z)) h))
  · exact .inl (.inr ⟨o, k.keep _ _ (by simpa using ne_of h e (by intro z; cases z)) h⟩)
  · exact .inr h
theorem LS.seq {a : Addr} {xs : List V} (L : LS Pt st H0 H) (h : SqL K H0 a xs) : SqL K H a xs := seq_tab L.k L.g0 h
theorem Kp.get1 {b : Addr} {o : HO} (k : Kp [Pt] H H') (g : GxR.TabG H Pt) (h : H b = some o) (no : ∀ ps, o ≠ .tbl ps := by intro ps z; cases z) : H' b = some o := by
  obtain ⟨ps, e, _⟩ := g
  exact k.keep b o (by simpa using ne_of h e (no ps)) h
theorem tyN_kp {v : V} {t : String} (k : Kp [Pt] H H') (g : GxR.TabG H Pt) (h : tyN H v = some t) : tyN H' v = some t := by
  cases v with
  | ref p =>
    unfold tyN at h
    simp only at h
    split at h
    · rename_i xs q; cases h; exact tyN_lst (k.get1 g q)
    · rename_i xs q; cases h; exact tyN_tup (k.get1 g q)
    · rename_i xs q; cases h; exact tyN_dK (k.get1 g q)
    · cases h
  | _ => exact h
end
end SC

/-! canonical texts: the values as trees, what encode writes, what decode reads: plain Lean -/
namespace SC
open PySem L2
/-- a value as a tree; oth: what is neither an int nor a text nor a tuple -/
inductive Tr where
  | int (n : Int) | str (z : Str) | tup (ts : List Tr) | oth (v : V)
mutual
inductive Rep (H : Hp) : V → Tr → Prop
  | int (i : Int) : Rep H (.int i) (.int i)
  | str (z : Str) : Rep H (.str z) (.str z)
  | tup {a : Addr} {xs : List V} {ts : List Tr} : H a = some (.tup xs) → RepAll H xs ts → Rep H (.ref a) (.tup ts)
  | oth {v : V} {t : String} : tyN H v = some t → t ≠ "int" → t ≠ "str" → t ≠ "tuple" → Rep H v (.oth v)
inductive RepAll (H : Hp) : List V → List Tr → Prop
  | nil : RepAll H [] []
  | cons {v : V} {vs : List V} {t : Tr} {ts : List Tr} : Rep H v t → RepAll H vs ts → RepAll H (v :: vs) (t :: ts)
end
theorem Rep.ty {H : Hp} {v : V} {t : Tr} (h : Rep H v t) : ∃ s, tyN H v = some s := by
  cases h with
  | int => exact ⟨_, rfl⟩
  | str => exact ⟨_, rfl⟩
  | tup e _ => exact ⟨_, tyN_tup e⟩
  | oth e _ _ _ => exact ⟨_, e⟩
theorem RepAll.len {H : Hp} : ∀ {xs : List V} {ts : List Tr}, RepAll H xs ts → xs.length = ts.length
  | _, _, .nil => rfl
  | _, _, .cons _ h => congrArg (· + 1) h.len
theorem RepAll.app {H : Hp} : ∀ {xs ys : List V} {ts us : List Tr}, RepAll H xs ts → RepAll H ys us → RepAll H (xs ++ ys) (ts ++ us)
  | _, _, _, _, .nil, h => h
  | _, _, _, _, .cons a b, h => .cons a (b.app h)
theorem RepAll.get {H : Hp} : ∀ {xs : List V} {ts : List Tr} {i : Nat} {x : V}, RepAll H xs ts → xs[i]? = some x → ∃ t, ts[i]? = some t ∧ Rep H x t
  | _, _, _, _, .nil, h => by simp at h
  | _, _, 0, _, .cons a _, h => by
    have e := Option.some.inj h
    subst e
    exact ⟨_, rfl, a⟩
  | _, _, i + 1, _, .cons _ b, h => b.get (i := i) h
mutual
theorem Rep.kp {Pt : Addr} {H H' : Hp} (k : Kp [Pt] H H') (g : GxR.TabG H Pt) : ∀ {v : V} {t : Tr}, Rep H v t → Rep H' v t
  | _, _, .int i => .int i
  | _, _, .str z => .str z
  | _, _, .tup e h => .tup (k.tup _ _ e) (h.kp k g)
  | v, _, .oth e a b c => .oth (tyN_kp k g e) a b c
theorem RepAll.kp {Pt : Addr} {H H' : Hp} (k : Kp [Pt] H H') (g : GxR.TabG H Pt) : ∀ {vs : List V} {ts : List Tr}, RepAll H vs ts → RepAll H' vs ts
  | _, _, .nil => .nil
  | _, _, .cons a b => .cons (a.kp k g) (b.kp k g)
end
/-- the digits of a number -/
abbrev dig (n : Nat) : List Nat := TL.numL n
mutual
/-- the canonical text, its codes -/
def txt : Tr → List Nat
  | .int n => dig n.toNat ++ [46]
  | .str z => dig z.length ++ 58 :: TL.tl z
  | .tup ts => 91 :: (txts ts ++ [93])
  | .oth _ => []
def txts : List Tr → List Nat
  | [] => []
  | t :: ts => txt t ++ txts ts
end
mutual
/-- plain, tuples nested at most n deep -/
def pl (n : Nat) : Tr → Bool
  | .int i => decide (0 ≤ i) && decide (i ≤ 99999999999999999999)
  | .str z => prn z
  | .tup ts => match n with
    | 0 => false
    | m + 1 => pls m ts
  | .oth _ => false
def pls (n : Nat) : List Tr → Bool
  | [] => true
  | t :: ts => pl n t && pls n ts
end
mutual
/-- no tuple's text within is too long -/
def fit : Tr → Bool
  | .tup ts => fits ts && decide ((txts ts).length + 2 ≤ 100000)
  | _ => true
def fits : List Tr → Bool
  | [] => true
  | t :: ts => fit t && fits ts
end
mutual
/-- texts of a size that Python's may have -/
def sml : Tr → Bool
  | .str z => decide (z.length ≤ 10000000)
  | .tup ts => smls ts && decide (ts.length ≤ 1000000)
  | _ => true
def smls : List Tr → Bool
  | [] => true
  | t :: ts => sml t && smls ts
end
theorem txts_app : ∀ (ts us : List Tr), txts (ts ++ us) = txts ts ++ txts us
  | [], _ => rfl
  | t :: ts, us => by
    show txt t ++ txts (ts ++ us) = (txt t ++ txts ts) ++ txts us
    rw [txts_app ts us, List.append_assoc]
theorem pls_app (n : Nat) : ∀ (ts us : List Tr), pls n (ts ++ us) = (pls n ts && pls n us)
  | [], us => by simp [pls]
  | t :: ts, us => by
    show (pl n t && pls n (ts ++ us)) = ((pl n t && pls n ts) && pls n us)
    rw [pls_app n ts us, Bool.and_assoc]
theorem fits_app : ∀ (ts us : List Tr), fits (ts ++ us) = (fits ts && fits us)
  | [], us => by simp [fits]
  | t :: ts, us => by
    show (fit t && fits (ts ++ us)) = ((fit t && fits ts) && fits us)
    rw [fits_app ts us, Bool.and_assoc]
theorem smls_app : ∀ (ts us : List Tr), smls (ts ++ us) = (smls ts && smls us)
  | [], us => by simp [smls]
  | t :: ts, us => by
    show (sml t && smls (ts ++ us)) = ((sml t && smls ts) && smls us)
    rw [smls_app ts us, Bool.and_assoc]
theorem mem_len : ∀ {t : Tr} {ts : List Tr}, t ∈ ts → (txt t).length ≤ (txts ts).length
  | t, u :: ts, h => by
    show _ ≤ (txt u ++ txts ts).length
    rw [List.length_append]
    rcases List.mem_cons.mp h with rfl | h
    · omega
    · have := mem_len h; omega
mutual
theorem fit_of : ∀ (t : Tr), (txt t).length ≤ 100000 → fit t = true
  | .int _, _ => rfl
  | .str _, _ => rfl
  | .oth _, _ => rfl
  | .tup ts, h => by
    have h : (91 :: (txts ts ++ [93])).length ≤ 100000 := h
    rw [List.length_cons, List.length_append] at h
    have h : (txts ts).length + 1 + 1 ≤ 100000 := h
    show (fits ts && decide ((txts ts).length + 2 ≤ 100000)) = true
    rw [fits_of ts (by omega), decide_eq_true (by omega)]
    rfl
theorem fits_of : ∀ (ts : List Tr), (txts ts).length ≤ 100000 → fits ts = true
  | [], _ => rfl
  | t :: ts, h => by
    have h : (txt t ++ txts ts).length ≤ 100000 := h
    rw [List.length_append] at h
    show (fit t && fits ts) = true
    rw [fit_of t (by omega), fits_of ts (by omega)]
    rfl
end

/-! ### reading -/
def isD (c : Nat) : Bool := decide (48 ≤ c) && decide (c ≤ 57)
def val (l : List Nat) : Nat := NumText.digitsVal l
/-- a number's digits that decode takes -/
def goodD (d : List Nat) : Bool := !d.isEmpty && decide (d.length ≤ 20) && !(d.head? == some 48 && !(d == [48]))
/-- a number or a text at the head of l -/
def leaf (l : List Nat) : Option (Tr × List Nat) :=
  if goodD (l.takeWhile isD) = true then
    match l.dropWhile isD with
    | 46 :: r => some (.int (val (l.takeWhile isD)), r)
    | 58 :: r => if val (l.takeWhile isD) ≤ r.length then some (.str ⟨(r.take (val (l.takeWhile isD))).toArray⟩, r.drop (val (l.takeWhile isD))) else none
    | _ => none
  else none
/-- items up to the closing bracket -/
def items (p : List Nat → Option (Tr × List Nat)) : Nat → List Nat → Option (List Tr × List Nat)
  | 0, _ => none
  | f + 1, l => match l with
    | 93 :: r => some ([], r)
    | l => match p l with
      | none => none
      | some (t, r) => match items p f r with
        | none => none
        | some (ts, r2) => some (t :: ts, r2)
/-- a value at the head of l, tuples nested at most n deep -/
def pval : Nat → List Nat → Option (Tr × List Nat)
  | 0, l => match l with
    | 91 :: _ => none
    | l => leaf l
  | n + 1, l => match l with
    | 91 :: r => match items (pval n) (r.length + 1) r with
      | none => none
      | some (ts, r2) => some (.tup ts, r2)
    | l => leaf l

/-! ### digits -/
theorem isD_iff {c : Nat} : isD c = true ↔ 48 ≤ c ∧ c ≤ 57 := by unfold isD; simp
theorem val_app (l : List Nat) (c : Nat) : val (l ++ [c]) = val l * 10 + (c - 48) := by
  unfold val NumText.digitsVal
  rw [List.foldl_append]
  rfl
theorem dig_isD (n : Nat) : ∀ c ∈ dig n, isD c = true := fun c hc => by
  have := TL.numL_digits n c hc
  exact isD_iff.mpr ⟨by omega, by omega⟩
theorem dig_zero : dig 0 = [48] := TL.numL_lt (by decide)
theorem val_dig (n : Nat) : val (dig n) = n := TL.numL_val n
theorem dig_val : ∀ (k : Nat) (d : List Nat), d.length = k → d ≠ [] → (∀ c ∈ d, isD c = true) → (d.head? ≠ some 48 ∨ d = [48]) → dig (val d) = d
  | 0, d, hk, h, _, _ => absurd (List.length_eq_zero_iff.mp hk) h
  | k + 1, d, hk, h, hd, h0 => by
    obtain ⟨e, c, rfl⟩ : ∃ e c, d = e ++ [c] := ⟨d.dropLast, d.getLast h, (List.dropLast_concat_getLast h).symm⟩
    have hc := isD_iff.mp (hd c (List.mem_append_right _ (List.mem_singleton.mpr rfl)))
    rw [val_app]
    by_cases he : e = []
    · subst he
      show dig (val [] * 10 + (c - 48)) = [c]
      have z : val [] = 0 := rfl
      rw [z, Nat.zero_mul, Nat.zero_add]
      have q := TL.numL_lt (n := c - 48) (by omega)
      rw [show 48 + (c - 48) = c by omega] at q
      exact q
    · have hl : e.length = k := by rw [List.length_append] at hk; simpa using hk
      obtain ⟨a, e', rfl⟩ := List.exists_cons_of_ne_nil he
      have ha : a ≠ 48 := by
        intro z
        subst z
        rcases h0 with q | q
        · exact q rfl
        · have := congrArg List.length q
          simp at this
      have ih := dig_val k (a :: e') hl he (fun c hc => hd c (List.mem_append_left _ hc)) (.inl (by simpa using ha))
      have pos : 1 ≤ val (a :: e') := by
        by_cases q : val (a :: e') = 0
        · rw [q, dig_zero] at ih
          injection ih with z1 _
          exact absurd z1.symm ha
        · omega
      have st := TL.numL_step (n := val (a :: e') * 10 + (c - 48)) (by omega)
      show TL.numL _ = _
      rw [st, show (val (a :: e') * 10 + (c - 48)) / 10 = val (a :: e') by omega, show 48 + (val (a :: e') * 10 + (c - 48)) % 10 = c by omega]
      rw [show TL.numL (val (a :: e')) = a :: e' from ih]
theorem dig_head : ∀ (n : Nat), (dig n).head? = some 48 → dig n = [48] := by
  intro n
  induction n using Nat.strongRecOn with
  | _ n ih =>
    intro h
    by_cases c : n < 10
    · have e := TL.numL_lt c
      have h : (TL.numL n).head? = some 48 := h
      rw [e] at h
      have : 48 + n = 48 := by simpa using h
      have : n = 0 := by omega
      subst this
      exact dig_zero
    · have e := TL.numL_step (n := n) (by omega)
      have h : (TL.numL n).head? = some 48 := h
      rw [e] at h
      have h2 : (dig (n / 10)).head? = some 48 := by
        have ne := TL.numL_ne (n / 10)
        obtain ⟨a, r, q⟩ := List.exists_cons_of_ne_nil ne
        rw [q] at h
        show (TL.numL (n / 10)).head? = _
        rw [q]
        simpa using h
      have z := ih (n / 10) (by omega) h2
      have v := val_dig (n / 10)
      rw [z] at v
      have : n / 10 = 0 := v.symm
      omega
theorem goodD_dig {n : Nat} (h : n < 10 ^ 20) : goodD (dig n) = true := by
  have ne := TL.numL_ne n
  have len : (dig n).length ≤ 20 := TL.numL_len (by decide) h
  unfold goodD
  rw [show (dig n).isEmpty = false by rw [List.isEmpty_eq_false_iff]; exact ne, decide_eq_true len]
  cases e : ((dig n).head? == some 48) with
  | false => rfl
  | true =>
    have := dig_head n (by simpa using e)
    rw [this]
    rfl
theorem take_dig {n c : Nat} (r : List Nat) (hc : isD c = false) : (dig n ++ c :: r).takeWhile isD = dig n ∧ (dig n ++ c :: r).dropWhile isD = c :: r := by
  have key : ∀ (d : List Nat), (∀ x ∈ d, isD x = true) → (d ++ c :: r).takeWhile isD = d ∧ (d ++ c :: r).dropWhile isD = c :: r := by
    intro d
    induction d with
    | nil => intro _; simp [List.takeWhile, List.dropWhile, hc]
    | cons x d ih =>
      intro h
      have hx := h x List.mem_cons_self
      obtain ⟨i1, i2⟩ := ih fun y hy => h y (List.mem_cons_of_mem _ hy)
      simp [List.takeWhile, List.dropWhile, hx, i1, i2]
  exact key _ (dig_isD n)
theorem leaf_int {n : Nat} (h : n < 10 ^ 20) (r : List Nat) : leaf (dig n ++ 46 :: r) = some (.int n, r) := by
  obtain ⟨t1, t2⟩ := take_dig (n := n) (c := 46) r (by decide)
  unfold leaf
  rw [t1, t2, if_pos (goodD_dig h), val_dig]
  rfl
theorem leaf_str {z : Str} (h : z.length < 10 ^ 20) (r : List Nat) : leaf (dig z.length ++ 58 :: (TL.tl z ++ r)) = some (.str z, r) := by
  obtain ⟨t1, t2⟩ := take_dig (n := z.length) (c := 58) (TL.tl z ++ r) (by decide)
  unfold leaf
  have hl : (TL.tl z).length = z.length := (TL.len_tl z).symm
  rw [t1, t2, if_pos (goodD_dig h), val_dig]
  simp only
  rw [if_pos (by rw [List.length_append]; omega), ← hl, List.take_left, List.drop_left, TL.mk_tl]
theorem dig_first (n : Nat) : ∃ a r, dig n = a :: r ∧ 48 ≤ a ∧ a ≤ 57 := by
  obtain ⟨a, r, e⟩ := List.exists_cons_of_ne_nil (TL.numL_ne n)
  have := isD_iff.mp (dig_isD n a (by rw [show dig n = a :: r from e]; exact List.mem_cons_self))
  exact ⟨a, r, e, this.1, this.2⟩
/-- a text's first sign -/
theorem txt_first {n : Nat} : ∀ {t : Tr}, pl n t = true → ∃ a r, txt t = a :: r ∧ (a = 91 ∨ (48 ≤ a ∧ a ≤ 57))
  | .int i, _ => by
    obtain ⟨a, r, e, h1, h2⟩ := dig_first i.toNat
    exact ⟨a, r ++ [46], by show dig i.toNat ++ [46] = _; rw [e]; rfl, .inr ⟨h1, h2⟩⟩
  | .str z, _ => by
    obtain ⟨a, r, e, h1, h2⟩ := dig_first z.length
    exact ⟨a, r ++ 58 :: TL.tl z, by show dig z.length ++ 58 :: TL.tl z = _; rw [e]; rfl, .inr ⟨h1, h2⟩⟩
  | .tup ts, _ => ⟨91, _, rfl, .inl rfl⟩
  | .oth _, h => by cases h
theorem pval_leaf {n : Nat} {l : List Nat} (h : ∀ r, l ≠ 91 :: r) : pval n l = leaf l := by
  cases n with
  | zero =>
    unfold pval
    split
    · rename_i r; exact absurd rfl (h r)
    · rfl
  | succ n =>
    unfold pval
    split
    · rename_i r; exact absurd rfl (h r)
    · rfl
theorem sml_str {z : Str} (h : sml (.str z) = true) : z.length < 10 ^ 20 := by
  have : z.length ≤ 10000000 := of_decide_eq_true h
  omega
mutual
/-- what encode wrote is read back -/
theorem pval_txt : ∀ (n : Nat) (t : Tr) (r : List Nat), pl n t = true → sml t = true → pval n (txt t ++ r) = some (t, r)
  | n, .int i, r, h, _ => by
    have h : (decide (0 ≤ i) && decide (i ≤ 99999999999999999999)) = true := h
    rw [Bool.and_eq_true, decide_eq_true_eq, decide_eq_true_eq] at h
    obtain ⟨a, q, e, h1, h2⟩ := dig_first i.toNat
    have e2 : txt (.int i) ++ r = dig i.toNat ++ 46 :: r := by show (dig i.toNat ++ [46]) ++ r = _; rw [List.append_assoc]; rfl
    rw [e2, pval_leaf (fun r' z => by rw [e] at z; injection z with z _; omega), leaf_int (by omega)]
    rw [show ((i.toNat : Nat) : Int) = i by omega]
  | n, .str z, r, _, hs => by
    obtain ⟨a, q, e, h1, h2⟩ := dig_first z.length
    have e2 : txt (.str z) ++ r = dig z.length ++ 58 :: (TL.tl z ++ r) := by show (dig z.length ++ 58 :: TL.tl z) ++ r = _; rw [List.append_assoc]; rfl
    rw [e2, pval_leaf (fun r' z => by rw [e] at z; injection z with z _; omega), leaf_str (sml_str hs)]
  | 0, .tup ts, _, h, _ => by cases h
  | n + 1, .tup ts, r, h, hs => by
    have h : pls n ts = true := h
    have hs : (smls ts && decide (ts.length ≤ 1000000)) = true := hs
    rw [Bool.and_eq_true] at hs
    have e2 : txt (.tup ts) ++ r = 91 :: (txts ts ++ 93 :: r) := by show 91 :: ((txts ts ++ [93]) ++ r) = _; rw [List.append_assoc]; rfl
    rw [e2]
    unfold pval
    simp only
    rw [items_txts n ts r ((txts ts ++ 93 :: r).length + 1) h hs.1 (by omega)]
  | _, .oth _, _, h, _ => by cases h
theorem items_txts : ∀ (n : Nat) (ts : List Tr) (r : List Nat) (f : Nat), pls n ts = true → smls ts = true → (txts ts ++ 93 :: r).length < f → items (pval n) f (txts ts ++ 93 :: r) = some (ts, r)
  | n, [], r, f, _, _, hf => by
    cases f with
    | zero => omega
    | succ f => rfl
  | n, t :: ts, r, f, h, hs, hf => by
    have h : (pl n t && pls n ts) = true := h
    have hs : (sml t && smls ts) = true := hs
    rw [Bool.and_eq_true] at h hs
    obtain ⟨a, q, e, ha⟩ := txt_first h.1
    have e2 : txts (t :: ts) ++ 93 :: r = txt t ++ (txts ts ++ 93 :: r) := by show (txt t ++ txts ts) ++ _ = _; rw [List.append_assoc]
    rw [e2] at hf ⊢
    rw [List.length_append, e, List.length_cons] at hf
    cases f with
    | zero => omega
    | succ f =>
      have p1 := pval_txt n t (txts ts ++ 93 :: r) h.1 hs.1
      have p2 := items_txts n ts r f h.2 hs.2 (by omega)
      unfold items
      rw [e] at p1 ⊢
      have ne : a ≠ 93 := by omega
      show (match a :: (q ++ (txts ts ++ 93 :: r)) with
        | 93 :: r => some ([], r)
        | l => match pval n l with
          | none => none
          | some (t, r) => match items (pval n) f r with
            | none => none
            | some (ts, r2) => some (t :: ts, r2)) = _
      split
      · rename_i z; injection z with z _; exact absurd z ne
      · have p1 : pval n (a :: (q ++ (txts ts ++ 93 :: r))) = some (t, txts ts ++ 93 :: r) := p1
        rw [p1]
        simp only
        rw [p2]
end

theorem val_lt : ∀ (d : List Nat), (∀ c ∈ d, isD c = true) → val d < 10 ^ d.length := by
  have key : ∀ (k : Nat) (d : List Nat), d.length = k → (∀ c ∈ d, isD c = true) → val d < 10 ^ k := by
    intro k
    induction k with
    | zero => intro d h _; rw [List.length_eq_zero_iff.mp h]; decide
    | succ k ih =>
      intro d h hd
      have ne : d ≠ [] := fun z => by rw [z] at h; cases h
      have e := (List.dropLast_concat_getLast ne).symm
      generalize d.dropLast = a at e
      generalize d.getLast ne = c at e
      subst e
      have hc := isD_iff.mp (hd c (List.mem_append_right _ (List.mem_singleton.mpr rfl)))
      have := ih a (by rw [List.length_append] at h; simpa using h) fun c hc => hd c (List.mem_append_left _ hc)
      rw [val_app, Nat.pow_succ]
      omega
  exact fun d h => key _ d rfl h
theorem goodD_iff {d : List Nat} (h : goodD d = true) : d ≠ [] ∧ d.length ≤ 20 ∧ (d.head? ≠ some 48 ∨ d = [48]) := by
  unfold goodD at h
  rw [Bool.and_eq_true, Bool.and_eq_true, decide_eq_true_eq] at h
  obtain ⟨⟨h1, h2⟩, h3⟩ := h
  refine ⟨fun z => (by rw [z] at h1; cases h1), h2, ?_⟩
  by_cases e : d = [48]
  · exact .inr e
  · left
    intro z
    rw [z] at h3
    have : (d == [48]) = false := by simpa using e
    rw [this] at h3
    cases h3
theorem takeD (l : List Nat) : ∀ c ∈ l.takeWhile isD, isD c = true := by
  induction l with
  | nil => intro c h; cases h
  | cons a l ih =>
    intro c h
    rw [List.takeWhile_cons] at h
    split at h
    · rename_i ha
      rcases List.mem_cons.mp h with rfl | h
      · exact ha
      · exact ih c h
    · cases h
/-- what leaf read, written -/
theorem leaf_back {n : Nat} {l r : List Nat} {t : Tr} (h : leaf l = some (t, r)) : l = txt t ++ r ∧ ((∀ c ∈ l, prc c = true) → pl n t = true) := by
  unfold leaf at h
  by_cases g : goodD (l.takeWhile isD) = true
  · rw [if_pos g] at h
    obtain ⟨g1, g2, g3⟩ := goodD_iff g
    have ad := takeD l
    have dv := dig_val _ _ rfl g1 ad g3
    have lt := val_lt _ ad
    have el : l = l.takeWhile isD ++ l.dropWhile isD := List.takeWhile_append_dropWhile.symm
    generalize hv : val (l.takeWhile isD) = v at h dv lt
    split at h
    · rename_i r' e
      cases h
      have lt2 : v < 10 ^ 20 := Nat.lt_of_lt_of_le lt (Nat.pow_le_pow_right (by decide) g2)
      refine ⟨?_, fun _ => ?_⟩
      · show l = (dig (v : Int).toNat ++ [46]) ++ r
        rw [Int.toNat_natCast, dv, List.append_assoc]
        rw [e] at el
        exact el
      · show (decide (0 ≤ (v : Int)) && decide ((v : Int) ≤ 99999999999999999999)) = true
        rw [decide_eq_true (by omega), decide_eq_true (by omega)]
        rfl
    · rename_i r' e
      split at h
      · rename_i hle
        cases h
        have ez : (⟨(r'.take v).toArray⟩ : Str).length = v := by
          show (r'.take v).toArray.size = v
          rw [List.size_toArray, List.length_take]
          omega
        refine ⟨?_, fun hp => ?_⟩
        · show l = (dig (⟨(r'.take v).toArray⟩ : Str).length ++ 58 :: r'.take v) ++ r'.drop v
          rw [ez, dv, List.append_assoc, List.cons_append, List.take_append_drop]
          rw [e] at el
          exact el
        · show prn ⟨(r'.take v).toArray⟩ = true
          unfold prn
          rw [List.all_eq_true]
          intro c hc
          refine hp c ?_
          rw [el, e]
          exact List.mem_append_right _ (List.mem_cons_of_mem _ (List.mem_of_mem_take hc))
      · cases h
    · cases h
  · rw [if_neg g] at h
    cases h
mutual
/-- what decode read is what encode writes -/
theorem pval_back : ∀ (n : Nat) (l r : List Nat) (t : Tr), pval n l = some (t, r) → l = txt t ++ r ∧ ((∀ c ∈ l, prc c = true) → pl n t = true)
  | 0, l, r, t, h => by
    unfold pval at h
    split at h
    · cases h
    · exact leaf_back h
  | n + 1, l, r, t, h => by
    unfold pval at h
    split at h
    · rename_i r'
      cases e : items (pval n) (r'.length + 1) r' with
      | none => rw [e] at h; cases h
      | some x =>
        obtain ⟨ts, r2⟩ := x
        rw [e] at h
        cases h
        obtain ⟨q1, q2⟩ := items_back n (r'.length + 1) r' r ts e
        refine ⟨?_, fun hp => q2 fun c hc => hp c (List.mem_cons_of_mem _ hc)⟩
        show 91 :: r' = 91 :: (txts ts ++ [93]) ++ r
        rw [q1, List.cons_append, List.append_assoc]
        rfl
    · exact leaf_back h
theorem items_back : ∀ (n f : Nat) (l r : List Nat) (ts : List Tr), items (pval n) f l = some (ts, r) → l = txts ts ++ 93 :: r ∧ ((∀ c ∈ l, prc c = true) → pls n ts = true)
  | _, 0, _, _, _, h => by cases h
  | n, f + 1, l, r, ts, h => by
    unfold items at h
    split at h
    · rename_i r'
      cases h
      exact ⟨rfl, fun _ => rfl⟩
    · cases e : pval n l with
      | none => rw [e] at h; cases h
      | some x =>
        obtain ⟨t, r1⟩ := x
        rw [e] at h
        simp only at h
        cases e2 : items (pval n) f r1 with
        | none => rw [e2] at h; cases h
        | some y =>
          obtain ⟨us, r2⟩ := y
          rw [e2] at h
          cases h
          obtain ⟨p1, p2⟩ := pval_back n l r1 t e
          obtain ⟨q1, q2⟩ := items_back n f r1 r us e2
          refine ⟨?_, fun hp => ?_⟩
          · show l = (txt t ++ txts us) ++ 93 :: r
            rw [p1, q1, List.append_assoc]
          · show (pl n t && pls n us) = true
            rw [p2 hp, q2 fun c hc => hp c (by rw [p1]; exact List.mem_append_right _ hc)]
            rfl
end
end SC

/-! own errors of the text -/
namespace SC
open PySem L2
/-- an own error class over ValueError without an __init__ -/
structure Err (K : PySem.W.Frag) (mg : Str → Option Value) (x : Str) (C : Addr) : Prop where
  g : mg x = some (.ref C)
  e : PySem.W.excIn K C [.type "ValueError", .type "Exception", .type "BaseException", .type "object"] "ValueError.__new__" = true
  k : PySem.W.keepIn K (.ref C) = true
  b : PySem.W.subIn K (.ref C) (.type "BaseException") = some true
  t : PySem.W.typeIn K (.ref C) = some (.type "type")
  i : PySem.W.isClsIn K C = true
  s : PySem.W.subIn K (.ref C) (.ref C) = some true
def tErr (C : Addr) (W : WX) : TS := fun _ σ H => W (.ref C) none σ H
theorem Err.raise {X : Cx} {W : WX} {x m : Str} {C : Addr} {j : Nat} {p p2 pos pos2 : Pos} (T : Err X.K X.mg x C) (tk : Takes X W) (hc : X.calm = true := by rfl) (hg : Gl X x := by rfl) (hdb : (x == ("__debug__" : Str)) = false := by decide) :
    PS X (.Raise (some (.Call (.Name x p) [.Constant (.str m) j p2] [] pos)) none pos2) (tErr C W) :=
  ps_raise hc tk (pmk_own PySem.F.excBase_ValueError T.e T.g T.k (raises_own T.b T.t) hg hdb)
theorem Err.em {K : PySem.W.Frag} {mg : Str → Option Value} {x : Str} {C : Addr} (T : Err K mg x C) : PySem.W.exmOne K (.ref C) (.ref C) = some true := by
  have e1 : (PySem.W.subIn K (.ref C) (.type "BaseException") == some true) = true := by rw [T.b]; rfl
  have e2 : ((PySem.W.clsIn K C).isSome && PySem.W.typeIn K (.ref C) == some (.type "type")) = true := by
    rw [show (PySem.W.clsIn K C).isSome = true from T.i, T.t]; rfl
  have e3 : PySem.W.kitCls K (.ref C) (.ref C) = some true := by
    show (if ((PySem.W.clsIn K C).isSome && PySem.W.typeIn K (.ref C) == some (.type "type")) = true then PySem.W.subIn K (.ref C) (.ref C) else none) = some true
    rw [if_pos e2]; exact T.s
  show (if (PySem.W.subIn K (.ref C) (.type "BaseException") == some true) = true then PySem.W.kitCls K (.ref C) (.ref C) else none) = some true
  rw [if_pos e1]; exact e3
/-- what a raising def's callees let out, handed on -/
theorem passX {X : Cx} {E : XK} {W : WX} (tk : Takes X W) (h : ∀ cls d σ H, E cls d H → W cls d σ H) : Passes (L2.CX X.prog X.w) X E := passes_call tk h
/-- a module's constant int -/
theorem pe_cI {X : Cx} {x : Str} {n : Int} {t : Tok} {p : Pos} (h : X.mg x = some (.int n t)) (hg : Gl X x := by rfl) (hd : (x == ("__debug__" : Str)) = false := by decide) : PE X (.Name x p) (tC (.int n)) :=
  pe_glob (v := .int n) hg h ⟨t, rfl⟩ hd
/-- c * n, c one sign -/
theorem op_mulS {X : Cx} : OpR X (binaryOp .Mult) (fun x y H Q => ∃ (c : Nat) (n : Int), x = .str ⟨#[c]⟩ ∧ y = .int n ∧ (0 ≤ n ∧ n ≤ 16000000) ∧ Q (.str ⟨(List.replicate n.toNat c).toArray⟩) H) := by
  intro pins s σ H x y v u Q I rx ry h
  obtain ⟨c, n, rfl, rfl, ⟨n0, n1⟩, q⟩ := h
  obtain ⟨t, rfl⟩ := rx
  obtain ⟨t', rfl⟩ := ry
  have lim : sizeLine = 16777216 := sizeLine_eq
  have fold : ∀ (k : Nat) (a : Array Nat), ((List.replicate k (#[c] : Array Nat)).foldl (· ++ ·) a).toList = a.toList ++ List.replicate k c := by
    intro k
    induction k with
    | zero => intro a; simp
    | succ k ih => intro a; rw [List.replicate_succ, List.foldl_cons, ih, Array.toList_append, List.replicate_succ]; simp
  have e : Txt.mul (⟨#[c]⟩ : Str) n = ⟨(List.replicate n.toNat c).toArray⟩ := by
    unfold Txt.mul
    by_cases h1 : n < 1
    · rw [if_pos h1]
      have : n.toNat = 0 := by omega
      rw [this]; rfl
    · rw [if_neg h1]
      by_cases h2 : n = 1
      · subst h2; rfl
      · have h3 : (n == 1 || (⟨#[c]⟩ : Str).length == 0) = false := by
          have : (n == 1) = false := by simpa using h2
          rw [this]; rfl
        rw [h3, if_neg Bool.false_ne_true]
        refine TL.ext_tl ?_
        show ((List.replicate n.toNat (#[c] : Array Nat)).foldl (· ++ ·) #[]).toList = _
        rw [fold]
        simp [TL.tl]
  refine PySem.SB.mul ⟨?_, fun h1 h2 => ?_, fun h1 h2 => ?_⟩ fun t' k => ?_
  · rw [decide_eq_false (by omega), decide_eq_false (by omega)]; rfl
  · show ¬ ((1 : Int) > (2 ^ 63 - 1) / n)
    have : (1 : Int) ≤ (2 ^ 63 - 1) / n := by
      rw [Int.le_ediv_iff_mul_le (by omega)]
      omega
    omega
  · show PySem.Builtin.Str.tooLong (1 * n.toNat) = false
    rw [Nat.one_mul]
    unfold PySem.Builtin.Str.tooLong
    simp only [decide_eq_false_iff_not]
    omega
  · rw [e]
    exact ⟨.str _, H, I.tok _, ⟨_, rfl⟩, q⟩
theorem dig_len {n : Nat} (h : n < 10 ^ 20) : (dig n).length ≤ 20 := TL.numL_len (by decide) h
theorem txt_size {n : Nat} : ∀ {t : Tr}, pl n t = true → fit t = true → sml t = true → (txt t).length ≤ 10000100
  | .int i, h, _, _ => by
    have h : (decide (0 ≤ i) && decide (i ≤ 99999999999999999999)) = true := h
    rw [Bool.and_eq_true, decide_eq_true_eq, decide_eq_true_eq] at h
    have := dig_len (n := i.toNat) (by omega)
    show (dig i.toNat ++ [46]).length ≤ _
    rw [List.length_append]
    show _ + 1 ≤ _
    omega
  | .str z, _, _, hs => by
    have h : z.length ≤ 10000000 := of_decide_eq_true hs
    have := dig_len (n := z.length) (by omega)
    show (dig z.length ++ 58 :: TL.tl z).length ≤ _
    rw [List.length_append, List.length_cons, ← TL.len_tl]
    omega
  | .tup ts, _, h, _ => by
    have h : (fits ts && decide ((txts ts).length + 2 ≤ 100000)) = true := h
    rw [Bool.and_eq_true, decide_eq_true_eq] at h
    show (91 :: (txts ts ++ [93])).length ≤ _
    rw [List.length_cons, List.length_append]
    show _ + 1 + 1 ≤ _
    omega
  | .oth _, h, _, _ => by cases h
theorem S_len (l : List Nat) : (⟨l.toArray⟩ : Str).length = l.length := by
  show l.toArray.size = _
  rw [List.size_toArray]
/-- str(n) -/
theorem toString_S (n : Nat) : Str.ofString (toString ((n : Nat) : Int)) = ⟨(dig n).toArray⟩ := TL.ext_tl (TL.tl_num n)
theorem app_S (a b : List Nat) : (⟨a.toArray⟩ : Str) ++ (⟨b.toArray⟩ : Str) = ⟨(a ++ b).toArray⟩ := TL.ext_tl (by rw [TL.tl_append])
theorem S_of (z : Str) : z = ⟨(TL.tl z).toArray⟩ := (TL.mk_tl z).symm
theorem log_small {i : Int} (h0 : 0 ≤ i) (h : i ≤ 99999999999999999999) : i.natAbs.log2 < 1920 := by
  by_cases z : i.natAbs = 0
  · rw [z]; decide
  · have := (Nat.log2_lt (k := 70) z).mpr (by omega)
    omega
theorem pls_mem {n : Nat} {t : Tr} : ∀ {ts : List Tr}, pls n ts = true → t ∈ ts → pl n t = true
  | u :: ts, h, m => by
    have h : (pl n u && pls n ts) = true := h
    rw [Bool.and_eq_true] at h
    rcases List.mem_cons.mp m with rfl | m
    · exact h.1
    · exact pls_mem h.2 m
theorem fits_mem {t : Tr} : ∀ {ts : List Tr}, fits ts = true → t ∈ ts → fit t = true
  | u :: ts, h, m => by
    have h : (fit u && fits ts) = true := h
    rw [Bool.and_eq_true] at h
    rcases List.mem_cons.mp m with rfl | m
    · exact h.1
    · exact fits_mem h.2 m
theorem smls_mem {t : Tr} : ∀ {ts : List Tr}, smls ts = true → t ∈ ts → sml t = true
  | u :: ts, h, m => by
    have h : (sml u && smls ts) = true := h
    rw [Bool.and_eq_true] at h
    rcases List.mem_cons.mp m with rfl | m
    · exact h.1
    · exact smls_mem h.2 m
theorem take_one {α : Type} {l : List α} {i : Nat} {x : α} (h : l[i]? = some x) : l.take (i + 1) = l.take i ++ [x] := by
  rw [List.take_add_one, h]; rfl
/-- the texts of items, as Python's texts -/
def tys (ts : List Tr) : List Str := ts.map fun t => (⟨(txt t).toArray⟩ : Str)
theorem tys_app (ts us : List Tr) : tys (ts ++ us) = tys ts ++ tys us := List.map_append
theorem tl_tys : ∀ ts : List Tr, TL.tl (Txt.join (Str.ofString "") (tys ts)) = txts ts := by
  intro ts
  rw [tl_joinE]
  induction ts with
  | nil => rfl
  | cons t ts ih =>
    show txt t ++ ((tys ts).map TL.tl).flatten = txt t ++ txts ts
    rw [ih]
theorem tys_sum : ∀ ts : List Tr, ((tys ts).map (·.length)).sum = (txts ts).length
  | [] => rfl
  | t :: ts => by
    show (⟨(txt t).toArray⟩ : Str).length + ((tys ts).map (·.length)).sum = (txt t ++ txts ts).length
    rw [tys_sum ts, S_len, List.length_append]
theorem take_le : ∀ (ts : List Tr) (i : Nat), (txts (ts.take i)).length ≤ (txts ts).length
  | [], i => by rw [List.take_nil]; exact Nat.le_refl _
  | t :: ts, 0 => Nat.zero_le _
  | t :: ts, i + 1 => by
    show (txt t ++ txts (ts.take i)).length ≤ (txt t ++ txts ts).length
    have := take_le ts i
    rw [List.length_append, List.length_append]
    omega
theorem TabG.ne_lst {Pt p : Addr} {H : Hp} {xs : List V} (g : GxR.TabG H Pt) (h : H p = some (.lst xs)) : p ≠ Pt := by
  obtain ⟨ps, e, _⟩ := g
  exact ne_of h e (by intro z; cases z)
theorem TabG.upd {Pt p : Addr} {H : Hp} {o : HO} (g : GxR.TabG H Pt) (n : p ≠ Pt) : GxR.TabG (upd H p o) Pt := by
  obtain ⟨ps, e, q⟩ := g
  exact ⟨ps, by rw [upd_ne (Ne.symm n)]; exact e, q⟩
end SC

/-! decode: what its readings want -/
namespace SC
open PySem L2
theorem no_oth : ∀ {n : Nat} {l r : List Nat} {v : V}, pval n l ≠ some (.oth v, r) := by
  have lf : ∀ {l r : List Nat} {v : V}, leaf l ≠ some (.oth v, r) := fun {l r v} h => by
    unfold leaf at h
    split at h
    · split at h
      · cases h
      · split at h <;> cases h
      · cases h
    · cases h
  intro n l r v h
  cases n with
  | zero =>
    unfold pval at h
    split at h
    · cases h
    · exact lf h
  | succ n =>
    unfold pval at h
    split at h
    · split at h <;> cases h
    · exact lf h
theorem pval_dec {n : Nat} {l r : List Nat} {t : Tr} (h : pval n l = some (t, r)) : r.length < l.length := by
  have e := (pval_back n l r t h).1
  have pos : 0 < (txt t).length := by
    cases t with
    | int i => show 0 < (dig i.toNat ++ [46]).length; rw [List.length_append]; show 0 < _ + 1; omega
    | str z => show 0 < (dig z.length ++ 58 :: TL.tl z).length; rw [List.length_append, List.length_cons]; omega
    | tup ts => show 0 < (91 :: (txts ts ++ [93])).length; rw [List.length_cons]; omega
    | oth v => exact absurd h no_oth
  rw [e, List.length_append]
  omega
theorem items_fuel {n : Nat} : ∀ (k : Nat) (l : List Nat) (f g : Nat), l.length = k → l.length < f → l.length < g → items (pval n) f l = items (pval n) g l := by
  intro k
  induction k using Nat.strongRecOn with
  | _ k ih =>
    intro l f g hk hf hg
    cases f with
    | zero => omega
    | succ f =>
      cases g with
      | zero => omega
      | succ g =>
        unfold items
        split
        · rfl
        · cases e : pval n l with
          | none => rfl
          | some x =>
            obtain ⟨t, r⟩ := x
            have := pval_dec e
            simp only
            rw [ih r.length (by omega) r f g rfl (by omega) (by omega)]
def itm (n : Nat) (l : List Nat) : Option (List Tr × List Nat) := items (pval n) (l.length + 1) l
theorem itm_close (n : Nat) (r : List Nat) : itm n (93 :: r) = some ([], r) := rfl
theorem itm_step {n : Nat} {l : List Nat} (h : l.head? ≠ some 93) : itm n l = match pval n l with
    | none => none
    | some (t, r) => (itm n r).map fun x => (t :: x.1, x.2) := by
  unfold itm
  cases l with
  | nil =>
    unfold items
    simp only
    cases e : pval n [] with
    | none => rfl
    | some x => obtain ⟨t, r⟩ := x; exact absurd (pval_dec e) (by simp)
  | cons a l =>
    have ha : a ≠ 93 := fun z => h (by rw [z]; rfl)
    rw [show items (pval n) ((a :: l).length + 1) (a :: l) = match pval n (a :: l) with
      | none => none
      | some (t, r) => match items (pval n) (a :: l).length r with
        | none => none
        | some (ts, r2) => some (t :: ts, r2) from by
      conv => lhs; unfold items
      split
      · rename_i z; injection z with z _; exact absurd z ha
      · rfl]
    cases e : pval n (a :: l) with
    | none => rfl
    | some x =>
      obtain ⟨t, r⟩ := x
      have := pval_dec e
      simp only
      rw [items_fuel r.length r (a :: l).length (r.length + 1) rfl (by omega) (by omega)]
      cases items (pval n) (r.length + 1) r with
      | none => rfl
      | some y => rfl
theorem pval_br (n : Nat) (r : List Nat) : pval (n + 1) (91 :: r) = (itm n r).map fun x => (.tup x.1, x.2) := by
  unfold pval itm
  simp only
  cases items (pval n) (r.length + 1) r with
  | none => rfl
  | some x => rfl
/-- a slice of a text by natural bounds -/
theorem cut_nat (z : Str) {a b : Nat} (h : a ≤ b) : TL.tl (cutS z (some (a : Int)) (some (b : Int))) = ((TL.tl z).drop a).take (b - a) := by
  show (z.cps.toList.drop (HT.sIx z.length 0 (some (a : Int)))).take (HT.sIx z.length z.length (some (b : Int)) - HT.sIx z.length 0 (some (a : Int))) = _
  have sx : ∀ (k d : Nat), HT.sIx z.length d (some (k : Int)) = min k z.length := fun k d => by
    show (if (k : Int) < 0 then ((k : Int) + (z.length : Int)).toNat else min (k : Int).toNat z.length) = _
    rw [if_neg (by omega), Int.toNat_natCast]
  rw [sx, sx]
  have el : z.cps.toList.length = z.length := (TL.len_tl z).symm
  by_cases ha : a ≤ z.length
  · rw [Nat.min_eq_left ha]
    by_cases hb : b ≤ z.length
    · rw [Nat.min_eq_left hb]
    · rw [Nat.min_eq_right (by omega), List.take_of_length_le (by rw [List.length_drop]; omega), List.take_of_length_le (by rw [List.length_drop, show (TL.tl z).length = z.length from el]; omega)]
  · rw [Nat.min_eq_right (by omega), Nat.min_eq_right (by omega), Nat.sub_self, List.take_zero]
    rw [List.drop_eq_nil_of_le (by rw [show (TL.tl z).length = z.length from el]; omega), List.take_nil]
theorem cut_one (z : Str) (a : Nat) : TL.tl (cutS z (some (a : Int)) (some ((a : Int) + 1))) = ((TL.tl z).drop a).take 1 := by
  have h := cut_nat z (a := a) (b := a + 1) (Nat.le_succ a)
  rw [show a + 1 - a = 1 by omega] at h
  exact h
/-- a one-sign slice compared with a sign -/
theorem one_sign_eq {x : Str} {d : List Nat} {c : Nat} (h : TL.tl x = d.take 1) : x = ⟨#[c]⟩ ↔ d.head? = some c := by
  constructor
  · intro e
    have e2 : TL.tl x = [c] := by rw [e]
    rw [h] at e2
    cases d with
    | nil => cases e2
    | cons a d => injection e2 with e2 _; rw [e2]; rfl
  · intro e
    cases d with
    | nil => cases e
    | cons a d =>
      have : a = c := Option.some.inj e
      subst this
      exact TL.ext_tl (by rw [h]; rfl)
section
variable {H H' : Hp}
theorem tyN_kp0 {v : V} {t : String} (k : Kp [] H H') (h : tyN H v = some t) : tyN H' v = some t := by
  cases v with
  | ref p =>
    unfold tyN at h
    simp only at h
    split at h
    · rename_i xs q; cases h; exact tyN_lst (k.keep _ _ (by simp) q)
    · rename_i xs q; cases h; exact tyN_tup (k.keep _ _ (by simp) q)
    · rename_i xs q; cases h; exact tyN_dK (k.keep _ _ (by simp) q)
    · cases h
  | _ => exact h
mutual
theorem Rep.kp0 (k : Kp [] H H') : ∀ {v : V} {t : Tr}, Rep H v t → Rep H' v t
  | _, _, .int i => .int i
  | _, _, .str z => .str z
  | _, _, .tup e h => .tup (k.tup _ _ e) (h.kp0 k)
  | _, _, .oth e a b c => .oth (tyN_kp0 k e) a b c
theorem RepAll.kp0 (k : Kp [] H H') : ∀ {vs : List V} {ts : List Tr}, RepAll H vs ts → RepAll H' vs ts
  | _, _, .nil => .nil
  | _, _, .cons a b => .cons (a.kp0 k) (b.kp0 k)
end
end
theorem takeWhile_take (l : List Nat) : l.take (l.takeWhile isD).length = l.takeWhile isD ∧ l.drop (l.takeWhile isD).length = l.dropWhile isD := by
  induction l with
  | nil => exact ⟨rfl, rfl⟩
  | cons a l ih =>
    cases h : isD a with
    | true => simp [List.takeWhile, List.dropWhile, h, ih.1, ih.2]
    | false => simp [List.takeWhile, List.dropWhile, h]
theorem tw_next : ∀ (D : List Nat) (k : Nat), k ≤ (D.takeWhile isD).length → (∃ c r, D.drop k = c :: r ∧ isD c = true ∧ k < (D.takeWhile isD).length) ∨ (k = (D.takeWhile isD).length ∧ (D.drop k = [] ∨ ∃ c r, D.drop k = c :: r ∧ isD c = false))
  | [], k, h => by
    have : k = 0 := Nat.le_zero.mp h
    subst this
    exact .inr ⟨rfl, .inl rfl⟩
  | a :: D, 0, h => by
    cases ha : isD a with
    | true => exact .inl ⟨a, D, rfl, ha, by simp [List.takeWhile, ha]⟩
    | false => exact .inr ⟨by simp [List.takeWhile, ha], .inr ⟨a, D, rfl, ha⟩⟩
  | a :: D, k + 1, h => by
    cases ha : isD a with
    | true =>
      have e : (a :: D).takeWhile isD = a :: D.takeWhile isD := by simp [List.takeWhile, ha]
      rw [e] at h ⊢
      have h : k + 1 ≤ (D.takeWhile isD).length + 1 := h
      rcases tw_next D k (by omega) with ⟨c, r, q1, q2, q3⟩ | ⟨q1, q2⟩
      · exact .inl ⟨c, r, q1, q2, by show k + 1 < _ + 1; omega⟩
      · exact .inr ⟨by show k + 1 = _ + 1; omega, q2⟩
    | false =>
      have e : (a :: D).takeWhile isD = [] := by simp [List.takeWhile, ha]
      rw [e] at h
      exact absurd h (by simp)
theorem lt48 {x : Str} {d : List Nat} (h : TL.tl x = d.take 1) : (x.cps.toList < (Str.ofString "0").cps.toList) ↔ (d = [] ∨ ∃ c r, d = c :: r ∧ c < 48) := by
  have e : (Str.ofString "0").cps.toList = [48] := by decide +kernel
  rw [e, show x.cps.toList = d.take 1 from h]
  cases d with
  | nil => exact ⟨fun _ => .inl rfl, fun _ => List.Lex.nil⟩
  | cons c r =>
    show ([c] < [48]) ↔ _
    rw [one_lt]
    constructor
    · intro q; exact .inr ⟨c, r, rfl, q⟩
    · rintro (q | ⟨c', r', q, q2⟩)
      · cases q
      · injection q with q _; rw [q]; exact q2
theorem lt57 {x : Str} {c : Nat} {r : List Nat} (h : TL.tl x = (c :: r).take 1) : ((Str.ofString "9").cps.toList < x.cps.toList) ↔ 57 < c := by
  have e : (Str.ofString "9").cps.toList = [57] := by decide +kernel
  rw [e, show x.cps.toList = [c] from h]
  exact one_lt
section
variable {H : Hp} {p : Addr} {xs ys : List V}
theorem tyN_updL (h : H p = some (.lst xs)) {v : V} {t : String} (e : tyN H v = some t) : tyN (upd H p (.lst ys)) v = some t := by
  cases v with
  | ref a =>
    by_cases c : a = p
    · subst c
      rw [tyN_lst h] at e
      rw [tyN_lst upd_same]
      exact e
    · unfold tyN at e ⊢
      simp only at e ⊢
      rw [upd_ne c]
      exact e
  | _ => exact e
mutual
theorem Rep.updL (h : H p = some (.lst xs)) : ∀ {v : V} {t : Tr}, Rep H v t → Rep (upd H p (.lst ys)) v t
  | _, _, .int i => .int i
  | _, _, .str z => .str z
  | _, _, .tup e q => .tup (by rw [upd_ne (ne_of e h (by intro z; cases z))]; exact e) (q.updL h)
  | _, _, .oth e a b c => .oth (tyN_updL h e) a b c
theorem RepAll.updL (h : H p = some (.lst xs)) : ∀ {vs : List V} {ts : List Tr}, RepAll H vs ts → RepAll (upd H p (.lst ys)) vs ts
  | _, _, .nil => .nil
  | _, _, .cons a b => .cons (a.updL h) (b.updL h)
end
end
end SC

/-! values that a law draws: their bounds -/
namespace SC
open PySem L2
theorem ok_never {P : Program} {w : World} {K : PySem.W.Frag} {mg : Str → Option Value} {base : Heap} {CX : CXT} {k : Nat} {f : Addr} {fd : FuncData} {ps : List Str} : FnOk P w K mg base CX k f fd ps (fun _ _ _ _ => False) :=
  ⟨fun _ _ _ _ h => h.elim, fun _ _ _ _ _ _ _ _ _ _ _ _ _ h => h.elim⟩
mutual
/-- how many tuples -/
def nT : Tr → Nat
  | .tup ts => 1 + nTs ts
  | _ => 0
def nTs : List Tr → Nat
  | [] => 0
  | t :: ts => nT t + nTs ts
end
mutual
/-- drawn: small leaves, at most three items, at most n deep -/
def gd (n : Nat) : Tr → Bool
  | .int i => decide (0 ≤ i) && decide (i ≤ 99999999999999999999)
  | .str z => decide (z.length ≤ 105) && prn z
  | .tup ts => match n with
    | 0 => false
    | m + 1 => decide (ts.length ≤ 3) && gds m ts
  | .oth _ => false
def gds (n : Nat) : List Tr → Bool
  | [] => true
  | t :: ts => gd n t && gds n ts
end
theorem gds_app (n : Nat) : ∀ (ts us : List Tr), gds n (ts ++ us) = (gds n ts && gds n us)
  | [], us => by simp [gds]
  | t :: ts, us => by
    show (gd n t && gds n (ts ++ us)) = ((gd n t && gds n ts) && gds n us)
    rw [gds_app n ts us, Bool.and_assoc]
theorem nTs_app : ∀ (ts us : List Tr), nTs (ts ++ us) = nTs ts + nTs us
  | [], us => by simp [nTs]
  | t :: ts, us => by
    show nT t + nTs (ts ++ us) = (nT t + nTs ts) + nTs us
    rw [nTs_app ts us, Nat.add_assoc]
mutual
theorem gd_pl : ∀ (n : Nat) (t : Tr), gd n t = true → pl n t = true ∧ sml t = true
  | n, .int i, h => ⟨h, rfl⟩
  | n, .str z, h => by
    have h : (decide (z.length ≤ 105) && prn z) = true := h
    rw [Bool.and_eq_true, decide_eq_true_eq] at h
    exact ⟨h.2, by show decide (z.length ≤ 10000000) = true; rw [decide_eq_true (by omega)]⟩
  | 0, .tup ts, h => by cases h
  | n + 1, .tup ts, h => by
    have h : (decide (ts.length ≤ 3) && gds n ts) = true := h
    rw [Bool.and_eq_true, decide_eq_true_eq] at h
    obtain ⟨q1, q2⟩ := gds_pl n ts h.2
    exact ⟨q1, by show (smls ts && decide (ts.length ≤ 1000000)) = true; rw [q2, decide_eq_true (by omega)]; rfl⟩
  | _, .oth _, h => by cases h
theorem gds_pl : ∀ (n : Nat) (ts : List Tr), gds n ts = true → pls n ts = true ∧ smls ts = true
  | _, [], _ => ⟨rfl, rfl⟩
  | n, t :: ts, h => by
    have h : (gd n t && gds n ts) = true := h
    rw [Bool.and_eq_true] at h
    obtain ⟨a1, a2⟩ := gd_pl n t h.1
    obtain ⟨b1, b2⟩ := gds_pl n ts h.2
    exact ⟨by show (pl n t && pls n ts) = true; rw [a1, b1]; rfl, by show (sml t && smls ts) = true; rw [a2, b2]; rfl⟩
end
mutual
theorem gd_len : ∀ (n : Nat) (t : Tr), gd n t = true → (txt t).length ≤ 130 + 400 * nT t
  | n, .int i, h => by
    have h : (decide (0 ≤ i) && decide (i ≤ 99999999999999999999)) = true := h
    rw [Bool.and_eq_true, decide_eq_true_eq, decide_eq_true_eq] at h
    have := dig_len (n := i.toNat) (by omega)
    show (dig i.toNat ++ [46]).length ≤ _
    rw [List.length_append]
    show _ + 1 ≤ _
    omega
  | n, .str z, h => by
    have h : (decide (z.length ≤ 105) && prn z) = true := h
    rw [Bool.and_eq_true, decide_eq_true_eq] at h
    have := dig_len (n := z.length) (by omega)
    show (dig z.length ++ 58 :: TL.tl z).length ≤ _
    rw [List.length_append, List.length_cons, ← TL.len_tl]
    omega
  | 0, .tup ts, h => by cases h
  | n + 1, .tup ts, h => by
    have h : (decide (ts.length ≤ 3) && gds n ts) = true := h
    rw [Bool.and_eq_true, decide_eq_true_eq] at h
    have := gds_len n ts h.2
    show (91 :: (txts ts ++ [93])).length ≤ 130 + 400 * (1 + nTs ts)
    rw [List.length_cons, List.length_append]
    show _ + 1 + 1 ≤ _
    omega
  | _, .oth _, h => by cases h
theorem gds_len : ∀ (n : Nat) (ts : List Tr), gds n ts = true → (txts ts).length ≤ 130 * ts.length + 400 * nTs ts
  | _, [], _ => Nat.zero_le _
  | n, t :: ts, h => by
    have h : (gd n t && gds n ts) = true := h
    rw [Bool.and_eq_true] at h
    have a := gd_len n t h.1
    have b := gds_len n ts h.2
    show (txt t ++ txts ts).length ≤ 130 * (ts.length + 1) + 400 * (nT t + nTs ts)
    rw [List.length_append]
    omega
end
mutual
theorem pl_mono : ∀ (n m : Nat) (t : Tr), n ≤ m → pl n t = true → pl m t = true
  | _, _, .int _, _, h => h
  | _, _, .str _, _, h => h
  | 0, _, .tup _, _, h => by cases h
  | n + 1, 0, .tup _, q, _ => by omega
  | n + 1, m + 1, .tup ts, q, h => pls_mono n m ts (by omega) h
  | _, _, .oth _, _, h => h
theorem pls_mono : ∀ (n m : Nat) (ts : List Tr), n ≤ m → pls n ts = true → pls m ts = true
  | _, _, [], _, _ => rfl
  | n, m, t :: ts, q, h => by
    have h : (pl n t && pls n ts) = true := h
    rw [Bool.and_eq_true] at h
    show (pl m t && pls m ts) = true
    rw [pl_mono n m t q h.1, pls_mono n m ts q h.2]
    rfl
end
mutual
/-- no other kind within: such values stand whatever lists change -/
def pure_ : Tr → Bool
  | .oth _ => false
  | .tup ts => pures ts
  | _ => true
def pures : List Tr → Bool
  | [] => true
  | t :: ts => pure_ t && pures ts
end
mutual
theorem pl_pure : ∀ (n : Nat) (t : Tr), pl n t = true → pure_ t = true
  | _, .int _, _ => rfl
  | _, .str _, _ => rfl
  | 0, .tup _, h => by cases h
  | n + 1, .tup ts, h => pls_pure n ts h
  | _, .oth _, h => by cases h
theorem pls_pure : ∀ (n : Nat) (ts : List Tr), pls n ts = true → pures ts = true
  | _, [], _ => rfl
  | n, t :: ts, h => by
    have h : (pl n t && pls n ts) = true := h
    rw [Bool.and_eq_true] at h
    show (pure_ t && pures ts) = true
    rw [pl_pure n t h.1, pls_pure n ts h.2]
    rfl
end
mutual
theorem Rep.any {S : List Addr} {H H' : Hp} (k : Kp S H H') : ∀ {v : V} {t : Tr}, Rep H v t → pure_ t = true → Rep H' v t
  | _, _, .int i, _ => .int i
  | _, _, .str z, _ => .str z
  | _, _, .tup e q, h => .tup (k.tup _ _ e) (q.any k h)
  | _, _, .oth _ _ _ _, h => by cases h
theorem RepAll.any {S : List Addr} {H H' : Hp} (k : Kp S H H') : ∀ {vs : List V} {ts : List Tr}, RepAll H vs ts → pures ts = true → RepAll H' vs ts
  | _, _, .nil, _ => .nil
  | _, t :: ts, .cons a b, h => by
    have h : (pure_ t && pures ts) = true := h
    rw [Bool.and_eq_true] at h
    exact .cons (a.any k h.1) (b.any k h.2)
end
mutual
/-- the law's own comparison -/
def same : Tr → Tr → Bool
  | .tup us, .tup ts => sames us ts
  | .str a, .str b => decide (a = b)
  | .int a, .int b => decide (a = b)
  | _, _ => false
def sames : List Tr → List Tr → Bool
  | [], [] => true
  | u :: us, t :: ts => same u t && sames us ts
  | _, _ => false
end
mutual
theorem same_refl : ∀ (n : Nat) (t : Tr), pl n t = true → same t t = true
  | _, .int _, _ => by show decide _ = true; exact decide_eq_true rfl
  | _, .str _, _ => by show decide _ = true; exact decide_eq_true rfl
  | 0, .tup _, h => by cases h
  | n + 1, .tup ts, h => sames_refl n ts h
  | _, .oth _, h => by cases h
theorem sames_refl : ∀ (n : Nat) (ts : List Tr), pls n ts = true → sames ts ts = true
  | _, [], _ => rfl
  | n, t :: ts, h => by
    have h : (pl n t && pls n ts) = true := h
    rw [Bool.and_eq_true] at h
    show (same t t && sames ts ts) = true
    rw [same_refl n t h.1, sames_refl n ts h.2]
    rfl
end
mutual
theorem same_eq : ∀ (a b : Tr), same a b = true → a = b
  | .tup us, .tup ts, h => by rw [sames_eq us ts h]
  | .str a, .str b, h => by rw [of_decide_eq_true (show decide (a = b) = true from h)]
  | .int a, .int b, h => by rw [of_decide_eq_true (show decide (a = b) = true from h)]
  | .oth _, .oth _, h => by cases h
  | .oth _, .int _, h => by cases h
  | .oth _, .str _, h => by cases h
  | .oth _, .tup _, h => by cases h
  | .int _, .oth _, h => by cases h
  | .int _, .str _, h => by cases h
  | .int _, .tup _, h => by cases h
  | .str _, .oth _, h => by cases h
  | .str _, .int _, h => by cases h
  | .str _, .tup _, h => by cases h
  | .tup _, .oth _, h => by cases h
  | .tup _, .int _, h => by cases h
  | .tup _, .str _, h => by cases h
theorem sames_eq : ∀ (us ts : List Tr), sames us ts = true → us = ts
  | [], [], _ => rfl
  | u :: us, t :: ts, h => by
    have h : (same u t && sames us ts) = true := h
    rw [Bool.and_eq_true] at h
    rw [same_eq u t h.1, sames_eq us ts h.2]
  | [], _ :: _, h => by cases h
  | _ :: _, [], h => by cases h
end
theorem sames_len : ∀ {us ts : List Tr}, sames us ts = true → us.length = ts.length := fun h => by rw [sames_eq _ _ h]
/-- one promise for all depths up to a bound -/
theorem fnok_ex {P : Program} {w : World} {K : PySem.W.Frag} {mg : Str → Option Value} {base : Heap} {CX : CXT} {k : Nat} {f : Addr} {fd : FuncData} {ps : List Str} {sp : Nat → Sp} {N : Nat} (h : ∀ n, n ≤ N → FnOk P w K mg base CX k f fd ps (sp n)) :
    FnOk P w K mg base CX k f fd ps (fun vs H Q E => ∃ n, n ≤ N ∧ sp n vs H Q E) :=
  ⟨fun vs H Q E ⟨n, hn, q⟩ => (h n hn).len vs H Q E q, fun A outer s H args us vs Q E hr he hb hv ⟨n, hn, q⟩ => (h n hn).run A outer s H args us vs Q E hr he hb hv q⟩
theorem strT {z : Str} (hz : z.length ≤ 10000000) : z.length ≤ sizeLine ∧ (z.length : Int).natAbs.log2 < 1920 ∧ (Str.ofString (toString (z.length : Int))).length + (Str.ofString ":").length ≤ sizeLine ∧
    (Str.ofString (toString (z.length : Int)) ++ Str.ofString ":").length + z.length ≤ sizeLine ∧ Str.ofString (toString (z.length : Int)) ++ Str.ofString ":" ++ z = ⟨(txt (.str z)).toArray⟩ := by
  have lim : sizeLine = 16777216 := sizeLine_eq
  have dl := dig_len (n := z.length) (by omega)
  have e1 : (Str.ofString (toString (z.length : Int))).length ≤ 20 := by rw [toString_S, S_len]; exact dl
  have e2 : (Str.ofString ":").length = 1 := by decide +kernel
  have e3 : (Str.ofString (toString (z.length : Int)) ++ Str.ofString ":").length ≤ 21 := by
    rw [TL.len_tl, TL.tl_append, List.length_append, ← TL.len_tl, ← TL.len_tl]; omega
  refine ⟨by omega, log_small (by omega) (by omega), by omega, by omega, TL.ext_tl ?_⟩
  rw [TL.tl_append, TL.tl_append, TL.tl_num]
  show (dig z.length ++ [58]) ++ TL.tl z = dig z.length ++ 58 :: TL.tl z
  rw [List.append_assoc]; rfl
theorem intT {i : Int} (h0 : 0 ≤ i) (h1 : i ≤ 99999999999999999999) : i.natAbs.log2 < 1920 ∧ (Str.ofString (toString i)).length + (Str.ofString ".").length ≤ sizeLine ∧ Str.ofString (toString i) ++ Str.ofString "." = ⟨(txt (.int i)).toArray⟩ := by
  have lim : sizeLine = 16777216 := sizeLine_eq
  have ei : i = ((i.toNat : Nat) : Int) := by omega
  have dl := dig_len (n := i.toNat) (by omega)
  have e2 : (Str.ofString ".").length = 1 := by decide +kernel
  have e1 : (Str.ofString (toString i)).length ≤ 20 := by rw [ei, toString_S, S_len]; exact dl
  refine ⟨log_small h0 h1, by omega, TL.ext_tl ?_⟩
  rw [TL.tl_append]
  show TL.tl (Str.ofString (toString i)) ++ [46] = dig i.toNat ++ [46]
  rw [show TL.tl (Str.ofString (toString i)) = dig i.toNat by rw [ei]; exact TL.tl_num _]
theorem tupT (ts : List Tr) (h : (txts ts).length ≤ 16000000) : ((tys ts).map (·.length)).sum + (tys ts).length * (Str.ofString "").length ≤ 16777216 ∧ (Str.ofString "[").length + (Txt.join (Str.ofString "") (tys ts)).length ≤ sizeLine ∧
    (Str.ofString "[" ++ Txt.join (Str.ofString "") (tys ts)).length + (Str.ofString "]").length ≤ sizeLine ∧ Str.ofString "[" ++ Txt.join (Str.ofString "") (tys ts) ++ Str.ofString "]" = ⟨(txt (.tup ts)).toArray⟩ := by
  have lim : sizeLine = 16777216 := sizeLine_eq
  have h2 : (Str.ofString "]").length = 1 := by decide +kernel
  have h1 : (Str.ofString "[").length = 1 := by decide +kernel
  refine ⟨?_, ?_, ?_, TL.ext_tl ?_⟩
  · rw [tys_sum]
    show _ + (tys ts).length * 0 ≤ _
    omega
  · rw [h1, TL.len_tl, tl_tys]; omega
  · rw [TL.len_tl, TL.tl_append, List.length_append, ← TL.len_tl, h1, tl_tys, h2]; omega
  · rw [TL.tl_append, TL.tl_append, tl_tys]
    rfl
theorem sames_cat {u t : Tr} (h : same u t = true) : ∀ (us ts : List Tr), sames us ts = true → sames (us ++ [u]) (ts ++ [t]) = true
  | [], [], _ => by show (same u t && true) = true; rw [h]; rfl
  | a :: us, b :: ts, q => by
    have q : (same a b && sames us ts) = true := q
    rw [Bool.and_eq_true] at q
    show (same a b && sames (us ++ [u]) (ts ++ [t])) = true
    rw [q.1, sames_cat h us ts q.2]; rfl
  | [], _ :: _, q => by cases q
  | _ :: _, [], q => by cases q
theorem dig_prc (n : Nat) : ∀ c ∈ dig n, prc c = true := fun c hc => by
  obtain ⟨h1, h2⟩ := isD_iff.mp (dig_isD n c hc)
  unfold prc
  rw [decide_eq_true (by omega), decide_eq_true (by omega), decide_eq_false (by omega)]
  rfl
mutual
theorem txt_prc : ∀ (n : Nat) (t : Tr), pl n t = true → ∀ c ∈ txt t, prc c = true
  | n, .int i, _, c, h => by
    rcases List.mem_append.mp (show c ∈ dig i.toNat ++ [46] from h) with h | h
    · exact dig_prc _ c h
    · rw [List.mem_singleton.mp h]; decide
  | n, .str z, hp, c, h => by
    rcases List.mem_append.mp (show c ∈ dig z.length ++ 58 :: TL.tl z from h) with h | h
    · exact dig_prc _ c h
    · rcases List.mem_cons.mp h with h | h
      · rw [h]; decide
      · have hp : prn z = true := hp
        unfold prn at hp
        exact List.all_eq_true.mp hp c h
  | 0, .tup ts, hp, c, h => by cases hp
  | n + 1, .tup ts, hp, c, h => by
    rcases List.mem_cons.mp (show c ∈ 91 :: (txts ts ++ [93]) from h) with h | h
    · rw [h]; decide
    · rcases List.mem_append.mp h with h | h
      · exact txts_prc n ts hp c h
      · rw [List.mem_singleton.mp h]; decide
  | _, .oth _, hp, _, _ => by cases hp
theorem txts_prc : ∀ (n : Nat) (ts : List Tr), pls n ts = true → ∀ c ∈ txts ts, prc c = true
  | _, [], _, c, h => by cases h
  | n, t :: ts, hp, c, h => by
    have hp : (pl n t && pls n ts) = true := hp
    rw [Bool.and_eq_true] at hp
    rcases List.mem_append.mp (show c ∈ txt t ++ txts ts from h) with h | h
    · exact txt_prc n t hp.1 c h
    · exact txts_prc n ts hp.2 c h
end
theorem txt_prn {n : Nat} {t : Tr} (h : pl n t = true) : prn ⟨(txt t).toArray⟩ = true := by
  unfold prn
  exact List.all_eq_true.mpr fun c hc => txt_prc n t h c (by simpa using hc)
end SC

namespace SC
open PySem L2 PyProof.Rows
theorem hexF (n : Nat) : PyProof.Rows.intField' { align := 62, type := some 120 } false [] ((Nat.toDigits 16 n).map fun c => (if (120 : Nat) == 88 then c.toUpper else c).toNat) [] 4 = ⟨((Nat.toDigits 16 n).map Char.toNat).toArray⟩ := by
  have e : ((Nat.toDigits 16 n).map fun c => (if (120 : Nat) == 88 then c.toUpper else c).toNat) = (Nat.toDigits 16 n).map Char.toNat := by
    apply List.map_congr_left
    intro c _
    rw [if_neg (by decide)]
  rw [e]
  unfold PyProof.Rows.intField'
  have hd : ((Nat.toDigits 16 n).map Char.toNat).isEmpty = false := by
    have := tDigits_len_ge 16 n
    cases h : Nat.toDigits 16 n with
    | nil => rw [h] at this; simp at this
    | cons _ _ => rfl
  generalize (Nat.toDigits 16 n).map Char.toNat = ds at hd ⊢
  simp [hd]
open PySem.W PySem.Calls Builtin Builtin.Str Builtin.Int Builtin.Float in
theorem fld_hex {prog : Program} {w : World} {A : Around} {E : Value → Shared → Prop} {s : Shared} {t : Tok} {n : Nat} {Q : Value → Shared → Prop} (hn : (Nat.toDigits 16 n).length ≤ 1000)
    (h : ∀ t' k, Q (.str ⟨((Nat.toDigits 16 n).map Char.toNat).toArray⟩ t') { s with toks := k }) : wpAny (model prog w) A (formatField (.int (n : Int) t) (PySem.Str.ofString "x")) Q E s := by
  refine PySem.W.KXf.field_int rfl (by decide) (by decide) ?_ h
  intro u
  apply PySem.W.KPc.meets_of
  intro p1 w1 A1 s1 Q1 E1 h1
  unfold Builtin.«int.__format__»
  have hne : ((Str.ofString "x").length == 0) = false := by decide
  have hasc : (((Str.ofString "x").cps.toList.drop 1).any (· ≥ 128) || ((Str.ofString "x").cps.getD 0 0 ≥ 128 && !([60, 62, 61, 94] : List Nat).contains ((Str.ofString "x").cps.getD 1 0))) = false := by decide
  simp only [selfAndOne, noKeywords, Int.intOfSelf, asInt?, asStr?, List.isEmpty_nil, if_true, pure_bind, bind_pure, bind_assoc, hne, hasc, Bool.false_eq_true, if_false,
    show (Value.str (Str.ofString "x") u == Value.none) = false from rfl]
  refine wpAny_bind (wpAny_typeNameOf (T := "str") (typeIs_str _ _ _) (by decide) fun _ => ?_)
  refine wpAny_bind (wpAny_typeNameOfCut_int ?_)
  have hp : parseFormatSpec (Str.ofString "x").cps.toList "int" 62 = .ok { align := 62, type := some 120 } := by rfl
  simp only [hp]
  rw [if_pos (show _ = true by decide)]
  conv => arg 3; whnf
  refine PySem.W.KXf.ret_text (T := ⟨((Nat.toDigits 16 n).map Char.toNat).toArray⟩) ?_ ?_ h1
  · show PyProof.Rows.intField' { align := 62, type := some 120 } (decide ((n : Int) < 0)) [] ((Nat.toDigits 16 ((n : Int)).natAbs).map fun c => (if (120 : Nat) == 88 then c.toUpper else c).toNat) [] 4 = _
    rw [decide_eq_false (by omega), Int.natAbs_natCast]
    exact hexF n
  · show (PyProof.Rows.intField' { align := 62, type := some 120 } (decide ((n : Int) < 0)) [] ((Nat.toDigits 16 ((n : Int)).natAbs).map fun c => (if (120 : Nat) == 88 then c.toUpper else c).toNat) [] 4).length ≤ sizeLine
    rw [decide_eq_false (by omega), Int.natAbs_natCast, hexF n]
    show ((Nat.toDigits 16 n).map Char.toNat).toArray.size ≤ _
    rw [List.size_toArray, List.length_map, sizeLine_eq]
    omega
section
variable {X : Cx}
/-- {n:x} of an int from 0 on -/
def tFmtX (te : TE) : TE := fun σ H Q => te σ H fun x H1 => ∃ n : Nat, x = .int (n : Int) ∧ (Nat.toDigits 16 n).length ≤ 1000 ∧ Q (.str ⟨((Nat.toDigits 16 n).map Char.toNat).toArray⟩) H1
theorem pe_fmtX {e : Expr} {te : TE} {j : Nat} {p1 p2 p3 : Pos} (he : PE X e te) : PE X (.FormattedValue e (-1) (some (.JoinedStr [.Constant (.str "x") j p1] p2)) p3) (tFmtX te) := by
  refine ⟨fun pins s σ H Q I h => ?_⟩
  refine wpAny_FormattedValue_spec (thn (he.run pins s σ H _ I h) fun v s1 hv => ?_)
  obtain ⟨x, H1, I1, r1, n, rfl, hz, q⟩ := hv
  obtain ⟨t, rfl⟩ := r1
  refine thn ((pe_joined1 pe_str).run pins s1 σ H1 (fun y H2 => H2 = H1 ∧ y = .str "x") I1 ⟨rfl, rfl⟩) fun r s2 hr => ?_
  obtain ⟨y, H2, I2, r2, rfl, rfl⟩ := hr
  obtain ⟨t2, rfl⟩ := r2
  exact ⟨_, t2, rfl, fld_hex hz fun t' k => ⟨.str _, H2, I2.tok _, ⟨_, rfl⟩, q⟩⟩
end
/-- a module's constant, its token left open -/
theorem pe_cE {X : Cx} {x : Str} {n : Int} {p : Pos} (h : ∃ t, X.mg x = some (.int n t)) (hg : Gl X x := by rfl) (hd : (x == ("__debug__" : Str)) = false := by decide) : PE X (.Name x p) (tC (.int n)) :=
  let ⟨t, h⟩ := h
  pe_glob (v := .int n) hg h ⟨t, rfl⟩ hd
theorem pe_cSE {X : Cx} {x : Str} {n : Str} {p : Pos} (h : ∃ t, X.mg x = some (.str n t)) (hg : Gl X x := by rfl) (hd : (x == ("__debug__" : Str)) = false := by decide) : PE X (.Name x p) (tC (.str n)) :=
  let ⟨t, h⟩ := h
  pe_glob (v := .str n) hg h ⟨t, rfl⟩ hd

/-! the digest: a number, its 18 hexadecimal signs -/
def dgD : Nat := 2361183241434822606617
def dgF (n c : Nat) : Nat := (n * 65599 + c) % dgD
def rawF (n c : Nat) : Nat := n * 65599 + c
def dgN (cs : List Nat) : Nat := cs.foldl dgF (cs.length + 1)
def rawN (cs : List Nat) : Nat := cs.foldl rawF (cs.length + 1)
theorem fold_mod : ∀ (cs : List Nat) (a b : Nat), a % dgD = b % dgD → (cs.foldl dgF a) % dgD = (cs.foldl rawF b) % dgD
  | [], a, b, h => h
  | c :: cs, a, b, h => by
    rw [List.foldl_cons, List.foldl_cons]
    refine fold_mod cs _ _ ?_
    unfold dgF rawF
    rw [Nat.mod_mod, Nat.add_mod, Nat.mul_mod, h, ← Nat.mul_mod, ← Nat.add_mod]
theorem fold_lt : ∀ (cs : List Nat) (a : Nat), a < dgD → cs.foldl dgF a < dgD
  | [], a, h => h
  | c :: cs, a, h => by
    rw [List.foldl_cons]
    exact fold_lt cs _ (Nat.mod_lt _ (by decide))
theorem dgN_lt (cs : List Nat) : dgN cs < dgD := by
  cases cs with
  | nil => decide
  | cons c cs => exact fold_lt cs _ (Nat.mod_lt _ (by decide))
theorem dgN_raw (cs : List Nat) : rawN cs % dgD = dgN cs := by
  have h := fold_mod cs (cs.length + 1) (cs.length + 1) rfl
  rw [show (cs.foldl dgF (cs.length + 1)) % dgD = cs.foldl dgF (cs.length + 1) from Nat.mod_eq_of_lt (dgN_lt cs)] at h
  exact h.symm
/-- the place of a sign among the sixteen -/
def hxI (c : Nat) : Nat := if c ≤ 57 then c - 48 else c - 87
def hxs : List Nat := [48, 49, 50, 51, 52, 53, 54, 55, 56, 57, 97, 98, 99, 100, 101, 102]
def hxV (l : List Nat) : Nat := l.foldl (fun a c => a * 16 + hxI c) 0
def hxT (n : Nat) : List Nat := (Nat.toDigits 16 n).map Char.toNat
def hx18 (n : Nat) : List Nat := List.replicate (18 - (hxT n).length) 48 ++ hxT n
theorem hx_digit : ∀ d : Nat, d < 16 → hxI (Nat.digitChar d).toNat = d ∧ (Nat.digitChar d).toNat ∈ hxs := by decide
theorem hxT_snoc {m : Nat} (h : ¬ m < 16) : hxT m = hxT (m / 16) ++ [(Nat.digitChar (m % 16)).toNat] := by
  have hm : m % 16 < 16 := Nat.mod_lt m (by decide)
  have t : Nat.toDigits 16 (m / 16) ++ Nat.toDigits 16 (m % 16) = Nat.toDigits 16 (16 * (m / 16) + m % 16) := Nat.toDigits_append_toDigits (by decide) (by omega) hm
  rw [Nat.div_add_mod] at t
  unfold hxT
  rw [← t, List.map_append, Nat.toDigits_of_lt_base hm]
  rfl
theorem hxT_one {m : Nat} (h : m < 16) : hxT m = [(Nat.digitChar m).toNat] := by
  unfold hxT
  rw [Nat.toDigits_of_lt_base h]; rfl
theorem hxV_snoc (l : List Nat) (c : Nat) : hxV (l ++ [c]) = hxV l * 16 + hxI c := by unfold hxV; rw [List.foldl_append]; rfl
theorem hxT_val (m : Nat) : hxV (hxT m) = m := by
  induction m using Nat.strongRecOn with
  | _ m ih =>
    by_cases h : m < 16
    · rw [hxT_one h]
      have e := (hx_digit m h).1
      show 0 * 16 + hxI _ = m
      omega
    · rw [hxT_snoc h, hxV_snoc, ih (m / 16) (by omega), (hx_digit (m % 16) (Nat.mod_lt m (by decide))).1]
      omega
theorem hxT_in (m : Nat) : ∀ c ∈ hxT m, c ∈ hxs := by
  induction m using Nat.strongRecOn with
  | _ m ih =>
    by_cases h : m < 16
    · rw [hxT_one h]
      intro c hc
      rw [List.mem_singleton.mp hc]
      exact (hx_digit m h).2
    · rw [hxT_snoc h]
      intro c hc
      rcases List.mem_append.mp hc with hc | hc
      · exact ih (m / 16) (by omega) c hc
      · rw [List.mem_singleton.mp hc]
        exact (hx_digit (m % 16) (Nat.mod_lt m (by decide))).2
theorem hxT_len {n : Nat} (h : n < dgD) : (hxT n).length ≤ 18 := by
  unfold hxT
  rw [List.length_map]
  exact PySem.StrLaws.toDigits_len (by decide) (Nat.lt_trans h (by decide))
theorem hx18_len {n : Nat} (h : n < dgD) : (hx18 n).length = 18 := by
  unfold hx18
  rw [List.length_append, List.length_replicate]
  have := hxT_len h
  omega
theorem hx18_in (n : Nat) : ∀ c ∈ hx18 n, c ∈ hxs := by
  intro c hc
  rcases List.mem_append.mp hc with hc | hc
  · rw [List.eq_of_mem_replicate hc]; decide
  · exact hxT_in n c hc
theorem hxV_rep : ∀ (k : Nat) (l : List Nat), (List.replicate k 48 ++ l).foldl (fun a c => a * 16 + hxI c) 0 = l.foldl (fun a c => a * 16 + hxI c) 0
  | 0, l => rfl
  | k + 1, l => by rw [List.replicate_succ, List.cons_append, List.foldl_cons]; exact hxV_rep k l
theorem hx18_val (n : Nat) : hxV (hx18 n) = n := by
  unfold hx18 hxV
  rw [hxV_rep]
  exact hxT_val n
theorem hx18_inj {a b : Nat} (h : hx18 a = hx18 b) : a = b := by rw [← hx18_val a, ← hx18_val b, h]
/-- the digest of a text -/
def dgs (z : Str) : Str := ⟨(hx18 (dgN z.cps.toList)).toArray⟩
theorem dgs_len (z : Str) : (dgs z).length = 18 := by
  show (hx18 _).toArray.size = 18
  rw [List.size_toArray]
  exact hx18_len (dgN_lt _)
theorem dgs_inj {x y : Str} (h : dgs x = dgs y) : dgN x.cps.toList = dgN y.cps.toList := hx18_inj (by
  have := congrArg (fun z : Str => z.cps.toList) h
  simpa [dgs] using this)
theorem zfill_hx {n : Nat} (h : n < dgD) : PySem.Txt.zfill ⟨(hxT n).toArray⟩ 18 = ⟨(hx18 n).toArray⟩ := by
  have hl := hxT_len h
  unfold PySem.Txt.zfill
  have el : (⟨(hxT n).toArray⟩ : Str).length = (hxT n).length := by show (hxT n).toArray.size = _; rw [List.size_toArray]
  rw [el]
  split
  · have e : (hxT n).length = 18 := by omega
    unfold hx18
    rw [e]; rfl
  · have ne : ∀ c ∈ hxT n, c ≠ 43 ∧ c ≠ 45 := fun c hc => by
      have := hxT_in n c hc
      simp only [hxs, List.mem_cons, List.not_mem_nil, or_false] at this
      omega
    have e1 : zfilled ⟨(hxT n).toArray⟩ ((18 : Int).toNat - (hxT n).length) = Builtin.Str.padded ⟨(hxT n).toArray⟩ ((18 : Int).toNat - (hxT n).length) 0 48 := by
      unfold zfilled
      split
      · rename_i q; rw [List.getElem?_toArray] at q; exact absurd rfl (ne _ (List.mem_of_getElem? q)).1
      · rename_i q; rw [List.getElem?_toArray] at q; exact absurd rfl (ne _ (List.mem_of_getElem? q)).2
      · rfl
    rw [e1]
    unfold Builtin.Str.padded hx18
    simp [List.toArray_replicate]
end SC

/-! z[::-1] of a text -/
namespace SC
open PySem PySem.Spec PyProof.Rows L2
def revS (z : Str) : Str := ⟨z.cps.toList.reverse.toArray⟩
def tRevS (te : TE) : TE := fun σ H Q => te σ H fun x H1 => ∃ z, x = .str z ∧ z.length ≤ sizeLine ∧ Q (.str (revS z)) H1
theorem revS_pick (z : Str) : (⟨((Builtin.Str.strSliceIndices none none (-1) z.length).filterMap (z.cps[·]?)).toArray⟩ : Str) = revS z := by
  have e : Builtin.Str.strSliceIndices none none (-1) z.length = sliceRange ((z.length : Int) - 1) (-1) (-1) := by
    unfold Builtin.Str.strSliceIndices
    simp
  unfold revS
  rw [e, PySem.W.krv_sliceRange, PySem.W.krv_range, List.filterMap_reverse]
  congr 2
  congr 1
  exact PySem.W.krv_all z.cps
theorem pe_revS {X : Cx} {e : Expr} {te : TE} {k : Nat} {p1 p2 p3 pos : Pos} (he : PE X e te) : PE X (.Subscript e (.Slice none none (some (.UnaryOp .USub (.Constant (.int 1) k p1) p2)) p3) pos) (tRevS te) := by
  refine ⟨fun pins s σ H Q I h => ?_⟩
  refine Subscript_ (thn (he.run pins s σ H _ I h) fun v s1 ⟨x, H1, I1, r1, q1⟩ => ?_)
  obtain ⟨z, ex, hz, q⟩ := q1
  subst ex
  obtain ⟨t, rfl⟩ := r1
  have hst : PO X (some (.UnaryOp .USub (.Constant (.int 1) k p1) p2)) (tPart (tUn (rU fun i => .int (-i)) (tC (.int 1)))) := po_some (pe_un un_neg pe_int)
  refine wpAny_Slice (thn (po_none.run pins s1 σ H1 (fun o H2 => o = none ∧ H2 = H1) I1 ⟨rfl, rfl⟩) fun vl s2 ⟨l, H2, I2, pl, el, e2⟩ => ?_)
  subst el e2
  refine thn (po_none.run pins s2 σ H2 (fun o H3 => o = none ∧ H3 = H2) I2 ⟨rfl, rfl⟩) fun vu s3 ⟨u, H3, I3, pu, eu, e3⟩ => ?_
  subst eu e3
  refine thn (hst.run pins s3 σ H3 (fun o H4 => o = some (-1) ∧ H4 = H3) I3 ⟨1, rfl, -1, rfl, rfl, rfl⟩) fun vs s4 ⟨o, H4, I4, ps, eo, e4⟩ => ?_
  subst eo e4
  have I5 : Inv X pins σ H4 { s4 with heap := s4.heap.push { cls := .type "slice", data := .fields #[vl, vu, vs] } } := I4.kept (t' := s4.toks) fun b ob q => Heap.get?_push_of_some _ q
  obtain ⟨os, hos, hcs, hds⟩ := Heap.IsSliceOf.new s4.heap vl vu vs
  obtain ⟨l1, rfl, hl1⟩ := IsPart.raw pl
  obtain ⟨u1, rfl, hu1⟩ := IsPart.raw pu
  obtain ⟨w1, rfl, hw1⟩ := IsPart.raw ps
  show wpAny (model X.prog X.w) X.A (subscriptTail e (.Slice none none (some (.UnaryOp .USub (.Constant (.int 1) k p1) p2)) p3) (.str z t) (.ref s4.heap.objs.size)) (EP X pins σ Q) X.xe { s4 with heap := s4.heap.push { cls := .type "slice", data := .fields #[partValue l1, partValue u1, partValue w1] } }
  refine tail_any (ops := [.ref s4.heap.objs.size, .str z t]) (typeIs_str _ _ _) F.slot_str_getitem.lookup ?_ (by with_unfolding_all rfl)
  refine wpAny_getItem_str_slice (l := l1) (u := u1) (st := w1) ⟨os, hos, hcs, hds⟩ (by rw [hw1]; decide) ?_
  unfold sliceMade slicePicked
  rw [hl1, hu1, hw1]
  show Made.post (Made.str ⟨((Builtin.Str.strSliceIndices none none (-1) z.length).filterMap (z.cps[·]?)).toArray⟩) (EP X pins σ Q) _
  rw [revS_pick]
  refine ⟨?_, .str _, H4, I5.tok _, ⟨_, rfl⟩, q⟩
  show (z.cps.toList.reverse.toArray).size ≤ sizeLine
  rw [List.size_toArray, List.length_reverse, Array.length_toList]
  exact hz
theorem Blt.range2 {X : Cx} {t : TA} {p pos : Pos} {e e2 : Expr} (B : Blt X.mg) {tg : Expr} (ha : PA X [e, e2] t) (hg : Gl X "range" := by rfl) (hs : starEach [e, e2] X.env = [(false, eval e X.env), (false, eval e2 X.env)] := by rfl) (hs2 : starEach [e2] X.env = [(false, eval e2 X.env)] := by rfl) :
    PI X tg (.Call (.Name "range" p) [e, e2] [] pos) (iRng2 t) := pi_range2 hg B.range ha hs hs2
theorem cut_to (z : Str) (k : Nat) : TL.tl (cutS z none (some (k : Int))) = (TL.tl z).take k := by
  show (z.cps.toList.drop (HT.sIx z.length 0 none)).take (HT.sIx z.length z.length (some (k : Int)) - HT.sIx z.length 0 none) = _
  rw [HT.sIx_nat, HT.sIx_none, List.drop_zero, Nat.sub_zero]
  have : z.cps.toList.length = z.length := Array.length_toList
  show z.cps.toList.take (min k z.length) = z.cps.toList.take k
  rw [← this, ← List.take_eq_take_min]
theorem cut_from (z : Str) (k : Nat) : TL.tl (cutS z (some (k : Int)) none) = (TL.tl z).drop k := by
  show (z.cps.toList.drop (HT.sIx z.length 0 (some (k : Int)))).take (HT.sIx z.length z.length none - HT.sIx z.length 0 (some (k : Int))) = _
  rw [HT.sIx_nat, HT.sIx_none]
  have e : z.cps.toList.length = z.length := Array.length_toList
  rw [List.take_of_length_le (by rw [List.length_drop, e]; omega)]
  show z.cps.toList.drop (min k z.length) = z.cps.toList.drop k
  by_cases h : k ≤ z.length
  · rw [Nat.min_eq_left h]
  · rw [Nat.min_eq_right (by omega), List.drop_eq_nil_of_le (by omega), List.drop_eq_nil_of_le (by omega)]
end SC

/-! all(test for mark in text), the test one that reads a captured text of the def around -/
namespace SC
open PySem PySem.Spec PyProof.Rows L2
open GxR (TabB TabG Tabbed Ready GenS keeps_tok trF trF_some all_signs inv_tab sh_eta)
/-- the element: a test of the sign c and of the text z that the def around keeps in a cell under the name y -/
def EltC (prog : Program) (w : World) (mg : Str → Option Value) (scope : Scope) (x y : Str) (elt : Expr) (pf : Str → Nat → Bool) : Prop :=
  ∀ (ce : Env) (A' : Around) (E' : Value → Shared → Prop) (c : Nat) (t : Tok) (s2 : Shared) (m2 : Str → Option Value) (z : Str) (tz : Tok) (cy : Addr), ce.scope = scope → ce.globals = mainGlobals → ce.builtins = builtinsNs → Names2 s2.heap mg →
    s2.heap.Ns ce.locals m2 → m2 x = some (.str ⟨#[c]⟩ t) → ce.cells.lookup y = some cy → s2.heap.IsCell cy (some (.str z tz)) → wpAny (model prog w) A' (eval elt ce) (fun v s3 => v = .bool (pf z c) ∧ Keeps s2 s3) E' s2
/-- the generator's scope: what can be read off it -/
structure GenS0 (scope : Scope) (x : Str) : Prop where
  kind : scope.kind = .function
  co : scope.isCoroutine = false
  cell : ∀ y ∈ scope.names, y.2 ≠ .cell
  dot : scope.names.lookup (".0" : Str) = some NameKind.local
  loc : scope.names.lookup x = some .local
theorem gs0Of {scope : Scope} {x : Str} (h : (match scope.kind with | .function => true | _ => false) && !scope.isCoroutine && (scope.names.all fun y => match y.2 with | .cell => false | _ => true) && (match scope.names.lookup (".0" : Str) with | some .local => true | _ => false) = true)
    (hx : (match scope.names.lookup x with | some .local => true | _ => false) = true) : GenS0 scope x := by
  simp only [Bool.and_eq_true, List.all_eq_true] at h
  obtain ⟨⟨⟨h1, h2⟩, h3⟩, h4⟩ := h
  refine ⟨?_, by simpa using h2, fun y hy e => ?_, ?_, ?_⟩
  · split at h1
    · assumption
    · cases h1
  · have := h3 y hy; rw [e] at this; cases this
  · split at h4
    · assumption
    · cases h4
  · split at hx
    · assumption
    · cases hx
/-- what the generator captures, the def around has -/
def freeOk (scope sc : Scope) : Bool := scope.names.all fun y => match y.2 with
  | .free => (match sc.names.lookup y.1 with | some .cell => true | some .free => true | _ => false)
  | _ => true
theorem GenS0.all {X : Cx} {scope : Scope} {x : Str} (S : GenS0 scope x) (ok : X.Ok) (h : freeOk scope X.env.scope = true) : GenS X.env scope x := by
  refine ⟨S.kind, S.co, S.cell, S.dot, S.loc, fun y hy hf => ok.has y.1 ?_⟩
  unfold freeOk at h
  rw [List.all_eq_true] at h
  have := h y hy
  rw [hf] at this
  simp only at this
  split at this
  · rename_i e; exact .inl e
  · rename_i e; exact .inr e
  · cases this
section
variable {X : Cx} {pins : List (Addr × Obj)} {σ : L2.St} {H : Hp} {s : Shared}
theorem gen_mkC {y : Str} {iy : Nat} {z : Str} {c P : Addr} {elt iter : Expr} {x : Str} {px gpos : Pos} {scope : Scope} {pf : Str → Nat → Bool} {te : TE} {k : Nat} {Q' : Value → Shared → Prop} {R : Str → Hp → Prop}
    (hr : Room k X.A) (TB : TabB X.base X.mg c P) (hcode : X.env.code = .ref c) (S : GenS X.env scope x) (hi : PE X iter te) (hel : EltC X.prog X.w X.mg scope x y elt pf)
    (hN : X.N[iy]? = some y) (hky : X.env.kindOf y = some .cell) (hcl : ∀ cs : List (Str × Addr), (cloFrom cs scope.names []).lookup y = some ((cs.lookup y).getD 0)) (hσ : σ[iy]? = some (some (.str z)))
    (hs : ∀ v, genFold iter X.env v = pure v) (I : Inv X pins σ H s) (h : te σ H fun v H1 => ∃ a : Str, v = .str a ∧ TabG H1 P ∧ R a H1)
    (hQ : ∀ a H1 g s5, R a H1 → Ready X pins σ H1 P a (pf z) g s5 → Q' (.ref g) s5) :
    wpAny (model X.prog X.w) X.A (eval (.GeneratorExp elt [⟨.Name x px, iter, [], 0⟩] scope gpos) X.env) Q' X.xe s := by
  refine wpAny_GeneratorExp_walksQ hr.hd S.co (closure_ok S.free) S.cell S.dot S.loc S.kind (by have := hr.dp; omega) ?_ hs
  refine thn (hi.run pins s σ H _ I h) fun xv t1 ⟨v, H1, J, rv, a, ev, ⟨ps, hP, htr⟩, hR⟩ => ?_
  subst ev
  obtain ⟨tk1, rfl⟩ := rv
  obtain ⟨ml, hnl, hll⟩ := J.loc
  obtain ⟨uy, ruy, lky⟩ := hll iy y (.str z) hN hσ (.inr (.inl hky))
  obtain ⟨tz, rfl⟩ := ruy
  obtain ⟨cy, hcy, hic⟩ : ∃ cy, X.env.cells.lookup y = some cy ∧ t1.heap.IsCell cy (some (.str z tz)) := by
    rcases lky with ⟨hk2, _⟩ | ⟨_, cy, h1, h2⟩
    · rw [hky] at hk2; cases hk2
    · exact ⟨cy, h1, h2⟩
  refine wpAny_pyIter_str fun o St W hst => ?_
  have hPs : t1.heap.get? P = some { cls := .none, data := .fields ps } := J.hok P _ hP
  have hPlt := Heap.lt_size hPs
  have up : ∀ b u, t1.heap.get? b = some u → (t1.heap.push o).get? b = some u := fun b u e => Heap.get?_push_of_some _ e
  have cd : PySem.W.CodeHd (t1.heap.push o) c P := TB.code.keeps fun b u e => up b u (J.bk b u e)
  have lim : (t1.heap.push o).NoLimit := J.nolimit.push o
  have hclt : cStatics < t1.heap.objs.size := let ⟨_, hn, _⟩ := J.nolimit; hn.lt
  have hsz1 : (t1.heap.push o).objs.size = t1.heap.objs.size + 1 := Heap.size_push ..
  refine ⟨lim, ?_⟩
  have go : ∀ (code : Value) (h3 : Heap) (tk : Nat) (qs : Array Value), Heap.ExtBut P (t1.heap.push o) h3 → (t1.heap.push o).objs.size ≤ h3.objs.size → h3.get? P = some { cls := .none, data := .fields qs } →
      (∃ more, qs = ps ++ more) → TriplesOk qs.toList →
      wpAny (model X.prog X.w) X.A (builtinsFor X.env.globals X.env.builtins) (fun bi s4 =>
        ∃ Ia fp wr n0 Pf St0 pz F, Value.ref t1.heap.objs.size = .ref Ia ∧ (∀ A' : Around, A'.handled = none → Walks X.prog X.w A' Ia fp wr n0 Pf St0) ∧ St0 0 s4.heap ∧ (∀ b ∈ fp, b < s4.heap.objs.size) ∧ s4.heap.NoLimit ∧ cStatics ∉ wr ∧
          (∀ href : Heap, (∀ b o, s4.heap.get? b = some o → href.get? b = some o) →
            QuietGen X.prog X.w (genEnv scope (cloFrom X.env.cells scope.names []) s4.heap.objs.size code bi X.env) x [] elt (List.range s4.heap.objs.size) wr Pf pz F href) ∧
          (∀ g h5 tk5 gs, gs.bare = true → s4.heap.objs.size < g → h5.objs.size = g + 1 → (∀ b o, s4.heap.get? b = some o → h5.get? b = some o) →
            WalksS X.prog X.w X.A.in4 g (g :: s4.heap.objs.size :: List.range s4.heap.objs.size) (s4.heap.objs.size :: wr) (GenOnlyQ s4.gens.size) (passing pz n0 0).length
              (fun j y => ∃ i, (passing pz n0 0)[j]? = some i ∧ F i y) (GenAt X.prog X.w X.A.in4 g s4.gens.size s4.heap.objs.size (List.range s4.heap.objs.size) wr pz n0 F) →
            GenAt X.prog X.w X.A.in4 g s4.gens.size s4.heap.objs.size (List.range s4.heap.objs.size) wr pz n0 F 0 { s4 with gens := s4.gens.push gs, toks := tk5, heap := h5 } →
            Q' (.ref g) { s4 with gens := s4.gens.push gs, toks := tk5, heap := h5 })) X.xe { t1 with heap := h3, toks := tk } := by
    intro code h3 tk qs hx hsz hP3 hmore htq
    obtain ⟨bm, ob, e1, e2, e3, e4, e5, e6, e7, e8⟩ := TB.bm
    have ncP : cStatics ≠ P := fun e => by
      obtain ⟨_, hns, _⟩ := J.nolimit
      obtain ⟨o', es, ep, ho, hd, _⟩ := hns
      rw [e, hPs] at ho
      cases ho; cases hd
    have nbP : (builtinsNs : Addr) ≠ P := fun e => by
      obtain ⟨mb, hns, _⟩ := J.mod.blt
      obtain ⟨o', es, ep, ho, hd, _⟩ := hns
      have ho := J.bk _ _ ho
      rw [e, hPs] at ho
      cases ho; cases hd
    have k3 : ∀ b u, b ≠ P → t1.heap.get? b = some u → h3.get? b = some u := fun b u hb e => hx b u hb (up b u e)
    refine wpAny_builtinsFor (m := X.mg) (by rw [J.ok.glob]; exact ((J.mod.glob.keeps J.bk).push o).extBut hx TB.gP) e1 e2 (k3 _ _ e4 (J.bk _ _ e5)) e6 e7 e8 ?_
    refine ⟨t1.heap.objs.size, [t1.heap.objs.size], [t1.heap.objs.size], a.cps.size, SignAt a, St, (fun _ => true), (fun i v => ∃ cc, a.cps[i]? = some cc ∧ v = .bool (pf z cc)), rfl, W, ?_, ?_, lim.extBut hx ncP, ?_, ?_, ?_⟩
    · refine (W X.A hr.hd).frame _ _ _ hst fun b hb u e => hx b u (fun z => ?_) e
      rcases List.mem_cons.mp hb with y | y
      · exact Nat.ne_of_lt hPlt (z.symm.trans y)
      · cases y
    · intro b hb
      rcases List.mem_cons.mp hb with z | z
      · rw [z]
        show t1.heap.objs.size < h3.objs.size
        omega
      · cases z
    · intro z
      rcases List.mem_cons.mp z with z | z
      · exact Nat.ne_of_lt hclt z
      · cases z
    · intro href hh
      refine ⟨fun A' E' i v s2 m2 hA hv hn hm hk => ?_, fun A' E' i v s2 m2 hA hv hp hn hm hk => ?_⟩
      · simp only [List.forIn_nil]
        exact wpAny_pure ⟨rfl, GxR.keeps_refl _⟩
      · obtain ⟨cc, u, hcc, rfl⟩ := hv
        have old : ∀ L, L ≠ P → ∀ q, X.base.get? L = some q → s2.heap.get? L = some q := fun L nL q e => by
          have e1 := J.bk _ _ e
          have l1 := Heap.lt_size e1
          have e2 := k3 L q nL e1
          refine hk L (List.mem_range.mpr (Heap.lt_size e2)) (fun z => ?_) q (hh L q e2)
          rcases List.mem_cons.mp z with z | z
          · rw [z] at l1; exact Nat.lt_irrefl _ l1
          · cases z
        have nm : Names2 s2.heap X.mg := ⟨J.mod.glob.at (old mainGlobals TB.gP), let ⟨mb, q1, q2⟩ := J.mod.blt; ⟨mb, q1.at (old builtinsNs nbP), q2⟩⟩
        have ncyP : cy ≠ P := fun e => by
          obtain ⟨oc, ho, hd⟩ := hic
          rw [e, hPs] at ho
          cases ho; cases hd
        have cy2 : s2.heap.IsCell cy (some (.str z tz)) := by
          obtain ⟨oc, ho, hd⟩ := hic
          have l1 := Heap.lt_size ho
          have e2 := k3 cy oc ncyP ho
          refine ⟨oc, hk cy (List.mem_range.mpr (Heap.lt_size e2)) (fun z => ?_) oc (hh cy oc e2), hd⟩
          rcases List.mem_cons.mp z with z | z
          · rw [z] at l1; exact Nat.lt_irrefl _ l1
          · cases z
        have hcy2 : (cloFrom X.env.cells scope.names []).lookup y = some cy := by rw [hcl, hcy]; rfl
        exact wpAny_mono (hel (genEnv scope (cloFrom X.env.cells scope.names []) h3.objs.size code builtinsNs X.env) A' E' cc u s2 m2 z tz cy rfl J.ok.glob rfl nm hn hm hcy2 cy2) (fun y s3 r => ⟨⟨cc, hcc, r.1⟩, r.2⟩) fun _ _ e => e
    · intro g h5 tk5 gs hgb hag hsz5 hk5 W5 hat
      simp only [GxR.passing_true, List.length_range] at W5
      refine hQ a H1 g _ hR ⟨_, _, _, _, _, W5.in4_1, hat, ?_, fun s' hm => ?_⟩
      · intro j y sj Qj Ej hy hQj
        obtain ⟨i, hij, cc, hcc, rfl⟩ := hy
        obtain ⟨hj, ej⟩ := List.getElem?_eq_some_iff.mp hij
        rw [List.getElem_range] at ej
        subst ej
        have e9 : a.cps.toList[j]? = some cc := by rw [Array.getElem?_toList]; exact hcc
        have hQ2 : Qj (trF (pf z) a.cps.toList j) sj := hQj
        rw [trF_some e9] at hQ2
        exact wpAny_truthy_bool hQ2
      · obtain ⟨more, em⟩ := hmore
        have nwr : ∀ b u, t1.heap.get? b = some u → b ∉ h3.objs.size :: [t1.heap.objs.size] := fun b u e hb => by
          have hl : b < t1.heap.objs.size := Heap.lt_size e
          rcases List.mem_cons.mp hb with z | z
          · rw [z] at hl
            exact absurd hl (Nat.not_lt.mpr (show t1.heap.objs.size ≤ h3.objs.size by omega))
          · rcases List.mem_cons.mp z with z | z
            · rw [z] at hl
              exact Nat.lt_irrefl _ hl
            · cases z
        have J2 := inv_tab (more := more) (h' := s'.heap) (g' := s'.gens) (d' := s'.drawn) (t' := s'.toks) J hP (fun b u hb e => hm.heap b u (nwr b u e) (hk5 b u (k3 b u hb e)))
          (by rw [← em]; exact hm.heap P _ (nwr P _ hPs) (hk5 P _ hP3)) (AllBare.movedS (J.bare.push hgb) hm)
        rw [sh_eta t1 s' hm.os] at J2
        refine ⟨upd H1 P (.tbl (ps ++ more)), ⟨⟨ps ++ more, upd_same, by rw [← em]; exact htq⟩, fun b hb => upd_ne hb⟩, J2⟩
  cases hf : codeAmong gpos ps.toList with
  | none =>
    refine wpAny_genexprCodeX hcode (cd.code (up _ _ hPs) htr) (cd.tab (up _ _ hPs)) hf fun c' h' tk hx hge hlt hco' _ htab' _ => ?_
    obtain ⟨o1, vs, f1, tf, fl, tg, inF, tx, tt, op, _, _, _, _, _, _, _, _, _, hz, _⟩ := hco'
    exact go _ h' tk _ hx (Nat.le_trans hge (Nat.le_of_lt hlt)) htab'.2 ⟨_, rfl⟩ hz
  | some cv =>
    refine wpAny_genexprCode_hit hcode (cd.code (up _ _ hPs) htr) hf ?_
    exact go cv (t1.heap.push o) t1.toks ps (Heap.ExtBut.refl _ _) (Nat.le_refl _) (up _ _ hPs) ⟨#[], by simp⟩ htr

/-- all(test for x in e), the test one of the sign and of the text at the slot iy -/
def tAllC (P : Addr) (iy : Nat) (pf : Str → Nat → Bool) (te : TE) : TE := fun σ H Q => ∃ z, σ[iy]? = some (some (.str z)) ∧ te σ H fun v H1 => ∃ a : Str, v = .str a ∧ TabG H1 P ∧ ∀ H2, Tabbed P H1 H2 → Q (.bl (a.cps.toList.all (pf z))) H2
theorem pe_allC {y : Str} {iy : Nat} {c P : Addr} {elt iter : Expr} {x : Str} {px p pos gpos : Pos} {scope : Scope} {pf : Str → Nat → Bool} {te : TE} {k : Nat}
    (hr : Room k X.A) (B : Blt X.mg) (TB : TabB X.base X.mg c P) (hcode : X.env.code = .ref c) (S : GenS0 scope x) (hfr : freeOk scope X.env.scope = true) (hi : PE X iter te) (hel : EltC X.prog X.w X.mg scope x y elt pf)
    (hN : X.N[iy]? = some y) (hky : X.env.kindOf y = some .cell) (hcl : ∀ cs : List (Str × Addr), (cloFrom cs scope.names []).lookup y = some ((cs.lookup y).getD 0))
    (hs : ∀ v, genFold iter X.env v = pure v) (hg : Gl X "all" := by rfl)
    (he : starEach [.GeneratorExp elt [⟨.Name x px, iter, [], 0⟩] scope gpos] X.env = (false, eval (.GeneratorExp elt [⟨.Name x px, iter, [], 0⟩] scope gpos) X.env) :: starEach [] X.env := by rfl) :
    PE X (.Call (.Name "all" p) [.GeneratorExp elt [⟨.Name x px, iter, [], 0⟩] scope gpos] [] pos) (tAllC P iy pf te) := by
  refine ⟨fun pins s σ H Q I h => ?_⟩
  obtain ⟨z, hσ, h⟩ := h
  refine wpAny_Call_Name_kw (ld_blt I hg B.all (show bootBuiltins "all" = some (.builtin "all") by decide +kernel) ?_)
  refine PyProof.Rows.callWith_builtin1 ?_ he (by rfl)
  rw [he]
  show wpAny _ _ (spliced ((false, eval (.GeneratorExp elt [⟨.Name x px, iter, [], 0⟩] scope gpos) X.env) :: backTo pos (starEach [] X.env))) _ _ s
  refine Calls.spliced_cons (gen_mkC (R := fun a H1 => ∀ H2, Tabbed P H1 H2 → Q (.bl (a.cps.toList.all (pf z))) H2) hr TB hcode (S.all I.ok hfr) hi hel hN hky hcl hσ hs I h fun a H1 g t5 hR hG => ?_)
  obtain ⟨fp, wr, G, F, St, W, hst, htr, hI⟩ := hG
  refine Calls.spliced_nil (call_all_walkS (W.self 0 _ _ _ hst ⟨g, fp, wr, G, _, F, St, _, rfl, W, hst, htr, fun s' hmv => ?_⟩))
  obtain ⟨H2, hT, J⟩ := hI s' hmv
  refine ⟨.bl _, H2, J, rfl, ?_⟩
  rw [all_signs a (pf z)]
  exact hR H2 hT
end

/-- mark in marks -/
theorem elt_in {prog : Program} {w : World} {mg : Str → Option Value} {scope : Scope} {x y : Str} {q1 q2 q3 : Pos}
    (hk : scope.kind = .function) (hl : scope.names.lookup x = some .local) (hy : scope.names.lookup y = some .free) (hd : (x == ("__debug__" : Str)) = false := by decide) (hd2 : (y == ("__debug__" : Str)) = false := by decide) (hcd : (y == ("__classdict__" : Str)) = false := by decide) :
    EltC prog w mg scope x y (.Compare (.Name x q1) [.In] [.Name y q2] q3) (fun z c => decide (c ∈ z.cps.toList)) := by
  intro ce A' E' c t s2 m2 z tz cy hs hg hb nm hn hm hcy hic
  refine wpAny_Compare1 ?_
  refine wpAny_Name (wpAny_loadName_local (by rw [hs]; exact hk) (show ce.scope.names.lookup x = some .local by rw [hs]; exact hl) hn hm ?_) hd
  refine wpAny_Name (wpAny_loadName_free (by rw [hs]; exact hk) (show ce.scope.names.lookup y = some .free by rw [hs]; exact hy) hcy hic ?_ hcd) hd2
  exact PyProof.Rows.in_str ⟨by rw [PySem.StrLaws.found_one z c], keeps_tok _ _⟩
end SC

/-! a generator expression whose element is any expression of the layer (it may call the text's defs), walked by a built-in -/
namespace SC
open PySem PySem.Spec PyProof.Rows L2 GenW
open GxR (TabB TabG Tabbed inv_tab sh_eta)

theorem over_gen {A : Around} {elt : Expr} {gs : List Comprehension} {scope : Scope} {pos : Pos} {it acc : Value} {env : Env} : A.over (.compLoop (.GeneratorExp elt gs scope pos) 0 it acc env) [] = A.deeper env := by
  obtain ⟨hd, d, fr, gd, u⟩ := A
  simp [Around.over, Around.deeper, marksOver, frameCount, unitsOf, envsOf, guardsOf, pushEnvs, pushGuards, Code.envs, Code.env?, Code.isFrame, Code.guards, Code.isGuard, Code.weight, Code.frames, Code.isCreation, Code.isCaller, Code.cUnits]
theorem over_genS {A : Around} {elt : Expr} {gs : List Comprehension} {scope : Scope} {pos : Pos} {it acc : Value} {env : Env} : A.over (.compStart (.GeneratorExp elt gs scope pos) 0 it acc env) [] = A.deeper env := by
  obtain ⟨hd, d, fr, gd, u⟩ := A
  simp [Around.over, Around.deeper, marksOver, frameCount, unitsOf, envsOf, guardsOf, pushEnvs, pushGuards, Code.envs, Code.env?, Code.isFrame, Code.guards, Code.isGuard, Code.weight, Code.frames, Code.isCreation, Code.isCaller, Code.cUnits]
/-- the frame of the generator, run from a built-in that X's body calls -/
def gxC (X : Cx) (N : List Str) (scope : Scope) (C : Addr) (code : Value) (fp : List Addr) (s4 : Shared) (H4 : Hp) : Cx where
  prog := X.prog
  w := X.w
  K := X.K
  mg := X.mg
  base := X.base
  A := X.A.in1.in1.deeper (genEnv scope (cloFrom X.env.cells scope.names []) C code builtinsNs X.env)
  N := N
  s_0 := s4
  H_0 := H4
  env := genEnv scope (cloFrom X.env.cells scope.names []) C code builtinsNs X.env
  outer := X.stack
  stack := genEnv scope (cloFrom X.env.cells scope.names []) C code builtinsNs X.env :: X.stack
  ex := fp
  fn := fun _ => false
  calm := true
  pn := []
  xe := fun _ _ => False
/-- what can be read off the scope -/
structure GnS (scope : Scope) : Prop where
  kind : scope.kind = .function
  co : scope.isCoroutine = false
  cell : ∀ y ∈ scope.names, y.2 ≠ .cell
  dot : scope.names.lookup (".0" : Str) = some NameKind.local
theorem gnOf {scope : Scope} (h : (match scope.kind with | .function => true | _ => false) && !scope.isCoroutine && (scope.names.all fun y => match y.2 with | .cell => false | _ => true) && (match scope.names.lookup (".0" : Str) with | some .local => true | _ => false) = true) : GnS scope := by
  simp only [Bool.and_eq_true, List.all_eq_true] at h
  obtain ⟨⟨⟨h1, h2⟩, h3⟩, h4⟩ := h
  refine ⟨?_, by simpa using h2, fun y hy e => ?_, ?_⟩
  · split at h1
    · assumption
    · cases h1
  · have := h3 y hy; rw [e] at this; cases this
  · split at h4
    · assumption
    · cases h4
/-- the slots behind the target's nt: captured names, with the slots of X that they have -/
def capOk (N : List Str) (nt : Nat) (fr : List Nat) (XN : List Str) (scope sc : Scope) : Bool :=
  decide (N.length = nt + fr.length) && (List.range fr.length).all fun j => match N[nt + j]?, fr[j]? with
    | some y, some i => XN[i]? == some y && (match scope.names.lookup y with | some .free => true | _ => false) && (match sc.names.lookup y with | some .cell => true | some .free => true | _ => false)
    | _, _ => false
def capSt (nt : Nat) (fr : List Nat) (σ : L2.St) : L2.St := List.replicate nt none ++ fr.map fun i => (σ[i]?).getD none
theorem clo_look {cells : List (Str × Addr)} {names : List (Str × NameKind)} {y : Str} (h : (y, NameKind.free) ∈ names) : (cloFrom cells names []).lookup y = some ((cells.lookup y).getD 0) := by
  obtain ⟨c, hc⟩ := mem_lookup (cloFrom_has (cells := cells) (acc := []) h)
  rcases cloFrom_mem (PySem.mem_of_lookup hc) with z | ⟨_, z⟩
  · cases z
  · rw [hc, z]
theorem clo_from {cells : List (Str × Addr)} {names : List (Str × NameKind)} {y : Str} {c : Addr} (h : (cloFrom cells names []).lookup y = some c) : (y, NameKind.free) ∈ names ∧ c = (cells.lookup y).getD 0 := by
  rcases cloFrom_mem (PySem.mem_of_lookup h) with z | z
  · cases z
  · exact z
section
variable {X : Cx} {pins : List (Addr × Obj)} {σ : L2.St} {H : Hp} {s : Shared}
/-- the generator's frame has been laid behind the state s4 -/
theorem gen_start {N : List Str} {nt : Nat} {fr : List Nat} {scope : Scope} {code it : Value} {fp : List Addr} {a : Addr} {go : Obj} {h' : Heap} {s5 : Shared} (hcalm : X.calm = true) (S : GnS scope) (hfr : freeOk scope X.env.scope = true) (hcap : capOk N nt fr X.N scope X.env.scope = true)
    (I : Inv X pins σ H s) (hf : ∀ b ∈ fp, FpOk X pins H b) (hlt : ∀ b ∈ fp, b < s.heap.objs.size) (hn : h'.Ns s.heap.objs.size (fun y => if y = ".0" then some it else none)) (hk : ∀ b o, s.heap.get? b = some o → s5.heap.get? b = some o)
    (hC : ∀ o, h'.get? s.heap.objs.size = some o → s5.heap.get? s.heap.objs.size = some o) (ho : s5.os = s.os) (hg : AllBare s5.gens) (hpa : s5.heap.get? a = some go) (ha : s.heap.objs.size < a) (hgo : ∀ v, go.data ≠ .cell v) :
    Inv (gxC X N scope s.heap.objs.size code fp s H) [(a, go)] (capSt nt fr σ) H s5 := by
  have ok := I.ok
  unfold capOk at hcap
  rw [Bool.and_eq_true, decide_eq_true_eq, List.all_eq_true] at hcap
  obtain ⟨hNl, hcap⟩ := hcap
  have cel : ∀ x c, (cloFrom X.env.cells scope.names []).lookup x = some c → X.env.cells.lookup x = some c := fun x c h => by
    obtain ⟨h1, h2⟩ := clo_from h
    unfold freeOk at hfr
    rw [List.all_eq_true] at hfr
    have q := hfr _ h1
    simp only at q
    have : X.env.kindOf x = some .cell ∨ X.env.kindOf x = some .free := by
      split at q
      · rename_i e; exact .inl e
      · rename_i e; exact .inr e
      · cases q
    obtain ⟨c0, h0⟩ := ok.has x this
    rw [h2, h0]; rfl
  have young : ∀ b o, X.base.get? b = some o → b ∉ fp := fun b o e hb => by
    rcases (hf b hb).2.2.2.1 with z | z
    · exact ok.noex b o e z
    · have := Heap.lt_size (ok.bs b o e).1
      exact absurd (Nat.lt_of_lt_of_le this z) (Nat.lt_irrefl _)
  have lt0 : ∀ b o, s.heap.get? b = some o → b < s.heap.objs.size := fun b o e => Heap.lt_size e
  refine ⟨⟨ok.mod, S.kind, ok.glob, rfl, Nat.le_refl _, fun x y c h1 h2 => ok.inj x y c (cel x c h1) (cel y c h2), fun x hx => ?_, fun x c h => (nomatch h), fun _ => ok.hd hcalm, Around.frames_deeper ok.frames, .inr ⟨rfl, rfl⟩, fun b hb => ?_, fun b o e => I.bs b o e, Nat.le_trans ok.bsz I.sz, young, fun b hb z => ?_, I.stack, I.stkFree⟩,
    ho, hg, Un.kept hk, ⟨_, hn.at' hC, fun i y v e1 e2 e3 => ?_⟩, fun x c h => ?_, I.hok.fresh (Nat.le_refl _), fun x c h => I.freeC x c (cel x c h), fun p hp => ?_, I.hok.kept hk, ?_⟩
  · have hx : scope.names.lookup x = some .cell ∨ scope.names.lookup x = some .free := hx
    rcases hx with hx | hx
    · exact absurd rfl (S.cell _ (PySem.mem_of_lookup hx))
    · exact ⟨_, clo_look (PySem.mem_of_lookup hx)⟩
  · refine ⟨Nat.ne_of_lt (hlt b hb), fun x c h => (hf b hb).2.2.2.2.1 x c (cel x c h)⟩
  · rcases List.mem_cons.mp (I.stkSub b z) with y | y
    · exact (hf b hb).2.1 y
    · exact (hf b hb).2.2.1 y
  · have hi : i < N.length := (List.getElem?_eq_some_iff.mp e1).1
    unfold capSt at e2
    by_cases hi2 : i < nt
    · rw [List.getElem?_append_left (by simpa using hi2), List.getElem?_replicate] at e2
      split at e2 <;> cases e2
    · obtain ⟨j, rfl⟩ : ∃ j, i = nt + j := ⟨i - nt, by omega⟩
      have hj : j < fr.length := by omega
      rw [List.getElem?_append_right (by simp), List.length_replicate, show nt + j - nt = j by omega, List.getElem?_map] at e2
      have q := hcap j (List.mem_range.mpr hj)
      rw [show N[nt + j]? = some y from e1, List.getElem?_eq_getElem hj] at q
      rw [List.getElem?_eq_getElem hj] at e2
      simp only [Bool.and_eq_true, beq_iff_eq] at q
      obtain ⟨⟨q1, q2⟩, q3⟩ := q
      have e2 : (σ[fr[j]]?).getD none = some v := Option.some.inj e2
      have e4 : σ[fr[j]]? = some (some v) := by
        cases z : σ[fr[j]]? with
        | none => rw [z] at e2; cases e2
        | some w => rw [z] at e2; exact congrArg some e2
      obtain ⟨m, _, hl⟩ := I.loc
      have kd : X.env.kindOf y = some .cell ∨ X.env.kindOf y = some .free := by
        split at q3
        · rename_i z; exact .inl z
        · rename_i z; exact .inr z
        · cases q3
      have kf : scope.names.lookup y = some .free := by
        split at q2
        · assumption
        · cases q2
      obtain ⟨u, ru, lk⟩ := hl _ y v q1 e4 (by rcases kd with z | z; exact .inr (.inl z); exact .inr (.inr z))
      refine ⟨u, ru, .inr ⟨.inr kf, ?_⟩⟩
      obtain ⟨c, hc, hcc⟩ : ∃ c, X.env.cells.lookup y = some c ∧ s.heap.IsCell c (some u) := by
        rcases lk with ⟨z, _⟩ | ⟨_, c, h1, h2⟩
        · rcases kd with w | w <;> rw [z] at w <;> cases w
        · exact ⟨c, h1, h2⟩
      refine ⟨c, ?_, ?_⟩
      · show (cloFrom X.env.cells scope.names []).lookup y = some c
        rw [clo_look (PySem.mem_of_lookup kf), hc]; rfl
      · obtain ⟨oc, hoc, hd⟩ := hcc
        exact ⟨oc, hk _ _ hoc, hd⟩
  · obtain ⟨v, oc, hoc, hd⟩ := I.cell x c (cel x c h)
    exact ⟨v, oc, hk _ _ hoc, hd⟩
  · have e : p = (a, go) := List.mem_singleton.mp hp
    subst e
    refine ⟨hpa, I.hok.fresh (Nat.le_of_lt ha), Nat.ne_of_gt ha, fun z => ?_, hgo⟩
    rcases List.mem_cons.mp (I.stkSub a z) with y | y
    · have := I.lt
      rw [← y] at this
      exact absurd (Nat.lt_trans this ha) (Nat.lt_irrefl _)
    · exact I.nofs (Nat.le_of_lt ha) y
  · unfold capSt
    rw [List.length_append, List.length_replicate, List.length_map]
    exact hNl.symm
end
/-- between two turns: what the consumer keeps for itself at the addresses of Sx may have turned, all else stands -/
structure Sl (Sx : List Addr) (s s' : Shared) : Prop where
  os : s'.os = s.os
  bare : AllBare s'.gens
  keep : ∀ b o, b ∉ Sx → s.heap.get? b = some o → s'.heap.get? b = some o
/-- the consumer's own objects, as they stand -/
def Cp (Sx : List Addr) (cp : List (Addr × Obj)) : Prop := cp.map (·.1) = Sx
theorem Inv.slept {X : Cx} {p0 cp cp' : List (Addr × Obj)} {σ : L2.St} {H : Hp} {s s' : Shared} {Sx : List Addr} (I : Inv X (p0 ++ cp) σ H s) (hc : Cp Sx cp) (hy : ∀ b ∈ Sx, X.s_0.heap.objs.size ≤ b ∧ (∀ x c, X.env.cells.lookup x = some c → c ≠ b)) (h0 : ∀ p ∈ X.pn ++ p0, p.1 ∉ Sx) (z : Sl Sx s s')
    (hc' : Cp Sx cp') (hv : ∀ p ∈ cp', s'.heap.get? p.1 = some p.2 ∧ ∀ v, p.2.data ≠ .cell v) : Inv X (p0 ++ cp') σ H s' := by
  have at_ : ∀ b ∈ Sx, ∃ p ∈ cp, p.1 = b := fun b hb => by
    rw [← hc] at hb
    obtain ⟨p, hp, e⟩ := List.mem_map.mp hb
    exact ⟨p, hp, e⟩
  have pf : ∀ b ∈ Sx, s.heap.get? b ≠ none ∧ H b = none ∧ b ≠ X.env.locals ∧ b ∉ X.fs := fun b hb => by
    obtain ⟨p, hp, rfl⟩ := at_ b hb
    obtain ⟨q1, q2, q3, q4, _⟩ := I.pin p (List.mem_append_right _ (List.mem_append_right _ hp))
    exact ⟨by rw [q1]; simp, q2, q3, q4⟩
  have I0 : Inv X p0 σ H s := I.pins_of fun p hp => I.pin p (List.mem_append_right _ (List.mem_append_left _ hp))
  obtain ⟨h', g', d', t', o'⟩ := s'
  obtain ⟨z1, z2, z3⟩ := z
  have z1 : o' = s.os := z1
  subst z1
  have nt : ∀ b u, H b = some u → b ∉ Sx := fun b u e hb => by rw [(pf b hb).2.1] at e; cases e
  have ex : ∀ b ∈ Sx, ∃ o, h'.get? b = some o := fun b hb => by
    rw [← hc'] at hb
    obtain ⟨p, hp, e⟩ := List.mem_map.mp hb
    exact ⟨p.2, by rw [← e]; exact (hv p hp).1⟩
  have J : Inv X p0 σ H { s with heap := h', gens := g', drawn := d', toks := t' } := by
    refine I0.step (g' := g') (t' := t') (d' := d') (ch := Sx) (fun b hb => ⟨.inr (hy b hb).1, (pf b hb).2.2.1, (hy b hb).2, fun p hp e => h0 p hp (by rw [e]; exact hb)⟩)
      (fun b ob _ _ hc q _ => z3 b ob hc q) (fun b ob _ _ hc q _ => ⟨ob.slots, z3 b ob hc q⟩) (fun _ _ _ _ n => n) (fun b ob hc q => ⟨ob, z3 b ob hc q⟩)
      (fun _ _ q => q) (fun _ _ _ q => q) (fun b ps q => ⟨#[], by rw [q]; simp⟩) (fun m hm => ?_) (fun b u q => ?_) z2
    · obtain ⟨ob, es, ep, ho, r⟩ := hm
      exact ⟨ob, es, ep, z3 _ ob (fun hb => (pf _ hb).2.2.1 rfl) ho, r⟩
    · refine (I0.hok b u q).stay (fun c v hc y => z3 c v ?_ y) (fun _ y => y) fun _ _ y => y
      rcases hc with y | y
      · rw [y]; exact nt b u q
      · exact nt c _ y
  refine J.pins_of fun p hp => ?_
  rcases List.mem_append.mp hp with hp | hp
  · exact J.pin p (List.mem_append_right _ hp)
  · have hb : p.1 ∈ Sx := by rw [← hc']; exact List.mem_map.mpr ⟨p, hp, rfl⟩
    obtain ⟨_, q2, q3, q4⟩ := pf _ hb
    exact ⟨(hv p hp).1, q2, q3, q4, (hv p hp).2⟩
/-- the turns: W before a turn (its number, a measure, the consumer's objects), B what the consumer gets, Dn the end -/
def GTurns (J : It) (g : TG) (tt : TT) (te : TE) (W : Nat → Nat → List (Addr × Obj) → L2.St → Hp → Prop) (B : Nat → Nat → List (Addr × Obj) → V → L2.St → Hp → Prop) (Dn : List (Addr × Obj) → L2.St → Hp → Prop) : Prop :=
  ∀ i m cp σ H, W i m cp σ H → (J.stop i H ∧ Dn cp σ H) ∨ (J.go i H ∧ ∃ (Bt : V → L2.St → Hp → Prop) (Nt : L2.St → Hp → Prop), (∀ y σ' H', Bt y σ' H' → B i m cp y σ' H') ∧ (∀ σ' H', Nt σ' H' → ∃ m', m' < m ∧ W (i + 1) m' cp σ' H') ∧
    ∀ x H', J.yld i H x H' → g x σ H' fun σ2 H2 => tt σ2 H2 fun b H3 => if b = true then te σ2 H3 (fun y H4 => Bt y σ2 H4) else Nt σ2 H3)
/-- an item is handed out -/
def YG (X : Cx) (go : Addr × Obj) (Sx : List Addr) (W : Nat → Nat → List (Addr × Obj) → L2.St → Hp → Prop) (B : Nat → Nat → List (Addr × Obj) → V → L2.St → Hp → Prop) : Protocol := fun n s₀ v s kap =>
  ∃ i m cp y σ H, Cp Sx cp ∧ (∀ p ∈ cp, s₀.heap.get? p.1 = some p.2) ∧ RelV y v ∧ Inv X (go :: cp) σ H s ∧ B i m cp y σ H ∧ m ≤ n ∧ ∀ s' m' cp', Sl Sx s s' → Cp Sx cp' → (∀ p ∈ cp', s'.heap.get? p.1 = some p.2 ∧ ∀ v, p.2.data ≠ .cell v) → m' < m → W (i + 1) m' cp' σ H → kap (.send .none) s'
def RG (X : Cx) (go : Addr × Obj) (Sx : List Addr) (Dn : List (Addr × Obj) → L2.St → Hp → Prop) : Nat → Shared → Shared → Prop := fun _ s₀ s => ∃ cp σ H, Cp Sx cp ∧ (∀ p ∈ cp, s₀.heap.get? p.1 = some p.2) ∧ Inv X (go :: cp) σ H s ∧ Dn cp σ H
section
variable {Y : Cx} {A : Around} {go : Addr × Obj} {Sx fp : List Addr} {it : Addr} {tn : Nat → Heap → Prop} {J : It} {tg elt iter : Expr} {ifs : List Expr} {scope : Scope} {gpos : Pos} {g : TG} {tt : TT} {te : TE} {W : Nat → Nat → List (Addr × Obj) → L2.St → Hp → Prop} {B : Nat → Nat → List (Addr × Obj) → V → L2.St → Hp → Prop} {Dn : List (Addr × Obj) → L2.St → Hp → Prop}
theorem seg_turns (hA : Y.A = A.deeper Y.env) (hxe : ∀ e s, Y.xe e s → False) (hcalm : Y.calm = true) (T : Turn Y.prog Y.w Y.K tg J fp it tn) (hg : PG Y tg g) (ht : PTs Y ifs tt) (he : PE Y elt te) (hco : Y.env.scope.isCoroutine = false) (turn : GTurns J g tt te W B Dn)
    (stat : ∀ (cp : List (Addr × Obj)) (H : Hp), Cp Sx cp → (∀ b ∈ fp, H b = none) → ∀ b ∈ fp, FpOk Y (go :: cp) H b) (hy : ∀ b ∈ Sx, Y.s_0.heap.objs.size ≤ b ∧ (∀ x c, Y.env.cells.lookup x = some c → c ≠ b)) (h0 : ∀ p ∈ Y.pn ++ [go], p.1 ∉ Sx) (hfs : ∀ b ∈ fp, b ∉ Sx) :
    ∀ (m n i : Nat) (s₀ s : Shared) (σ : L2.St) (H : Hp) (cp : List (Addr × Obj)), m < n → Cp Sx cp → (∀ p ∈ cp, s₀.heap.get? p.1 = some p.2) → Inv Y (go :: cp) σ H s → tn i s.heap → (∀ b ∈ fp, H b = none) → W i m cp σ H →
      Seg (model Y.prog Y.w) A (fun n s₀ r s₁ => r = .ok .next ∧ RG Y go Sx Dn n s₀ s₁) (YG Y go Sx W B) n s₀
        (.compLoop (.GeneratorExp elt [⟨tg, iter, ifs, 0⟩] scope gpos) 0 (.ref it) .none Y.env) ((model Y.prog Y.w).den (.compLoop (.GeneratorExp elt [⟨tg, iter, ifs, 0⟩] scope gpos) 0 (.ref it) .none Y.env)) [] s := by
  intro m
  induction m using Nat.strongRecOn with
  | ind m ih =>
    intro n i s₀ s σ H cp hmn hcp hs0 I st fr w
    show Seg _ A _ _ n s₀ _ ((compTurn (.GeneratorExp elt [⟨tg, iter, ifs, 0⟩] scope gpos) 0 (.ref it) .none Y.env).onRaise _) [] s
    rw [compTurn_gen, Sem.onRaise_eq_wrap]
    refine seg_bind_wrap (wpAny_standAt ?_)
    rcases turn i m cp σ H w with ⟨stop, dn⟩ | ⟨goes, Bt, Nt, hBt, hNt, step⟩
    · refine seg_bind_wrap ?_
      rw [over_gen, ← hA]
      refine thn (T.done Y rfl rfl rfl hcalm i (go :: cp) s σ H _ I (stat cp H hcp fr) st stop) fun r s4 ⟨hr, I4⟩ => ?_
      subst hr
      exact seg_end (.ok .next) ⟨rfl, cp, σ, H, hcp, hs0, I4, dn⟩
    · refine seg_bind_wrap ?_
      rw [over_gen, ← hA]
      refine thn (T.item Y rfl rfl rfl hcalm i (go :: cp) s σ H _ I (stat cp H hcp fr) st goes) fun r s4 ⟨u, hr, h4⟩ => ?_
      subst hr
      refine seg_bind_wrap ?_
      rw [over_gen, ← hA]
      refine thn h4 fun _ s5 ⟨x, H5, I5, r5, y5, st5, fr5⟩ => ?_
      have I5' := I5.pinned (stat cp H5 hcp fr5) (T.obj _ _ st5)
      refine seg_bind_wrap ?_
      rw [over_gen, ← hA]
      refine wpAny_mono (hg.run _ s5 σ H5 x u _ I5' r5 (step x H5 y5)) (fun _ s6 ⟨σ6, H6, I6, q6⟩ => ?_) fun _ _ z => (hxe _ _ z).elim
      refine seg_bind_wrap ?_
      rw [over_gen, ← hA]
      refine wpAny_mono (ht.run _ s6 σ6 H6 _ I6 q6) (fun ok s7 ⟨H7, I7, q7⟩ => ?_) fun _ _ z => (hxe _ _ z).elim
      have turned : ∀ {σ8 : L2.St} {H8 : Hp} {s8 : Shared}, Inv Y ((go :: cp) ++ pinsAt fp s5.heap) σ8 H8 s8 → tn (i + 1) s8.heap ∧ (∀ b ∈ fp, H8 b = none) ∧ Inv Y (go :: cp) σ8 H8 s8 := fun {σ8 H8 s8} I8 =>
        ⟨T.keep _ _ _ st5 fun b hb o e => (I8.pin (b, o) (List.mem_append_right _ (List.mem_append_right _ (mem_pinsAt hb e)))).1, fun b hb => by
          obtain ⟨o, e, d⟩ := T.obj _ _ st5 b hb
          exact (I8.pin (b, o) (List.mem_append_right _ (List.mem_append_right _ (mem_pinsAt hb e)))).2.1, I8.unpinned⟩
      cases ok with
      | false =>
        rw [if_neg Bool.false_ne_true] at q7
        obtain ⟨m', hm', w'⟩ := hNt _ _ q7
        simp only [Bool.false_eq_true, if_false]
        obtain ⟨t1, t2, t3⟩ := turned I7
        exact seg_again rfl (ih m' hm' n (i + 1) s₀ _ _ _ cp (by omega) hcp hs0 t3 t1 t2 w')
      | true =>
        rw [if_pos rfl] at q7
        simp only [if_true]
        have hyo : ∀ v, yieldOut Y.env v = yieldValue v := fun v => by simp only [yieldOut, hco, Bool.false_eq_true, if_false]
        simp only [hyo]
        rw [Sem.bind_eq_wrap', Sem.bind_eq_wrap', Sem.wrap_wrap, Sem.wrap_wrap]
        refine seg_wrap ?_
        rw [over_gen, ← hA]
        refine wpAny_mono (he.run _ s7 σ6 H7 _ I7 q7) (fun v s8 ⟨y, H8, I8, r8, q8⟩ => ?_) fun _ _ z => (hxe _ _ z).elim
        obtain ⟨n, rfl⟩ : ∃ k, n = k + 1 := ⟨n - 1, by omega⟩
        obtain ⟨t1, t2, t3⟩ := turned I8
        refine seg_at (seg_yield rfl rfl rfl ⟨i, m, cp, y, σ6, H8, hcp, hs0, r8, t3, hBt _ _ _ q8, by omega, fun s' m' cp' z hcp' hv hm' w' => ?_⟩)
        have I9 := Inv.slept (p0 := [go]) t3 hcp hy h0 z hcp' hv
        refine seg_again rfl (ih m' hm' n (i + 1) s' s' _ _ cp' (by omega) hcp' (fun p hp => (hv p hp).1) I9 (T.keep _ _ _ t1 fun b hb o e => z.keep b o (hfs b hb) e) t2 w')
theorem seg_turns0 (hA : Y.A = A.deeper Y.env) (hxe : ∀ e s, Y.xe e s → False) (hcalm : Y.calm = true) (T : Turn Y.prog Y.w Y.K tg J fp it tn) (hg : PG Y tg g) (ht : PTs Y ifs tt) (he : PE Y elt te) (hco : Y.env.scope.isCoroutine = false) (turn : GTurns J g tt te W B Dn)
    (stat : ∀ (cp : List (Addr × Obj)) (H : Hp), Cp Sx cp → (∀ b ∈ fp, H b = none) → ∀ b ∈ fp, FpOk Y (go :: cp) H b) (hy : ∀ b ∈ Sx, Y.s_0.heap.objs.size ≤ b ∧ (∀ x c, Y.env.cells.lookup x = some c → c ≠ b)) (h0 : ∀ p ∈ Y.pn ++ [go], p.1 ∉ Sx) (hfs : ∀ b ∈ fp, b ∉ Sx)
    {m n : Nat} {s₀ s : Shared} {σ : L2.St} {H : Hp} {cp : List (Addr × Obj)} (hmn : m < n) (hcp : Cp Sx cp) (hs0 : ∀ p ∈ cp, s₀.heap.get? p.1 = some p.2) (I : Inv Y (go :: cp) σ H s) (st : tn 0 s.heap) (fr : ∀ b ∈ fp, H b = none) (w : W 0 m cp σ H) :
      Seg (model Y.prog Y.w) A (fun n s₀ r s₁ => r = .ok .next ∧ RG Y go Sx Dn n s₀ s₁) (YG Y go Sx W B) n s₀
        (.compStart (.GeneratorExp elt [⟨tg, iter, ifs, 0⟩] scope gpos) 0 (.ref it) .none Y.env) ((model Y.prog Y.w).den (.compStart (.GeneratorExp elt [⟨tg, iter, ifs, 0⟩] scope gpos) 0 (.ref it) .none Y.env)) [] s := by
  have loop := seg_turns (iter := iter) (scope := scope) (gpos := gpos) hA hxe hcalm T hg ht he hco turn stat hy h0 hfs m n 0 s₀ s σ H cp hmn hcp hs0 I st fr w
  show Seg _ A _ _ _ s₀ _ ((compStart (.GeneratorExp elt [⟨tg, iter, ifs, 0⟩] scope gpos) 0 (.ref it) .none Y.env).onRaise _) [] s
  unfold compStart
  rw [Sem.onRaise_eq_wrap]
  show Seg _ A _ _ _ s₀ _ ((ask >>= _).wrap _ _ _ _) [] s
  refine seg_bind_wrap (wpAny_askSetting ?_)
  split
  · exact seg_again rfl loop
  · first
      | exact seg_bind_wrap (wpAny_rule (seg_bind_wrap (wpAny_standAt (seg_bind_wrap (T.self _ 0 s _ _ st (seg_again rfl loop))))))
      | (refine seg_bind_wrap (wpAny_rule ?_); show Seg _ A _ _ _ s₀ _ ((standAt iter.pos >>= _).wrap _ _ _ _) [] s; exact seg_bind_wrap (wpAny_standAt (seg_bind_wrap (T.self _ 0 s _ _ st (seg_again rfl loop)))))

theorem inv_kept {X : Cx} {pins : List (Addr × Obj)} {σ : L2.St} {H : Hp} {s s' : Shared} (I : Inv X pins σ H s) (ho : s'.os = s.os) (hg : AllBare s'.gens) (k : ∀ b o, s.heap.get? b = some o → s'.heap.get? b = some o) : Inv X pins σ H s' :=
  I.call' (ch := []) ho (Un.kept k) (I.hok.kept k) hg fun b z => absurd z (by simp)
/-- the generator at go, its number gi, sleeps -/
structure Asl (Y : Cx) (A : Around) (go : Addr × Obj) (gi : Nat) (Sx : List Addr) (W : Nat → Nat → List (Addr × Obj) → L2.St → Hp → Prop) (B : Nat → Nat → List (Addr × Obj) → V → L2.St → Hp → Prop) (Dn : List (Addr × Obj) → L2.St → Hp → Prop) (n : Nat) (s : Shared) : Prop where
  gen : s.heap.IsGen go.1 gi
  nl : s.heap.NoLimit
  gs : ∃ gs, s.gens[gi]? = some gs ∧ gs.Goes (model Y.prog Y.w) A (fun n s₀ r s₁ => r = .ok .next ∧ RG Y go Sx Dn n s₀ s₁) (YG Y go Sx W B) n (.send .none) (s.setGen gi .running)
/-- one step of it -/
theorem next_gen {gi n : Nat} {C : Around} {E : Value → Shared → Prop} {Q : Option Value → Shared → Prop} {s : Shared} (hh : C.handled = none) (hroom : C.depth < recursionLimit) (hgo : ∀ h : Heap, h.get? go.1 = some go.2 → h.IsGen go.1 gi) (a : Asl Y C.in1 go gi Sx W B Dn n s)
    (hY : ∀ (i m : Nat) cp y v σ H s', Cp Sx cp → (∀ p ∈ cp, s.heap.get? p.1 = some p.2) → RelV y v → Inv Y (go :: cp) σ H s' → B i m cp y σ H → (∀ s'' cp', Sl Sx s' s'' → s''.gens = s'.gens → Cp Sx cp' → (∀ p ∈ cp', s''.heap.get? p.1 = some p.2 ∧ ∀ v, p.2.data ≠ .cell v) → s''.heap.get? go.1 = some go.2 → s''.heap.NoLimit → ∀ m', m' < m → W (i + 1) m' cp' σ H → ∃ k, k < n ∧ Asl Y C.in1 go gi Sx W B Dn k s'') → Q (some v) s')
    (hD : ∀ cp σ H s', Cp Sx cp → (∀ p ∈ cp, s.heap.get? p.1 = some p.2) → Inv Y (go :: cp) σ H s' → Dn cp σ H → Q none s') : wpAny (model Y.prog Y.w) C (pyNext (.ref go.1)) Q E s := by
  obtain ⟨ag, al, gs, hgs, hgoes⟩ := a
  have hgl : gi < s.gens.size := (Array.getElem?_eq_some_iff.mp hgs).1
  refine wpAny_gsz (n := gi + 1) hgl (wpAny_pyNext_genexpQ (P := RG Y go Sx Dn) hh al hroom ag hgs hgoes (fun v s₁ gs' hbare hv => ?_) fun s₁ hp h' hk => ?_)
  · intro hsz
    obtain ⟨i, m, cp, y, σ, H, hcp, hs0, rv, I, hB, hmn, kap⟩ := hv
    have hsz1 : gi < s₁.gens.size := by
      have q : (s₁.setGen gi gs').gens.size = s₁.gens.size := setGen_size _ _ _
      have hsz' : gi + 1 ≤ (s₁.setGen gi gs').gens.size := hsz
      omega
    have I2 : Inv Y (go :: cp) σ H (s₁.setGen gi gs') := inv_kept I rfl (allBare_setGen I.bare hbare) fun _ _ e => e
    refine hY i m cp y v σ H _ hcp hs0 rv I2 hB fun s'' cp' z hgens hcp' hv hgo' hnl m' hm' w' => ?_
    have kk := kap (s''.setGen gi .running) m' cp' ⟨z.os, allBare_setGen z.bare rfl, fun b o hb e => z.keep b o hb e⟩ hcp' hv hm' w'
    cases n with
    | zero => exact False.elim kk
    | succ n => exact ⟨n, Nat.lt_succ_self n, hgo _ hgo', hnl, gs', by rw [hgens]; exact setGen_at hsz1, kk⟩
  · intro hsz
    obtain ⟨cp, σ, H, hcp, hs0, I, dn⟩ := hp
    exact hD cp σ H _ hcp hs0 (inv_kept I rfl (allBare_setGen I.bare rfl) hk) dn
/-- all(..) walks it -/
theorem all_loop_gen {gi : Nat} {A : Around} {R : Result → Shared → Prop} {Fl : L2.St → Hp → Prop} (hh : A.handled = none) (hroom : A.depth < recursionLimit) (hgo : ∀ h : Heap, h.get? go.1 = some go.2 → h.IsGen go.1 gi)
    (hB : ∀ i m cp y σ H, B i m cp y σ H → ∃ b, y = .bl b ∧ if b = true then ∃ m', m' < m ∧ W (i + 1) m' [] σ H else Fl σ H)
    (hF : ∀ pins σ H s, Inv Y pins σ H s → Fl σ H → R (.ok (.ret (.bool false))) s) (hT : ∀ pins σ H s cp, Inv Y pins σ H s → Dn cp σ H → R (.ok (.ret (.bool true))) s) :
    ∀ (n : Nat) (s : Shared), Asl Y A.in1.in1 go gi [] W B Dn n s → codeAny (model Y.prog Y.w) A (.builtin "all.loop" ⟨[.ref go.1], []⟩) R s := by
  intro n
  induction n using Nat.strongRecOn with
  | ind n ih =>
    intro s a
    refine codeAny_builtin F.entry_all_loop ?_
    rw [Around.under_plainId F.plain_all_loop _]
    show wpAny _ A.in1 (pyNext (.ref go.1) >>= _) _ _ s
    refine wpAny_bind (next_gen (C := A.in1) hh hroom hgo a (fun i m cp y v σ H s' hcp _ rv I hb again => ?_) fun cp σ H s' hcp _ I dn => ?_)
    · obtain ⟨b, rfl, hb'⟩ := hB i m cp y σ H hb
      obtain rfl : v = .bool b := rv
      refine wpAny_bind (wpAny_holding (wpAny_truthy_bool ?_))
      refine wpAny_bind (wpAny_letGo ?_)
      cases b with
      | true =>
        rw [if_pos rfl] at hb'
        obtain ⟨m', hm', w'⟩ := hb'
        simp only [if_true]
        have e0 : cp = [] := by
          have := congrArg List.length hcp
          rw [List.length_map] at this
          exact List.eq_nil_of_length_eq_zero this
        obtain ⟨k, hk, ak⟩ := again s' [] ⟨rfl, I.bare, fun _ _ _ e => e⟩ rfl rfl (fun p hp => nomatch hp) (I.pin go (List.mem_append_right _ List.mem_cons_self)).1 I.nolimit m' hm' w'
        exact wpAny_pure ⟨plainId_quiet F.plain_all_loop _, ih k hk s' ak⟩
      | false =>
        rw [if_neg Bool.false_ne_true] at hb'
        simp only [Bool.false_eq_true, if_false]
        exact wpAny_bind (wpAny_rule (wpAny_pure (hF _ σ H s' I hb')))
    · exact wpAny_bind (wpAny_rule (wpAny_pure (hT _ σ H s' cp I dn)))
end
section
variable {X : Cx} {pins : List (Addr × Obj)} {σ : L2.St} {H : Hp} {s : Shared} {N : List Str} {nt : Nat} {fr : List Nat} {scope : Scope}
/-- a generator that has not begun: the frame's context, where it was made -/
structure Fresh (X : Cx) (pins : List (Addr × Obj)) (σ : L2.St) (N : List Str) (nt : Nat) (fr : List Nat) (scope : Scope) (tg elt iter : Expr) (ifs : List Expr) (gpos : Pos) (J : It) (H2 : Hp) (a : Addr) (s5 : Shared) : Prop where
  ex : ∃ (s4 : Shared) (code : Value) (fp : List Addr) (it : Addr) (tn : Nat → Heap → Prop) (go : Obj) (gi : Nat),
    Inv X pins σ H2 s4 ∧ (∀ b ∈ fp, FpOk X pins H2 b) ∧ (∀ b ∈ fp, b < s4.heap.objs.size) ∧ s4.heap.objs.size < a ∧ a < s5.heap.objs.size ∧ Turn X.prog X.w X.K tg J fp it tn ∧ tn 0 s5.heap ∧ (∀ h : Heap, h.get? a = some go → h.IsGen a gi) ∧ s5.heap.get? a = some go ∧
    s5.gens[gi]? = some (.fresh (.compStart (.GeneratorExp elt [⟨tg, iter, ifs, 0⟩] scope gpos) 0 (.ref it) .none (genEnv scope (cloFrom X.env.cells scope.names []) s4.heap.objs.size code builtinsNs X.env))) ∧
    Inv (gxC X N scope s4.heap.objs.size code fp s4 H2) [(a, go)] (capSt nt fr σ) H2 s5
theorem gen_mkI {c P : Addr} {elt iter tg : Expr} {ifs : List Expr} {gpos : Pos} {wi : TI} {k : Nat} {Q' : Value → Shared → Prop} {R : It → Hp → Prop} (hcalm : X.calm = true)
    (hr : Room k X.A) (TB : TabB X.base X.mg c P) (hcode : X.env.code = .ref c) (S : GnS scope) (hfr : freeOk scope X.env.scope = true) (hcap : capOk N nt fr X.N scope X.env.scope = true) (hi : PI X tg iter wi)
    (hs : ∀ v, genFold iter X.env v = pure v) (I : Inv X pins σ H s) (h : wi σ H fun J H1 => TabG H1 P ∧ ∀ H2, Tabbed P H1 H2 → R J H2)
    (hQ : ∀ J H2 a s5, R J H2 → Fresh X pins σ N nt fr scope tg elt iter ifs gpos J H2 a s5 → Q' (.ref a) s5) :
    wpAny (model X.prog X.w) X.A (eval (.GeneratorExp elt [⟨tg, iter, ifs, 0⟩] scope gpos) X.env) Q' X.xe s := by
  have hcl : closureFor scope X.env = pure (cloFrom X.env.cells scope.names []) := closure_ok fun y hy hf => by
    refine I.ok.has y.1 ?_
    unfold freeOk at hfr
    rw [List.all_eq_true] at hfr
    have := hfr _ hy
    rw [hf] at this
    simp only at this
    split at this
    · rename_i e; exact .inl e
    · rename_i e; exact .inr e
    · cases this
  refine wpAny_GeneratorExp_make S.co hcl S.cell S.dot S.kind (by have := hr.dp; omega) ?_ hs
  refine thn (hi.run pins s σ H _ I h) fun xv s1 h1 => thn h1 fun itv s2 h2 => ?_
  obtain ⟨it, fp, tn, J, H1, e, I2, T, st2, f2, ⟨ps, hP, htr⟩, hR⟩ := h2
  subst e
  have hPs : s2.heap.get? P = some { cls := .none, data := .fields ps } := I2.hok P _ hP
  have hPlt := Heap.lt_size hPs
  have cd : PySem.W.CodeHd s2.heap c P := TB.code.keeps fun b u e => I2.bk b u e
  have fpP : ∀ b ∈ fp, b ≠ P := fun b hb e => by
    have := (f2 b hb).1
    rw [e, hP] at this
    cases this
  refine ⟨I2.nolimit, ?_⟩
  have fin : ∀ (code : Value) (h3 : Heap) (tk : Nat) (qs : Array Value), Heap.ExtBut P s2.heap h3 → s2.heap.objs.size ≤ h3.objs.size → h3.get? P = some { cls := .none, data := .fields qs } → (∃ more, qs = ps ++ more) → TriplesOk qs.toList →
      wpAny (model X.prog X.w) X.A (builtinsFor X.env.globals X.env.builtins) (fun bi s₄ =>
        ∀ h', h'.Ns s₄.heap.objs.size (fun y => if y = ".0" then some (.ref it) else none) → Heap.SameBut s₄.heap.objs.size (s₄.heap.push { cls := .type "frame", data := .dict #[] }) h' →
          Q' (.ref h'.objs.size) { s₄ with
            gens := s₄.gens.push (.fresh (.compStart (.GeneratorExp elt [⟨tg, iter, ifs, 0⟩] scope gpos) 0 (.ref it) .none (genEnv scope (cloFrom X.env.cells scope.names []) s₄.heap.objs.size code bi X.env))),
            toks := s₄.toks + 1 + 1 + 1,
            heap := h'.push { cls := .type "generator", data := .fields #[.int s₄.gens.size 0, .str "<genexpr>" (s₄.toks + 1), .str (X.env.qual ++ "<genexpr>") (s₄.toks + 1 + 1)] } }) X.xe { s2 with heap := h3, toks := tk } := by
    intro code h3 tk qs hx hsz hP3 hmore htq
    obtain ⟨bm, ob, e1, e2, e3, e4, e5, e6, e7, e8⟩ := TB.bm
    have nbP : (builtinsNs : Addr) ≠ P := fun e => by
      obtain ⟨mb, hns, _⟩ := I2.mod.blt
      obtain ⟨o', es, ep, ho, hd, _⟩ := hns
      have ho := I2.bk _ _ ho
      rw [e, hPs] at ho
      cases ho; cases hd
    refine wpAny_builtinsFor (m := X.mg) (by rw [I2.ok.glob]; exact (I2.mod.glob.keeps I2.bk).extBut hx TB.gP) e1 e2 (hx _ _ e4 (I2.bk _ _ e5)) e6 e7 e8 ?_
    obtain ⟨more, em⟩ := hmore
    intro h' hn' hs'
    have I4 := inv_tab (more := more) (h' := h3) (g' := s2.gens) (d' := s2.drawn) (t' := tk) I2 hP (fun b u hb e => hx b u hb e) (by rw [← em]; exact hP3) I2.bare
    have hsz' : h'.objs.size = h3.objs.size + 1 := by rw [hs'.1, Heap.size_push]
    have keep' : ∀ b o, h3.get? b = some o → h'.get? b = some o := fun b o e => hs'.extBut b o (Nat.ne_of_lt (Heap.lt_size e)) (Heap.get?_push_of_some _ e)
    have lt2 : ∀ b ∈ fp, b < s2.heap.objs.size := fun b hb => by
      obtain ⟨o, e, _⟩ := T.obj 0 _ st2 b hb
      exact Heap.lt_size e
    have f4 : ∀ b ∈ fp, FpOk X pins (upd H1 P (.tbl (ps ++ more))) b := fun b hb => ⟨by rw [upd_ne (fpP b hb)]; exact (f2 b hb).1, (f2 b hb).2⟩
    have lt4 : ∀ b ∈ fp, b < h3.objs.size := fun b hb => Nat.lt_of_lt_of_le (lt2 b hb) hsz
    refine hQ J (upd H1 P (.tbl (ps ++ more))) _ _ (hR _ ⟨⟨ps ++ more, upd_same, by rw [← em]; exact htq⟩, fun b hb => upd_ne hb⟩) ⟨_, code, fp, it, tn, _, s2.gens.size, I4, f4, lt4, ?_, ?_, T, ?_, fun h e => ⟨_, _, _, e, rfl, rfl, rfl⟩, Heap.get?_push_size _ rfl, Array.getElem?_push_size .., gen_start hcalm S hfr hcap I4 f4 lt4 hn' (fun b o e => Heap.get?_push_of_some _ (keep' b o e)) (fun o e => Heap.get?_push_of_some _ e) rfl (I2.bare.push rfl) (Heap.get?_push_size _ rfl) ?_ ?_⟩
    · show h3.objs.size < h'.objs.size
      omega
    · show h'.objs.size < (h'.push _).objs.size
      rw [Heap.size_push]; exact Nat.lt_succ_self _
    · exact T.keep 0 _ _ st2 fun b hb o e => Heap.get?_push_of_some _ (keep' b o (hx b o (fpP b hb) e))
    · show h3.objs.size < h'.objs.size
      omega
    · intro v z; cases z
  cases hf : codeAmong gpos ps.toList with
  | none =>
    refine wpAny_genexprCodeX hcode (cd.code hPs htr) (cd.tab hPs) hf fun c' h' tk hx hge hlt hco' _ htab' _ => ?_
    obtain ⟨o1, vs, f1, tf, fl, tg, inF, tx, tt, op, _, _, _, _, _, _, _, _, _, hz, _⟩ := hco'
    exact fin _ h' tk _ hx (Nat.le_trans hge (Nat.le_of_lt hlt)) htab'.2 ⟨_, rfl⟩ hz
  | some cv =>
    refine wpAny_genexprCode_hit hcode (cd.code hPs htr) hf ?_
    exact fin cv s2.heap s2.toks ps (Heap.ExtBut.refl _ _) (Nat.le_refl _) hPs ⟨#[], by simp⟩ htr
/-- the turns of a for, as a reading -/
def tForB (J : It) (g : TG) (tb : TS) : TS := fun D σ H => ∃ W : Nat → Nat → L2.St → Hp → Prop, (∃ m, W 0 m σ H) ∧ ∀ i m σ H, W i m σ H →
  (J.stop i H ∧ D.nx σ H) ∨ (J.go i H ∧ ∃ N : L2.St → Hp → Prop, (∀ σ' H', N σ' H' → ∃ m', m' < m ∧ W (i + 1) m' σ' H') ∧ ∀ x H', J.yld i H x H' → g x σ H' fun σ2 H2 => tb { D with nx := N, ct := N, bk := D.nx } σ2 H2)
def tbAll (tt : TT) (te : TE) : TS := fun D σ H => tt σ H fun b H3 => if b = true then te σ H3 (fun y H4 => ∃ b, y = .bl b ∧ if b = true then D.nx σ H4 else D.rt (.bl false) H4) else D.nx σ H3
/-- all(elt for tg in iter if ..); st: the captured names -/
def tAllG (P : Addr) (wi : TI) (g : TG) (tt : TT) (te : TE) (st : L2.St → L2.St) : TE := fun σ H Q => wi σ H fun J H1 => TabG H1 P ∧ ∀ H2, Tabbed P H1 H2 → tForB J g (tbAll tt te) { nx := fun _ H => Q (.bl true) H, rt := Q } (st σ) H2
theorem back_to {a : Addr} {s4 s' : Shared} {code : Value} {fp : List Addr} {H2 H' : Hp} {pp : List (Addr × Obj)} {σ' : L2.St} (I4 : Inv X pins σ H2 s4) (hf : ∀ b ∈ fp, FpOk X pins H2 b) (J : Inv (gxC X N scope a code fp s4 H2) pp σ' H' s') : Inv X pins σ H' s' :=
  I4.call' (ch := fp) J.os J.base J.hok J.bare fun b hb => ⟨(hf b hb).2.2.2.1, (hf b hb).2.1, (hf b hb).2.2.2.2.1, (hf b hb).2.2.2.2.2⟩
theorem stat_of {a : Addr} {s4 : Shared} {code : Value} {fp : List Addr} {H2 : Hp} {pp : List (Addr × Obj)} (S : GnS scope) (I4 : Inv X pins σ H2 s4) (hf : ∀ b ∈ fp, FpOk X pins H2 b) (hlt : ∀ b ∈ fp, b < s4.heap.objs.size) (hfr : freeOk scope X.env.scope = true) (ha : s4.heap.objs.size ≤ a) (hpp : ∀ p ∈ pp, s4.heap.objs.size ≤ p.1) {H' : Hp} (h0 : ∀ b ∈ fp, H' b = none) :
    ∀ b ∈ fp, FpOk (gxC X N scope a code fp s4 H2) pp H' b := fun b hb => by
  have lt := hlt b hb
  refine ⟨h0 b hb, Nat.ne_of_lt (Nat.lt_of_lt_of_le lt ha), fun z => ?_, .inl hb, fun x c h => ?_, fun p hp e => ?_⟩
  · rcases List.mem_cons.mp (I4.stkSub b z) with y | y
    · exact (hf b hb).2.1 y
    · exact (hf b hb).2.2.1 y
  · obtain ⟨h1, h2⟩ := clo_from h
    unfold freeOk at hfr
    rw [List.all_eq_true] at hfr
    have q := hfr _ h1
    simp only at q
    have : X.env.kindOf x = some .cell ∨ X.env.kindOf x = some .free := by
      split at q
      · rename_i e; exact .inl e
      · rename_i e; exact .inr e
      · cases q
    obtain ⟨c0, e0⟩ := I4.ok.has x this
    rw [h2, e0]
    exact (hf b hb).2.2.2.2.1 x c0 e0
  · have hp : p ∈ pp := by simpa [gxC] using hp
    have := hpp p hp
    rw [e] at this
    exact absurd (Nat.lt_of_lt_of_le lt this) (Nat.lt_irrefl _)
theorem pe_allG {c P : Addr} {elt iter tg : Expr} {ifs : List Expr} {p pos gpos : Pos} {wi : TI} {g : TG} {tt : TT} {te : TE} {k : Nat} (hcalm : X.calm = true) (hr : Room (k + 2) X.A) (B : Blt X.mg) (TB : TabB X.base X.mg c P) (hcode : X.env.code = .ref c)
    (S : GnS scope) (hfr : freeOk scope X.env.scope = true) (hcap : capOk N nt fr X.N scope X.env.scope = true) (hi : PI X tg iter wi)
    (hg : ∀ C code fp s4 H4, Room k (gxC X N scope C code fp s4 H4).A → PG (gxC X N scope C code fp s4 H4) tg g) (ht : ∀ C code fp s4 H4, Room k (gxC X N scope C code fp s4 H4).A → PTs (gxC X N scope C code fp s4 H4) ifs tt)
    (he : ∀ C code fp s4 H4, Room k (gxC X N scope C code fp s4 H4).A → PE (gxC X N scope C code fp s4 H4) elt te)
    (hs : ∀ v, genFold iter X.env v = pure v) (hgl : Gl X "all" := by rfl)
    (hse : starEach [.GeneratorExp elt [⟨tg, iter, ifs, 0⟩] scope gpos] X.env = (false, eval (.GeneratorExp elt [⟨tg, iter, ifs, 0⟩] scope gpos) X.env) :: starEach [] X.env := by rfl) :
    PE X (.Call (.Name "all" p) [.GeneratorExp elt [⟨tg, iter, ifs, 0⟩] scope gpos] [] pos) (tAllG P wi g tt te (capSt nt fr)) := by
  refine ⟨fun pins s σ H Q I h => ?_⟩
  have hh : X.A.handled = none := I.ok.hd hcalm
  refine wpAny_Call_Name_kw (ld_blt I hgl B.all (show bootBuiltins "all" = some (.builtin "all") by decide +kernel) ?_)
  refine PyProof.Rows.callWith_builtin1 ?_ hse (by rfl)
  rw [hse]
  show wpAny _ _ (spliced ((false, eval (.GeneratorExp elt [⟨tg, iter, ifs, 0⟩] scope gpos) X.env) :: backTo pos (starEach [] X.env))) _ _ s
  refine Calls.spliced_cons (gen_mkI (N := N) (nt := nt) (fr := fr) (R := fun J H2 => tForB J g (tbAll tt te) { nx := fun _ H => Q (.bl true) H, rt := Q } (capSt nt fr σ) H2) hcalm hr TB hcode S hfr hcap hi hs I h fun J H2 a s5 hR hF => ?_)
  refine Calls.spliced_nil ?_
  obtain ⟨s4, code, fp, it, tn, go, gi, I4, hf, hlt, ha, ha2, T, st5, hgo, hga, hgs, I5⟩ := hF
  obtain ⟨W, ⟨m0, w0⟩, turn⟩ := hR
  have hrA : Room k (gxC X N scope s4.heap.objs.size code fp s4 H2).A := by
    have r1 := hr.dp
    have r2 := hr.un
    have q1 : (gxC X N scope s4.heap.objs.size code fp s4 H2).A.depth = X.A.depth + 1 := rfl
    have q2 : (gxC X N scope s4.heap.objs.size code fp s4 H2).A.units = X.A.units + 1 + 1 + 3 := rfl
    exact ⟨hh, by omega, by omega⟩
  refine call_function_tree F.kind_all F.plain_all F.entry_all (F.args_all1 _) ?_
  unfold Builtin.«all»
  refine wpAny_bind (m := oneArg "all" _) (wpAny_pure ?_)
  refine wpAny_bind (wpAny_pyIter_gen (hgo _ hga) ?_)
  refine wpAny_pure ⟨plainId_quiet F.plain_all_loop _, ?_⟩
  have depth : X.A.depth < recursionLimit := by have := hr.dp; omega
  refine all_loop_gen (Y := gxC X N scope s4.heap.objs.size code fp s4 H2) (go := (a, go)) (gi := gi) (W := fun i m cp σ H => W i m σ H) (B := fun i m cp y σ H => ∃ b, y = .bl b ∧ if b = true then ∃ m', m' < m ∧ W (i + 1) m' σ H else Q (.bl false) H) (Dn := fun _ _ H => Q (.bl true) H) (Fl := fun _ H => Q (.bl false) H)
    hh depth hgo (fun i m cp y σ H hb => hb) (fun pp σ' H' s' J' q => ⟨.bl false, H', back_to I4 hf J', rfl, q⟩) (fun pp σ' H' s' cp J' q => ⟨.bl true, H', back_to I4 hf J', rfl, q⟩) (m0 + 1) s5 ⟨hgo _ hga, I5.nolimit, _, hgs, rfl, ?_⟩
  refine seg_turns0 (Y := gxC X N scope s4.heap.objs.size code fp s4 H2) (fp := fp) (tn := tn) (J := J) (tg := tg) (g := g) (tt := tt) (te := te) rfl (fun _ _ z => z) rfl T (hg _ _ _ _ _ hrA) (ht _ _ _ _ _ hrA) (he _ _ _ _ _ hrA) S.co (fun i m cp σ H w => ?_)
    (fun cp H' hcp h0 => stat_of S I4 hf hlt hfr (Nat.le_refl _) (fun p hp => ?_) h0) (fun b hb => absurd hb List.not_mem_nil) (fun p hp hb => absurd hb List.not_mem_nil) (fun b hb hb2 => absurd hb2 List.not_mem_nil) (Nat.lt_succ_self m0) (cp := []) rfl (fun p hp => nomatch hp) (inv_kept I5 rfl (allBare_setGen I5.bare rfl) fun _ _ e => e) st5 (fun b hb => (hf b hb).1) w0
  · rcases turn i m σ H w with ⟨q1, q2⟩ | ⟨q1, Nt, hN, q2⟩
    · exact .inl ⟨q1, q2⟩
    · refine .inr ⟨q1, fun y σ' H' => ∃ b, y = .bl b ∧ if b = true then Nt σ' H' else Q (.bl false) H', Nt, fun y σ' H' ⟨b, e, z⟩ => ⟨b, e, ?_⟩, hN, q2⟩
      cases b with
      | true => rw [if_pos rfl] at z ⊢; exact hN _ _ z
      | false => rw [if_neg Bool.false_ne_true] at z ⊢; exact z
  · have e0 : cp = [] := by
      have := congrArg List.length hcp
      rw [List.length_map] at this
      exact List.eq_nil_of_length_eq_zero this
    subst e0
    rw [List.mem_singleton.mp hp]
    exact Nat.le_of_lt ha
end
end SC

/-! several tables of code at once; the state of a law that has them -/
namespace SC
open PySem L2
def Tabs (Ts : List Addr) (H : Hp) : Prop := ∀ P ∈ Ts, GxR.TabG H P
section
variable {Ts S : List Addr} {P st p : Addr} {H0 H H' : Hp} {K : PySem.W.Frag}
theorem Tabs.kp1 (h : Tabs Ts H) (k : Kp [P] H H') (g : GxR.TabG H' P) : Tabs Ts H' := fun Q m => if e : Q = P then e ▸ g else tabG_kp (h Q m) k (by simpa using e)
theorem Tabs.kp (h : Tabs Ts H) (k : Kp S H H') (n : ∀ P ∈ Ts, P ∉ S) : Tabs Ts H' := fun Q m => tabG_kp (h Q m) k (n Q m)
theorem Tabs.kp0 (h : Tabs Ts H) (k : Kp [] H H') : Tabs Ts H' := h.kp k fun _ _ => List.not_mem_nil
theorem Tabs.ne (h : Tabs Ts H) {b : Addr} {o : HO} (e : H b = some o) (no : ∀ ps, o ≠ .tbl ps := by intro ps z; cases z) : b ∉ Ts := fun m => by
  obtain ⟨ps, q, _⟩ := h b m
  rw [e] at q
  exact no ps (Option.some.inj q)
theorem Tabs.ne0 (h : Tabs Ts H) {b : Addr} (e : H b = none) : b ∉ Ts := fun m => by
  obtain ⟨ps, q, _⟩ := h b m
  rw [e] at q
  cases q
theorem Tabs.new (h : Tabs Ts H) (e : H p = none) (o : HO) : Tabs Ts (upd H p o) := h.kp0 (Kp.new e o)
theorem Tabs.tab (h : Tabs Ts H) (t : GxR.Tabbed P H H') (m : P ∈ Ts) : Tabs Ts H' := h.kp1 (Kp.tab (h P m) t (List.mem_singleton.mpr rfl)) t.1
theorem Kp.in1 (k : Kp [P] H H') (m : P ∈ Ts) : Kp Ts H H' := k.mono fun b hb => by rw [List.mem_singleton.mp hb]; exact m
theorem Kp.in0 (k : Kp [] H H') : Kp S H H' := k.mono fun b hb => absurd hb List.not_mem_nil
theorem Kp.get {b : Addr} {o : HO} (k : Kp Ts H H') (g : Tabs Ts H) (h : H b = some o) (no : ∀ ps, o ≠ .tbl ps := by intro ps z; cases z) : H' b = some o := k.keep b o (g.ne h no) h
theorem Kp.tys {v : V} {t : String} (k : Kp Ts H H') (g : Tabs Ts H) (h : tyN H v = some t) : tyN H' v = some t := by
  cases v with
  | ref p =>
    unfold tyN at h
    simp only at h
    split at h
    · rename_i xs q; cases h; exact tyN_lst (k.get g q)
    · rename_i xs q; cases h; exact tyN_tup (k.get g q)
    · rename_i xs q; cases h; exact tyN_dK (k.get g q)
    · cases h
  | _ => exact h
theorem Kp.seqs {a : Addr} {xs : List V} (k : Kp Ts H H') (g : Tabs Ts H) (h : SqL K H a xs) : SqL K H' a xs := by
  rcases h with (h | ⟨o, h⟩) | h
  · exact .inl (.inl (k.get g h))
  · exact .inl (.inr ⟨o, k.get g h⟩)
  · exact .inr h
/-- a law's state: tables may have grown, the stream stands, all else that was there is as it was -/
structure LT (Ts : List Addr) (st : Addr) (H0 H : Hp) : Prop where
  k : Kp Ts H0 H
  g : Tabs Ts H
  s : Strm H st
  g0 : Tabs Ts H0
  fr : H0 st = none
theorem LT.ne (L : LT Ts st H0 H) : st ∉ Ts := let ⟨_, _, e⟩ := L.s; L.g.ne e
theorem LT.first (g0 : Tabs Ts H0) (h : H0 st = none) {a b : Int} : LT Ts st H0 (upd H0 st (.lst [.int a, .int b])) := ⟨Kp.new h _, g0.new h _, Strm.mk, g0, h⟩
/-- what is written: a table, or what was not there at the beginning -/
theorem LT.go (L : LT Ts st H0 H) (k : Kp S H H') (hS : ∀ b ∈ S, b ∈ Ts ∨ H0 b = none) (g : Tabs Ts H') (s : Strm H' st) : LT Ts st H0 H' := by
  refine ⟨⟨fun b o n q => ?_, fun b xs q => k.tup b xs (L.k.tup b xs q)⟩, g, s, L.g0, L.fr⟩
  refine k.keep b o (fun m => ?_) (L.k.keep b o n q)
  rcases hS b m with z | z
  · exact n z
  · rw [q] at z; cases z
theorem LT.take (L : LT Ts st H0 H) (k : Kp [st] H H') (s : Strm H' st) : LT Ts st H0 H' :=
  L.go k (fun b hb => .inr (by rw [List.mem_singleton.mp hb]; exact L.fr)) (L.g.kp k fun P m z => L.ne (by rw [← List.mem_singleton.mp z]; exact m)) s
theorem LT.tabs (L : LT Ts st H0 H) (k : Kp Ts H H') (g : Tabs Ts H') : LT Ts st H0 H' := L.go k (fun b hb => .inl hb) g (L.s.kp k L.ne)
theorem LT.kp0 (L : LT Ts st H0 H) (k : Kp [] H H') : LT Ts st H0 H' := L.go k (fun b hb => absurd hb List.not_mem_nil) (L.g.kp0 k) (L.s.kp k List.not_mem_nil)
theorem LT.new (L : LT Ts st H0 H) (h : H p = none) (o : HO) : LT Ts st H0 (upd H p o) := L.kp0 (Kp.new h o)
theorem LT.free (L : LT Ts st H0 H) (h : H p = none) : H0 p = none := by
  cases e : H0 p with
  | none => rfl
  | some o =>
    exfalso
    by_cases m : p ∈ Ts
    · exact L.g.ne0 h m
    · have := L.k.keep p o m e
      rw [h] at this; cases this
theorem LT.nst (L : LT Ts st H0 H) (h : H p = none) : p ≠ st := fun z => by
  obtain ⟨x, y, e⟩ := L.s
  rw [z, e] at h; cases h
theorem LT.seq {a : Addr} {xs : List V} (L : LT Ts st H0 H) (h : SqL K H0 a xs) : SqL K H a xs := L.k.seqs L.g0 h
theorem LT.lst (L : LT Ts st H0 H) {xs ys : List V} (h0 : H0 p = none) (h : H p = some (.lst xs)) (n : p ≠ st) : LT Ts st H0 (upd H p (.lst ys)) := by
  have k : Kp [p] H (upd H p (.lst ys)) := Kp.lst h (List.mem_singleton.mpr rfl)
  exact L.go k (fun b hb => .inr (by rw [List.mem_singleton.mp hb]; exact h0)) (L.g.kp k fun P m z => by rw [List.mem_singleton.mp z] at m; exact L.g.ne h (by intro ps z; cases z) m) (L.s.kp k (by simpa using n.symm))
end
/-- a method of the class at C that keeps its promise -/
structure CalM (P : Program) (w : World) (K : PySem.W.Frag) (mg : Str → Option Value) (base : Heap) (CX : CXT) (k : Nat) (C : Addr) (x : Str) (sp : Sp) : Prop where
  ex : ∃ f fd ps, FnOk P w K mg base CX k f fd ps sp ∧ Meth K C x f ∧ Binds K fd ps []
  cl : Cls K C
/-- a class that is made without arguments -/
structure CalK (P : Program) (w : World) (K : PySem.W.Frag) (mg : Str → Option Value) (base : Heap) (CX : CXT) (k : Nat) (C : Addr) (x : Str) (sp : Sp) : Prop where
  ex : ∃ f fd ps, FnOk P w K mg base CX k f fd ps sp ∧ Mk K C f ∧ Binds K fd ps []
  mg : mg x = some (.ref C)
section
variable {P : Program} {w : World} {K : PySem.W.Frag} {mg : Str → Option Value} {base : Heap} {CX : CXT} {C : Addr} {x : Str} {sp : Sp}
theorem CalM.mono {j k : Nat} (c : CalM P w K mg base CX j C x sp) (h : j ≤ k) : CalM P w K mg base CX k C x sp :=
  let ⟨f, fd, ps, F, m, b⟩ := c.ex
  ⟨⟨f, fd, ps, F.mono h, m, b⟩, c.cl⟩
theorem CalM.imp {k : Nat} {sp' : Sp} (c : CalM P w K mg base CX k C x sp) (h : ∀ vs H Q E, sp' vs H Q E → sp vs H Q E) : CalM P w K mg base CX k C x sp' :=
  let ⟨f, fd, ps, F, m, b⟩ := c.ex
  ⟨⟨f, fd, ps, F.imp h, m, b⟩, c.cl⟩
end
section
variable {X : Cx} {x : Str} {p pos apos : Pos} {o e : Expr} {es : List Expr} {ta : TE} {t : TA} {sp : Sp} {j k : Nat} {CX : CXT} {E : XK} {C : Addr} {pl : Sem Bool}
theorem CalM.pex (c : CalM X.prog X.w X.K X.mg X.base CX j C x sp) (hr : Room k X.A) (hx : Passes CX X E) (ho : PE X o ta) (ha : PA X (e :: es) t) (hjk : j ≤ k := by first | decide | omega)
    (hst : starEach (e :: es) X.env = (false, eval e X.env) :: starEach es X.env := by rfl) (hpl : (backTo pos (starEach es X.env)).any (·.1) = false := by rfl)
    (ht : eval (.Call (.Attribute o x apos) (e :: es) [] pos) X.env = (do
      let ov ← eval o X.env
      standAt apos.atName
      let (f, first) ← holding [ov] (getMethod ov x pl)
      callWith pos f first (backTo pos (starEach (e :: es) X.env)) (backToKw pos (keywordEach [] X.env))) := by rfl) :
    PE X (.Call (.Attribute o x apos) (e :: es) [] pos) (tMeth C x sp [] E ta t) :=
  let ⟨_, _, _, F, m, b⟩ := c.ex
  pe_meth ho c.cl m F (hr.mono hjk) b .nil hx ha hst hpl ht
theorem CalM.pe (c : CalM X.prog X.w X.K X.mg X.base CX0 j C x sp) (hr : Room k X.A) (ho : PE X o ta) (ha : PA X (e :: es) t) (hjk : j ≤ k := by first | decide | omega)
    (hst : starEach (e :: es) X.env = (false, eval e X.env) :: starEach es X.env := by rfl) (hpl : (backTo pos (starEach es X.env)).any (·.1) = false := by rfl)
    (ht : eval (.Call (.Attribute o x apos) (e :: es) [] pos) X.env = (do
      let ov ← eval o X.env
      standAt apos.atName
      let (f, first) ← holding [ov] (getMethod ov x pl)
      callWith pos f first (backTo pos (starEach (e :: es) X.env)) (backToKw pos (keywordEach [] X.env))) := by rfl) :
    PE X (.Call (.Attribute o x apos) (e :: es) [] pos) (tMeth C x sp [] E0 ta t) := c.pex hr pass0 ho ha hjk hst hpl ht
/-- of a method that may raise, where it does not -/
theorem CalM.peL (c : CalM X.prog X.w X.K X.mg X.base (L2.CX X.prog X.w) j C x sp) (hr : Room k X.A) (ho : PE X o ta) (ha : PA X (e :: es) t) (hjk : j ≤ k := by first | decide | omega)
    (hst : starEach (e :: es) X.env = (false, eval e X.env) :: starEach es X.env := by rfl) (hpl : (backTo pos (starEach es X.env)).any (·.1) = false := by rfl)
    (ht : eval (.Call (.Attribute o x apos) (e :: es) [] pos) X.env = (do
      let ov ← eval o X.env
      standAt apos.atName
      let (f, first) ← holding [ov] (getMethod ov x pl)
      callWith pos f first (backTo pos (starEach (e :: es) X.env)) (backToKw pos (keywordEach [] X.env))) := by rfl) :
    PE X (.Call (.Attribute o x apos) (e :: es) [] pos) (tMeth C x sp [] E0 ta t) := c.pex hr passL ho ha hjk hst hpl ht
theorem CalM.pe0 (c : CalM X.prog X.w X.K X.mg X.base CX0 j C x sp) (hr : Room k X.A) (ho : PE X o ta) (hjk : j ≤ k := by first | decide | omega)
    (ht : eval (.Call (.Attribute o x apos) [] [] pos) X.env = (do
      let ov ← eval o X.env
      standAt apos.atName
      let (f, first) ← holding [ov] (getMethod ov x pl)
      callWith pos f first (backTo pos (starEach [] X.env)) (backToKw pos (keywordEach [] X.env))) := by rfl) :
    PE X (.Call (.Attribute o x apos) [] [] pos) (tMeth C x sp [] E0 ta tNil) :=
  let ⟨_, _, _, F, m, b⟩ := c.ex
  pe_meth0 ho c.cl m F (hr.mono hjk) b .nil pass0 ht
theorem CalK.pe0 (c : CalK X.prog X.w X.K X.mg X.base CX0 j C x sp) (hr : Room k X.A) (hjk : j + 1 ≤ k := by first | decide | omega) (hg : Gl X x := by rfl) (hdb : (x == ("__debug__" : Str)) = false := by decide) :
    PE X (.Call (.Name x p) [] [] pos) (tMake C sp [] E0 tNil) :=
  let ⟨_, _, _, F, m, b⟩ := c.ex
  pe_make0 m F (hr.mono hjk) hg c.mg b .nil pass0 hdb
end
section
variable {X : Cx}
theorem Blt.len_d {p pos : Pos} {e : Expr} {es : List Expr} {t : TA} (B : Blt X.mg) (ha : PA X (e :: es) t) (hg : Gl X "len" := by rfl) (he : starEach (e :: es) X.env = (false, eval e X.env) :: starEach es X.env := by rfl) (hpl : (backTo pos (starEach es X.env)).any (·.1) = false := by rfl) :
    PE X (.Call (.Name "len" p) (e :: es) [] pos) (tCB rLenT t) := pe_callB call_len_dT hg B.len PySem.boot_len ha (he := he) (hpl := hpl)
end
end SC

/-! try with several clauses that name the caught error, all by one name -/
namespace SC
open PySem PySem.Spec PyProof.Rows L2
/-- one clause's class and its suite's reading -/
abbrev Clause := Value × (Addr → Value → Option Addr → TS)
/-- how the name at the slot i goes behind a suite -/
def dropE (i : Nat) (D : Ends) : Ends := { nx := fun τ G => D.nx (τ.set i none) G, rt := D.rt, bk := fun τ G => D.bk (τ.set i none) G, ct := fun τ G => D.ct (τ.set i none) G }
/-- the wishes of the clauses, from the first -/
def wClauses (K : PySem.W.Frag) (i : Nat) (out : WX) (D : Ends) : List Clause → WX
  | [] => out
  | k :: r => fun cv dd τ G => ∃ yes, PySem.W.exmOne K cv k.1 = some yes ∧ if yes = true then (∀ e, G e = none → k.2 e cv dd (dropE i D) (τ.set i (some (.ref e))) G) else wClauses K i out D r cv dd τ G
/-- the clauses as they are written, each of them with the name n -/
inductive Written (X : Cx) (n : Str) : List ExceptHandler → List Clause → Prop
  | none : Written X n [] []
  | one {cn : Str} {k : Clause} {st : Stmt} {more : List Stmt} {p1 p2 : Pos} {hs : List ExceptHandler} {ks : List Clause} (named : Names X cn k.1)
      (runs : ∀ (e : Addr) (ob : Obj) (cv : Value) (dd : Option Addr) (held : List (Addr × Obj)), Zc cv dd ob → (∃ fs, ob.data = .fields fs) → PSs (X.suite e ((e, ob) :: held)) (st :: more) (k.2 e cv dd)) (rest : Written X n hs ks) :
      Written X n (.ExceptHandler (some (.Name cn p1)) (some n) (st :: more) p2 :: hs) (k :: ks)
section
variable {X : Cx} {n : Str} {i : Nat} {body : List Stmt} {first : ExceptHandler} {others : List ExceptHandler} {ks : List Clause} {pos : Pos} {tb : WX → TS} {out : WX}
theorem ps_try_asMany (stk : X.stack = X.env :: X.outer) (frm : X.env.frame = some X.env.locals) (nodup : X.N.Nodup) (slot : X.N[i]? = some n) (isLoc : X.env.kindOf n = some .local) (leaves : Takes X out)
    (runBody : ∀ (V : WX) (held : List (Addr × Obj)) (ex : Value → Shared → Prop), Takes (X.tr held ex) V → PassesOwn (model X.prog X.w) X.A X.env ex → PSs (X.tr held ex) body (tb V))
    (clauses : Written X n (first :: others) ks) : PS X (.Try body (first :: others) [] [] pos) (fun D τ G => tb (wClauses X.K i out D ks) D τ G) := by
  refine ⟨fun held s τ G D I pre => ?_⟩
  have good := I.ok
  have around : X.A.frames = some (X.env :: X.outer) := by rw [good.frames, stk]
  refine wpAny_Try_except ?_
  let after : Value → Shared → Prop := fun ev t1 => wpAny (model X.prog X.w) X.A (noteFrame ev X.env)
    (fun _ t2 => wpAny (model X.prog X.w) X.A (setFlight ev none) (fun _ t3 => wpAny (model X.prog X.w) X.A (handleBy ev X.env (first :: others)) (SP X held D) X.xe t3) X.xe t2) X.xe t1
  refine wpAny_mono ((runBody (wClauses X.K i out D ks) (X.pn ++ held) after (fun ev t thrown => ?_) PassesOwn.looking).run [] s τ G D (I.toTry _) pre) (fun flow t done => ?_) (fun _ _ z => z)
  · obtain ⟨e, base, sT, heldT, τ1, G1, cv, dd, rfl, IT, newer, upT, skyT, freeE, osT, gensT, wish⟩ := thrown
    have I1 : Inv X held τ1 G1 sT := IT.ofTry good
    show wpAny (model X.prog X.w) X.A (noteFrame (.ref e) X.env) _ _ _
    refine Sky.land Zc.steady around frm (by rw [← stk]; exact skyT) fun hA fly upA => ?_
    have IA : Inv X held τ1 G1 { t with heap := hA } := I1.landed newer fly.1 (upT.trans upA) osT gensT
    obtain ⟨ob, fs, obAt, obZ, obF⟩ := fly.there
    have offFrames : e ∉ frs (X.env :: X.outer) := fun inFrames => by
      obtain ⟨_, ob2, at2, notFields⟩ := fly.2.2.1.mem inFrames
      rw [obAt] at at2
      exact notFields _ (Option.some.inj at2 ▸ obF)
    have offLocals : e ≠ X.env.locals := fun z => offFrames (List.mem_filterMap.mpr ⟨X.env, List.mem_cons_self, by rw [frm, z]⟩)
    have offOuter : e ∉ X.fs := fun m =>
      let ⟨en, enIn, q⟩ := List.mem_filterMap.mp m
      offFrames (List.mem_filterMap.mpr ⟨en, List.mem_cons_of_mem _ enIn, q⟩)
    have inSuite := IA.suite obAt obF freeE offLocals offOuter
    clear pre
    suffices each : ∀ {hs : List ExceptHandler} {cs : List Clause}, Written X n hs cs → wClauses X.K i out D cs cv dd τ1 G1 →
        wpAny (model X.prog X.w) X.A (handleBy (.ref e) X.env hs) (SP X held D) X.xe { t with heap := hA } from each clauses wish
    intro hs cs written
    induction written with
    | none =>
      intro goesOn
      refine wpAny_handleBy_nil ?_
      obtain ⟨_, _, _, ob3, fs3, tb3, _, _, at3, _, f3, g3, _⟩ := id fly
      unfold PySem.passOn
      refine wpAny_bind (wpAny_field at3 f3 g3 ?_)
      rw [if_neg (by simp)]
      have again : wpAny (model X.prog X.w) X.A (setFlight (.ref e) X.env.frame) (fun _ t4 => wpAny (model X.prog X.w) X.A (throw (.ref e) : Sem Flow) (SP X held D) X.xe t4) X.xe { t with heap := hA } := by
        rw [frm]
        exact HandSPX.setFlight_upZ fly fun hB heldB upB => wpAny_throw (leaves _ _ ⟨e, base, sT, held, τ1, G1, cv, dd, rfl, I1, newer, (upT.trans upA).trans upB, .inr (.inr (by rw [stk]; exact heldB)), freeE, osT, gensT, goesOn⟩)
      first
        | exact wpAny_bind (wpAny_pure (wpAny_bind again))
        | exact wpAny_bind again
    | @one cn k st more p1 p2 hs2 ks2 named runs rest ih =>
      rintro ⟨yes, match1, w2⟩
      have looks := PySem.W.exm_one (M := model X.prog X.w) IA.kIn (fun A Q E u kk q => wpAny_typeOf_ref (kk _ _ obAt) (by rw [obZ.1]; exact q) : PySem.W.Looks (model X.prog X.w) hA (typeOf (.ref e)) cv) match1
      refine wpAny_handleBy_cons (codeAny_handlers_test ?_) (by intro q; cases q)
      have reads : ∀ {Q E : Value → Shared → Prop}, Q k.1 { t with heap := hA } → wpAny (model X.prog X.w) (X.A.mark (some (.ref e))) (eval (.Name cn p1) X.env) Q E { t with heap := hA } := fun {Q E} q => by
        rcases named with ⟨gl, nodbg, isMod | ⟨isMod, isB, nn⟩⟩
        · exact ld_glob (X := X.suite e ((e, ob) :: (X.pn ++ held))) inSuite gl isMod q nodbg
        · exact ld_blt (X := X.suite e ((e, ob) :: (X.pn ++ held))) inSuite gl isMod isB q nn nodbg
      refine reads (looks.here ?_)
      cases yes with
      | false =>
        rw [if_neg (by decide)] at w2
        show wpAny _ X.A (handleBy (.ref e) X.env hs2) _ _ _
        exact ih w2
      | true =>
        rw [if_pos rfl] at w2
        refine codeAny_handlers_suite_as (HandSPX.lands_againZ fly fun hB flyB upB => ?_)
        have IB : Inv X held τ1 G1 { t with heap := hB } := I1.landed newer flyB.1 ((upT.trans upA).trans upB) osT gensT
        obtain ⟨obB, fsB, atB, zB, fB⟩ := flyB.there
        refine store_ok (X := X.suite e ((e, obB) :: (X.pn ++ held))) (v := .ref e) (IB.suite atB fB freeE offLocals offOuter) nodup slot (.inl isLoc) rfl (fun t5 I5 => ?_) (.inr isLoc)
        refine wpAny_mono ((runs e obB cv dd (X.pn ++ held) zB ⟨_, fB⟩).run [] t5 _ G1 _ I5 (w2 e freeE)) (fun flow t6 ended => ?_) (fun _ _ z => False.elim z)
        have gone : ∀ {τ6 : L2.St} {G6 : Hp} {Q : Shared → Prop}, Inv (X.suite e ((e, obB) :: (X.pn ++ held))) [] τ6 G6 t6 → (∀ t7, Inv X held (τ6.set i none) G6 t7 → Q t7) →
            wpAny (model X.prog X.w) X.A (do bindName X.env n .none; unbindBehindTheSuite X.env n p2) (fun _ t7 => Q t7) X.xe t6 := fun {τ6 G6 Q} I6 q => gone_ok (I6.unsuite good) nodup slot isLoc q
        cases flow with
        | ret u => exact let ⟨_, _, _, I6, r6, q6⟩ := ended; gone I6 fun _ I7 => ⟨_, _, _, I7, r6, q6⟩
        | next => exact let ⟨_, _, I6, q6⟩ := ended; gone I6 fun _ I7 => ⟨_, _, I7, q6⟩
        | brk => exact let ⟨_, _, I6, q6⟩ := ended; gone I6 fun _ I7 => ⟨_, _, I7, q6⟩
        | cont => exact let ⟨_, _, I6, q6⟩ := ended; gone I6 fun _ I7 => ⟨_, _, I7, q6⟩
  · cases flow with
    | ret u => exact let ⟨_, _, _, J, r, q⟩ := done; ⟨_, _, _, J.ofTry good, r, q⟩
    | next => exact let ⟨_, _, J, q⟩ := done; wpAny_execs_nil ⟨_, _, J.ofTry good, q⟩
    | brk => exact let ⟨_, _, J, q⟩ := done; ⟨_, _, J.ofTry good, q⟩
    | cont => exact let ⟨_, _, J, q⟩ := done; ⟨_, _, J.ofTry good, q⟩
end
/-- o.m(..) of a method that may raise, the wish by the slots -/
def tMethV (C : Addr) (m : Str) (sp : Sp) (E : L2.St → XK) (ta : TE) (t : TA) : TE := fun σ H Q => ta σ H fun x H1 => ∃ a dx fs, x = .ref a ∧ H1 a = some (.ins C dx fs) ∧ fs.lookup m = none ∧ t σ H1 fun vs H2 => sp (x :: vs) H2 Q (E σ)
section
variable {X : Cx} {x : Str} {pos apos : Pos} {o e : Expr} {es : List Expr} {ta : TE} {t : TA} {sp : Sp} {j k : Nat} {C : Addr} {pl : Sem Bool} {V : WX}
theorem CalM.peV (c : CalM X.prog X.w X.K X.mg X.base (L2.CX X.prog X.w) j C x sp) (hr : Room k X.A) (tk : Takes X V) (ho : PE X o ta) (ha : PA X (e :: es) t) (hjk : j ≤ k := by first | decide | omega)
    (hst : starEach (e :: es) X.env = (false, eval e X.env) :: starEach es X.env := by rfl) (hpl : (backTo pos (starEach es X.env)).any (·.1) = false := by rfl)
    (ht : eval (.Call (.Attribute o x apos) (e :: es) [] pos) X.env = (do
      let ov ← eval o X.env
      standAt apos.atName
      let (f, first) ← holding [ov] (getMethod ov x pl)
      callWith pos f first (backTo pos (starEach (e :: es) X.env)) (backToKw pos (keywordEach [] X.env))) := by rfl) :
    PE X (.Call (.Attribute o x apos) (e :: es) [] pos) (tMethV C x sp (WE V) ta t) := by
  obtain ⟨f, fd, ps, F, M, b⟩ := c.ex
  refine ⟨fun held s σ H Q I pre => PySem.W.methodCall_KW (pl := pl) (thn (ho.run held s σ H _ I pre) fun u s1 gives => ?_) ht⟩
  obtain ⟨v, H1, I1, rel, p, dx, fs, rfl, isIns, noField, args⟩ := gives
  cases (show u = Value.ref p from rel)
  refine getmeth_ok I1 isIns c.cl M noField (PySem.W.callWith_K (first := [.ref p]) (h₀ := X.base) I.ok.mod.kin M.kp (thn (ha.run pos held s1 σ H1 _ I1 args) fun us s2 told => ?_) hst hpl)
  obtain ⟨vs, H2, I2, rels, q⟩ := told
  exact ⟨I2.kIn, run_fnS (us := .ref p :: us) (vs := .ref p :: vs) F (hr.mono hjk) b (passAt tk σ) I2 (.cons rfl rels) q⟩
/-- a suite that is read under what the caught error is -/
theorem pss_given {Y : Cx} {b : List Stmt} {u : TS} {p : Prop} (h : p → PSs Y b u) : PSs Y b (fun D σ H => p ∧ u D σ H) := ⟨fun held s σ H D I both => (h both.1).run held s σ H D I both.2⟩
/-- int(b) -/
theorem call_intB : CallR X (.type "int") (fun xs H Q => ∃ k : Bool, xs = [.bl k] ∧ Q (.int (if k then 1 else 0)) H) := fun pins s σ H xs us Q I r h => call_int1 pins s σ H xs us Q I r (.inr h)
theorem Blt.int_b {p : Pos} (B : Blt X.mg) (ha : PA X (e :: es) t) (hg : Gl X "int" := by rfl) (he : starEach (e :: es) X.env = (false, eval e X.env) :: starEach es X.env := by rfl) (hpl : (backTo pos (starEach es X.env)).any (·.1) = false := by rfl) :
    PE X (.Call (.Name "int" p) (e :: es) [] pos) (tCB (fun xs H Q => ∃ k : Bool, xs = [.bl k] ∧ Q (.int (if k then 1 else 0)) H) t) :=
  pe_callTy call_intB hg B.int (by decide +kernel) ha (he := he) (hpl := hpl)
end
end SC

set_option maxHeartbeats 3200000
/-! sorted(set(xs)) and sorted(xs) of texts, of any number -/
namespace SC
open PySem PySem.Spec PyProof.Rows L2
open PySem.Froz (SD sObj TxOk addTx tailTx add_ok is_str)
section
variable {P : Program} {w : World} {A : Around} {E : Value → Shared → Prop} {s : Shared}
/-- the set at a holds the texts l, each once; its table rises and can be walked -/
structure TxR (P : Program) (w : World) (h : Heap) (a : Addr) (l : List Str) : Prop where
  ex : ∃ D, h.get? a = some (sObj "set" D) ∧ TxOk P w D l ∧ Ris D.2.2.place.toList ∧ (w.params.followText "set-order" = true ∨ D.2.2.led = true)
  nd : l.Nodup
theorem TxR.at {h h' : Heap} {a : Addr} {l : List Str} (R : TxR P w h a l) (k : ∀ o, h.get? a = some o → h'.get? a = some o) : TxR P w h' a l :=
  let ⟨D, e, r⟩ := R.ex
  ⟨⟨D, k _ e, r⟩, R.nd⟩
/-- the set that set() makes, before the first item -/
abbrev newSetObj (w : World) : Obj := { cls := .type "set", dict := none, data := .set #[] 0 (.fresh 0 0 (!w.params.followText "set-order")) }
theorem TxR.fresh {h : Heap} {a : Addr} (e : h.get? a = some (newSetObj w)) : TxR P w h a [] := by
  refine ⟨⟨(#[], 0, .fresh 0 0 (!w.params.followText "set-order")), e, TxOk.nil rfl, List.Pairwise.nil, ?_⟩, List.nodup_nil⟩
  show _ ∨ (!w.params.followText "set-order") = true
  cases w.params.followText "set-order" <;> simp
theorem addTx_walk {hs : Int} {v : Value} {D : SD} (r : Ris D.2.2.place.toList) (g : w.params.followText "set-order" = true ∨ D.2.2.led = true) :
    Ris (addTx hs v D).2.2.place.toList ∧ (w.params.followText "set-order" = true ∨ (addTx hs v D).2.2.led = true) := by
  obtain ⟨es, ep, t⟩ := D
  have r1 := layNew_ris t es hs v r
  have l1 := layNew_led t es hs v
  unfold addTx tailTx
  dsimp only
  generalize layNew t es hs v = L at r1 l1 ⊢
  obtain ⟨e1, t1, wd, gv⟩ := L
  dsimp only at r1 l1 ⊢
  have r2 : Ris (if t1.plain = true then { t1 with plain := false } else t1).place.toList := by split <;> exact r1
  have l2 : (if t1.plain = true then { t1 with plain := false } else t1).led = t.led := by split <;> exact l1
  generalize (if t1.plain = true then { t1 with plain := false } else t1) = t2 at r2 l2 ⊢
  split
  · refine ⟨relayAll_ris t2 e1 _, g.imp id fun q => ?_⟩
    rw [relayAll_led, l2]; exact q
  · exact ⟨r2, g.imp id fun q => by rw [l2]; exact q⟩
/-- one text is put in -/
theorem TxR.add {a : Addr} {l : List Str} {k : Str} {u : Tok} {Q : Bool → Shared → Prop} (R : TxR P w s.heap a l) (few : l.length + 1 < scanBound)
    (q : ∀ h' b, Heap.SameBut a s.heap h' → TxR P w h' a (if k ∈ l then l else k :: l) → Q b { s with heap := h' }) : wpAny (model P w) A (setAddHashed a (.str k u) (hashStr w k)) Q E s := by
  obtain ⟨D, at_, ok, ris, walk⟩ := R.ex
  by_cases m : k ∈ l
  · obtain ⟨es, ep, t⟩ := D
    have few0 : es.size < scanBound := by have : es.size = l.length := ok.sz; omega
    unfold setAddHashed setAddHashedIn
    refine wpAny_holding (wpAny_bind (wpAny_setState_of at_ (show (sObj "set" (es, ep, t)).data = .set es ep t from rfl) ok.fit ?_))
    dsimp only
    rw [byScan_of (x := Value.str k u) rfl few0 ok.el, if_pos rfl]
    unfold setAddByScan
    refine wpAny_bind (wpAny_bind (wpAny_rule (wpAny_bind (wpAny_setScan_of (knd := strKind P w) (k := k) (is_str k u) at_ (show (sObj "set" (es, ep, t)).data = .set es ep t from rfl) ok.fit ok.el ?_))))
    obtain ⟨e, he, hp⟩ := (ok.mem k).mp m
    cases fnd : List.findIdx? (fun e => (strKind P w).is k e.2) es.toList with
    | none =>
      have := List.findIdx?_eq_none_iff.mp fnd e he
      rw [hp] at this; cases this
    | some j =>
      have z := q s.heap false (Heap.SameBut.refl a s.heap) (by rw [if_pos m]; exact R)
      exact wpAny_pure (wpAny_pure z)
  · refine PySem.Froz.add_x at_ ok m few (q _ _ ?_ ?_)
    · exact ⟨by rw [Heap.size_update], fun b hb => Heap.get?_update_other _ _ (Ne.symm hb)⟩
    · rw [if_neg m]
      exact ⟨⟨addTx (hashStr w k) (.str k u) D, PySem.Froz.get_upd _ at_ rfl, add_ok u ok, addTx_walk ris walk⟩, List.nodup_cons.mpr ⟨m, R.nd⟩⟩
/-- what the first i of xs make of the set at S -/
def Upto (P : Program) (w : World) (S : Addr) (xs : List Str) (i : Nat) (h : Heap) : Prop := ∃ l, TxR P w h S l ∧ (∀ z, z ∈ l ↔ z ∈ xs.take i) ∧ l.length ≤ i
theorem Upto.at {h h' : Heap} {S : Addr} {xs : List Str} {i : Nat} (u : Upto P w S xs i h) (k : ∀ o, h.get? S = some o → h'.get? S = some o) : Upto P w S xs i h' := let ⟨l, r, m⟩ := u; ⟨l, r.at k, m⟩
theorem Upto.more {h' : Heap} {S : Addr} {xs l : List Str} {i : Nat} {z : Str} (at_ : xs[i]? = some z) (mem : ∀ y, y ∈ l ↔ y ∈ xs.take i) (len : l.length ≤ i) (R : TxR P w h' S (if z ∈ l then l else z :: l)) : Upto P w S xs (i + 1) h' := by
  refine ⟨_, R, fun y => ?_, ?_⟩
  · rw [List.take_add_one, at_, List.mem_append, Option.toList_some, List.mem_singleton, ← mem y]
    split
    · rename_i m
      exact ⟨.inl, fun q => q.elim id fun e => by rw [e]; exact m⟩
    · rw [List.mem_cons]
      exact or_comm
  · split
    · omega
    · exact Nat.succ_le_succ len
theorem loop_txts {it S : Addr} {fp wr : List Addr} {G : Array GenState → Array GenState → Prop} {n : Nat} {Pv : Nat → Value → Prop} {St : Nat → Shared → Prop} {R : Result → Shared → Prop} {xs : List Str}
    (W : WalksS P w A.in1 it fp wr G n Pv St) (off : S ∉ fp) (len : n = xs.length) (few : xs.length + 1 < scanBound) (vals : ∀ i v, Pv i v → ∃ z u, xs[i]? = some z ∧ v = Value.str z u) :
    ∀ (k i : Nat) (s : Shared), n - i = k → i ≤ n → St i s → Upto P w S xs i s.heap → (∀ s', Moved (S :: wr) G s s' → Upto P w S xs n s'.heap → R (.ok (.ret .none)) s') →
      codeAny (model P w) A (.builtin "set.update.loop" ⟨[.ref S, .ref it], []⟩) R s := by
  have offW : S ∉ wr := fun m => off (W.sub _ m)
  intro k
  induction k with
  | zero =>
    intro i s left le st up out
    obtain rfl : i = n := by omega
    refine codeAny_builtin F.entry_set_update_loop (by
      rw [Around.under_plainId F.plain_set_update_loop _]
      exact wpAny_bind (m := pyNext (.ref it)) (W.done s _ _ st fun s' moved => wpAny_pure (out s' (moved.mono fun b hb => List.mem_cons_of_mem _ hb) (up.at fun o e => moved.heap S o offW e))))
  | succ k ih =>
    intro i s left le st up out
    have lt : i < n := by omega
    refine codeAny_builtin F.entry_set_update_loop (by
      rw [Around.under_plainId F.plain_set_update_loop _]
      refine wpAny_bind (m := pyNext (.ref it)) (W.item i s _ _ lt st fun v s' is_ st' moved => ?_)
      obtain ⟨z, u, at_, rfl⟩ := vals i v is_
      obtain ⟨l, tr, mem, ll⟩ := up.at (h' := s'.heap) fun o e => moved.heap S o offW e
      refine wpAny_bind (m := holding [Value.str z u] (setAdd S (.str z u))) (wpAny_holding ?_)
      unfold setAdd
      refine wpAny_holding (wpAny_bind ((strKind P w).pyHash (k := z) (is_str z u) ?_))
      refine TxR.add (s := { s' with toks := s'.toks + 1 }) tr (by omega) fun h' b same R2 => ?_
      have frame : ∀ c ∈ fp, ∀ o, s'.heap.get? c = some o → h'.get? c = some o := fun c hc o e => by rw [same.2 c (fun z : c = S => off (by rw [← z]; exact hc))]; exact e
      refine wpAny_pure ⟨plainId_quiet F.plain_set_update_loop _, ih (i + 1) _ (by omega) lt (W.frame _ s' _ _ st' (Nat.le_succ _) frame) (Upto.more at_ mem ll R2) fun s2 moved2 up2 => out s2 (Moved.trans W.gtrans (((moved.mono fun b hb => List.mem_cons_of_mem _ hb)).then_heap (Nat.le_succ _) fun b o off2 e => ?_) moved2) up2⟩
      rw [same.2 b fun z : b = S => off2 (by rw [z]; exact List.mem_cons_self)]
      exact e)
local macro_rules | `(tactic| walk_at "go") => `(tactic| repeat (any_goals (first | assumption | wp_step)))
/-- set(xs), xs a list of texts -/
theorem set_of_txts {l : Addr} {items : Array Value} {xs : List Str} {Q : Value → Shared → Prop} (hh : A.handled = none) (isL : s.heap.IsList l items) (txt : StrsAre items.toList xs) (few : xs.length + 1 < scanBound)
    (q : ∀ (h' : Heap) (tk : Nat), Upto P w s.heap.objs.size xs xs.length h' → (∀ b o, s.heap.get? b = some o → h'.get? b = some o) → Q (.ref s.heap.objs.size) { s with heap := h', toks := tk }) :
    wpAny (model P w) A (call (.type "set") [.ref l]) Q E s := by
  have size : items.size = xs.length := by have z := StrsAre.length txt; rwa [Array.length_toList] at z
  let S := s.heap.objs.size
  let h1 := s.heap.push (newSetObj w)
  have at1 : h1.get? S = some (newSetObj w) := Heap.get?_push_size _ rfl
  have size1 : h1.objs.size = S + 1 := Heap.size_push ..
  obtain ⟨c, tl, mro⟩ := F.called_set.mro
  have made := F.called_set.made
  have sub := F.called_set.sub
  refine wpAny_call (codeAny_of_tree (wpAny_pure ⟨Code.quiet_builtin _ (by decide +kernel), codeAny_builtin F.entry_type_call ?_⟩))
  rw [Around.under_plain (weight_type_call_type "set" [.ref l] []) rfl]
  have nt := F.called_set.notType
  have cc := F.called_set.canCreate
  have tc := F.typeCall_set_1 (.ref l)
  walk_at "go"
  refine codeAny_mono (code_set_led1 (.ref l) (E := E) (Q₁ := fun obj t => obj = .ref S ∧ t = { s with heap := h1 }) ⟨rfl, rfl⟩) fun r t hr => ?_
  cases r with
  | error e => exact hr
  | ok fl =>
    cases fl with
    | next => exact hr.elim
    | brk => exact hr.elim
    | cont => exact hr.elim
    | ret obj =>
      obtain ⟨rfl, rfl⟩ := hr
      have ty : Shared.TypeIs { s with heap := h1 } (.ref S) "set" := ⟨_, at1, rfl⟩
      have li := F.called_set.init.lookup
      have bi := F.called_set.init.bind (.ref S)
      walk_at "go"
      refine codeAny_mono (codeAny_call_builtin (R := wants (fun r t2 => r = .none ∧ ∃ h' tk, t2 = { s with heap := h', toks := tk } ∧ Upto P w S xs xs.length h' ∧ ∀ b o, s.heap.get? b = some o → h'.get? b = some o) E) F.called_set.init.plain F.entry_set_init (check_set_init_1 ty ?_)) fun r2 t2 hr2 => ?_
      · obtain ⟨⟨cls, dct, dat, sls⟩, got, isCls, nn, isDat⟩ := isL
        simp only at isCls isDat
        subst isCls isDat
        have got1 : h1.get? l = some { cls := .type "list", dict := dct, data := .seq items nn, slots := sls } := Heap.get?_push_of_some _ got
        have q1 := F.sub_list_set
        have q2 := F.sub_list_frozenset
        have q3 : (Value.type "list" == Value.type "dict") = false := by decide
        have isL1 : h1.IsList l items := ⟨_, got1, rfl, nn, rfl⟩
        have ltS : l < S := Heap.lt_size got
        unfold Builtin.«set.__init__» noKeywords Builtin.Frozenset.updateFrom
        generalize keepIter : pyIter = PI
        wp_walk
        subst keepIter
        refine wpAny_pyIter_list isL1 (wpAny_bind (wpAny_runValue ?_))
        have calm : A.in1.in1.in1.handled = none := by simp [hh]
        have neIt : l ≠ h1.objs.size := by rw [size1]; exact Nat.ne_of_lt (Nat.lt_succ_of_lt ltS)
        have off : S ∉ [h1.objs.size, l] := by
          rw [size1]
          intro m
          rcases List.mem_cons.mp m with z | z
          · exact Nat.ne_of_lt (Nat.lt_succ_self _) z
          · exact Nat.ne_of_gt ltS (List.mem_singleton.mp z)
        have vals : ∀ (i : Nat) (v : Value), items[i]? = some v → ∃ z u, xs[i]? = some z ∧ v = Value.str z u := fun i v hv => by
          have hi : i < xs.length := by rw [← size]; exact (Array.getElem?_eq_some_iff.mp hv).1
          obtain ⟨u, e⟩ := SS.strs_at txt i v (by rw [Array.getElem?_toList]; exact hv)
          refine ⟨xs[i], u, List.getElem?_eq_getElem hi, e.trans ?_⟩
          rw [List.getD_eq_getElem?_getD, List.getElem?_eq_getElem hi]
          all_goals rfl
        refine loop_txts (xs := xs) (P := P) (w := w) ((Walks.list calm _ l neIt items).toS) off size few vals (items.size - 0) 0 _ (by omega) (Nat.zero_le _) ⟨⟨_, Heap.get?_push_size _ rfl, rfl, rfl⟩, isL1.push _⟩ ?first ?last
        case first => exact ⟨[], TxR.fresh (Heap.get?_push_of_some _ at1), fun z => by simp, Nat.le_refl _⟩
        case last =>
          rintro ⟨h', g', d', tk', os'⟩ moved up
          obtain rfl : g' = s.gens := moved.gens
          obtain rfl : d' = s.drawn := moved.drawn
          obtain rfl : os' = s.os := moved.os
          rw [size] at up
          refine wpAny_pure (wpAny_pure ⟨rfl, h', tk', rfl, up, fun b o e => ?_⟩)
          have ltb : b < S := Heap.lt_size e
          refine moved.heap b o (fun m => ?_) (Heap.get?_push_of_some _ (Heap.get?_push_of_some _ e))
          rcases List.mem_cons.mp m with z | z
          · exact Nat.ne_of_lt ltb z
          · have z := List.mem_singleton.mp z
            rw [size1] at z
            exact absurd z (Nat.ne_of_lt (Nat.lt_succ_of_lt ltb))
      · cases r2 with
        | error e => exact hr2
        | ok fl2 =>
          cases fl2 with
          | next => exact hr2.elim
          | brk => exact hr2.elim
          | cont => exact hr2.elim
          | ret r =>
            obtain ⟨rfl, h', tk, rfl, up, kept⟩ := hr2
            walk_at "go"
            exact q _ _ up kept
end
end SC

namespace SC
open PySem PySem.Spec PyProof.Rows L2
open PySem.Froz (SD sObj TxOk)
/-! the order of texts -/
def lt (x y : Str) : Bool := ltCps (TL.tl x) (TL.tl y)
theorem ltc_irr : ∀ a : List Nat, ltCps a a = false
  | [] => rfl
  | x :: r => by
    show (decide (x < x) || (x == x && ltCps r r)) = false
    rw [ltc_irr r, decide_eq_false (Nat.lt_irrefl x), Bool.and_false]; rfl
theorem ltc_trans : ∀ a b c : List Nat, ltCps a b = true → ltCps b c = true → ltCps a c = true
  | [], [], _, h, _ => by cases h
  | [], _ :: _, [], _, h => by cases h
  | [], _ :: _, _ :: _, _, _ => rfl
  | _ :: _, [], _, h, _ => by cases h
  | _ :: _, _ :: _, [], _, h => by cases h
  | x :: a, y :: b, z :: c, h1, h2 => by
    have k1 : (decide (x < y) || (x == y && ltCps a b)) = true := h1
    have k2 : (decide (y < z) || (y == z && ltCps b c)) = true := h2
    show (decide (x < z) || (x == z && ltCps a c)) = true
    clear h1 h2
    simp only [Bool.or_eq_true, Bool.and_eq_true, decide_eq_true_eq, beq_iff_eq] at k1 k2 ⊢
    rcases k1 with k1 | ⟨e1, k1⟩
    · rcases k2 with k2 | ⟨e2, _⟩
      · exact .inl (Nat.lt_trans k1 k2)
      · exact .inl (by omega)
    · rcases k2 with k2 | ⟨e2, k2⟩
      · exact .inl (by omega)
      · exact .inr ⟨e1.trans e2, ltc_trans a b c k1 k2⟩
theorem ltc_tri : ∀ a b : List Nat, a = b ∨ ltCps a b = true ∨ ltCps b a = true
  | [], [] => .inl rfl
  | [], _ :: _ => .inr (.inl rfl)
  | _ :: _, [] => .inr (.inr rfl)
  | x :: a, y :: b => by
    show _ ∨ (decide (x < y) || (x == y && ltCps a b)) = true ∨ (decide (y < x) || (y == x && ltCps b a)) = true
    simp only [Bool.or_eq_true, Bool.and_eq_true, decide_eq_true_eq, beq_iff_eq]
    rcases Nat.lt_trichotomy x y with h | rfl | h
    · exact .inr (.inl (.inl h))
    · rcases ltc_tri a b with rfl | h | h
      · exact .inl rfl
      · exact .inr (.inl (.inr ⟨rfl, h⟩))
      · exact .inr (.inr (.inr ⟨rfl, h⟩))
    · exact .inr (.inr (.inl h))
theorem lt_irr (x : Str) : lt x x = false := ltc_irr _
theorem lt_trans {x y z : Str} (h1 : lt x y = true) (h2 : lt y z = true) : lt x z = true := ltc_trans _ _ _ h1 h2
theorem lt_tri (x y : Str) : x = y ∨ lt x y = true ∨ lt y x = true := (ltc_tri (TL.tl x) (TL.tl y)).imp TL.ext_tl id
theorem lt_asym {x y : Str} (h : lt x y = true) : lt y x = false := by
  cases e : lt y x with
  | false => rfl
  | true =>
    have := lt_trans h e
    rw [lt_irr] at this; cases this
/-- strictly ascending -/
def asc : List Str → Bool
  | [] => true
  | x :: r => (match r with | [] => true | y :: _ => lt x y) && asc r
theorem asc_cons {x : Str} {r : List Str} : asc (x :: r) = true ↔ (∀ y ∈ r, lt x y = true) ∧ asc r = true := by
  induction r generalizing x with
  | nil => exact ⟨fun _ => ⟨fun y h => absurd h List.not_mem_nil, rfl⟩, fun _ => rfl⟩
  | cons y r ih =>
    show (lt x y && asc (y :: r)) = true ↔ _
    rw [Bool.and_eq_true]
    constructor
    · rintro ⟨h1, h2⟩
      refine ⟨fun z hz => ?_, h2⟩
      rcases List.mem_cons.mp hz with rfl | hz
      · exact h1
      · exact lt_trans h1 ((ih.mp h2).1 z hz)
    · rintro ⟨h1, h2⟩
      exact ⟨h1 y List.mem_cons_self, h2⟩
theorem asc_nodup : ∀ {l : List Str}, asc l = true → l.Nodup
  | [], _ => List.nodup_nil
  | x :: r, h => by
    obtain ⟨h1, h2⟩ := asc_cons.mp h
    refine List.nodup_cons.mpr ⟨fun m => ?_, asc_nodup h2⟩
    have := h1 x m
    rw [lt_irr] at this; cases this
/-- an ascending list is known by its members -/
theorem asc_eq : ∀ {l m : List Str}, asc l = true → asc m = true → (∀ z, z ∈ l ↔ z ∈ m) → l = m
  | [], [], _, _, _ => rfl
  | [], y :: _, _, _, h => absurd ((h y).mpr List.mem_cons_self) List.not_mem_nil
  | x :: _, [], _, _, h => absurd ((h x).mp List.mem_cons_self) List.not_mem_nil
  | x :: l, y :: m, h1, h2, h => by
    obtain ⟨a1, a2⟩ := asc_cons.mp h1
    obtain ⟨b1, b2⟩ := asc_cons.mp h2
    have e : x = y := by
      rcases List.mem_cons.mp ((h x).mp List.mem_cons_self) with e | e
      · exact e
      rcases List.mem_cons.mp ((h y).mpr List.mem_cons_self) with e2 | e2
      · exact e2.symm
      have := lt_asym (b1 x e)
      rw [a1 y e2] at this; cases this
    subst e
    congr 1
    refine asc_eq a2 b2 fun z => ?_
    constructor
    · intro hz
      rcases List.mem_cons.mp ((h z).mp (List.mem_cons_of_mem _ hz)) with e | e
      · subst e
        have := a1 z hz
        rw [lt_irr] at this; cases this
      · exact e
    · intro hz
      rcases List.mem_cons.mp ((h z).mpr (List.mem_cons_of_mem _ hz)) with e | e
      · subst e
        have := b1 z hz
        rw [lt_irr] at this; cases this
      · exact e
theorem rise_cons : ∀ (p : Str) (l : List Str), risingS p l = true → (p :: l).Nodup → asc (p :: l) = true
  | _, [], _, _ => rfl
  | p, x :: r, h, n => by
    have h : (!ltCps x.cps.toList p.cps.toList && risingS x r) = true := h
    rw [Bool.and_eq_true] at h
    show (lt p x && asc (x :: r)) = true
    rw [rise_cons x r h.2 (List.nodup_cons.mp n).2, Bool.and_true]
    rcases lt_tri p x with e | e | e
    · exact absurd (by rw [e]; exact List.mem_cons_self) (List.nodup_cons.mp n).1
    · exact e
    · have e : ltCps x.cps.toList p.cps.toList = true := e
      rw [e] at h; cases h.1
theorem asc_of {l : List Str} (h : sortedS l = true) (n : l.Nodup) : asc l = true := by
  cases l with
  | nil => rfl
  | cons x r => exact rise_cons x r h n
theorem perm_sub {α : Type} [DecidableEq α] : ∀ (l m : List α), l.Nodup → (∀ x ∈ l, x ∈ m) → m.length ≤ l.length → l.Perm m
  | [], m, _, _, h => by
    have : m = [] := List.eq_nil_of_length_eq_zero (Nat.le_zero.mp h)
    rw [this]
  | x :: l, m, n, s, h => by
    obtain ⟨n1, n2⟩ := List.nodup_cons.mp n
    have hx := s x List.mem_cons_self
    have p := List.perm_cons_erase hx
    refine ((perm_sub l (m.erase x) n2 (fun y hy => ?_) ?_).cons x).trans p.symm
    · exact (List.mem_erase_of_ne (fun e => n1 (by rw [← e]; exact hy))).mpr (s y (List.mem_cons_of_mem _ hy))
    · have := p.length_eq
      rw [List.length_cons] at this
      rw [List.length_cons] at h
      omega
section
variable {P : Program} {w : World} {A : Around} {E : Value → Shared → Prop} {s : Shared}
def txtOf : Value → Str
  | .str z _ => z
  | _ => Str.empty
theorem strsAre_map : ∀ (vs : List Value), (∀ v ∈ vs, ∃ z u, v = Value.str z u) → StrsAre vs (vs.map txtOf)
  | [], _ => .nil
  | v :: r, h => by
    obtain ⟨z, u, rfl⟩ := h v List.mem_cons_self
    exact .cons z u (strsAre_map r fun y hy => h y (List.mem_cons_of_mem _ hy))
/-- sorted(S), S a set of texts -/
theorem sorted_txts {a : Addr} {l : List Str} {Q : Value → Shared → Prop} (R : TxR P w s.heap a l) (few : l.length < scanBound) (hh : A.handled = none)
    (q : ∀ (s' : Shared) (p : Addr) (out : Array Value) (c : Nat) (ys : List Str), (∀ b o, s.heap.get? b = some o → s'.heap.get? b = some o) → s'.gens = s.gens → s'.os = s.os → s.heap.objs.size ≤ p → s'.heap.get? p = some (seqObj "list" out c) → StrsAre out.toList ys → ys.Perm l → sortedS ys = true → Q (.ref p) s') :
    wpAny (model P w) A (call (.builtin "sorted") [.ref a]) Q E s := by
  obtain ⟨⟨es, ep, t⟩, at_, ok, ris, walk⟩ := R.ex
  have size : es.size = l.length := ok.sz
  refine Calls.call_function_entry kind_sorted plain_sorted entry_sorted (args_sorted1 _) ?_
  unfold Builtin.«sorted»
  refine wpAny_bind (m := checkCount "sorted" 1 1 _) (wpAny_pure (wpAny_bind (collect_set (A := A.in1) hh ⟨_, at_, rfl, rfl⟩ ok.fit (by rw [size]; exact few) ris walk fun s1 vs kept bigger gens os perm => ?_)))
  have lenV : vs.length = l.length := by rw [perm.length_eq, List.length_map, Array.length_toList]; exact size
  have allT : ∀ v ∈ vs, ∃ z u, v = Value.str z u ∧ z ∈ l := fun v hv => by
    obtain ⟨e, he, rfl⟩ := List.mem_map.mp (perm.mem_iff.mp hv)
    obtain ⟨⟨k, isK, _⟩, _⟩ := ok.el e he
    have m : k ∈ l := (ok.mem k).mpr ⟨e, he, isK⟩
    have isK : Value.isStrOf k e.2 = true := isK
    cases q : e.2 <;> rw [q] at isK <;> first | (cases isK; done) | skip
    rename_i z u
    have : z = k := by simpa [Value.isStrOf] using isK
    exact ⟨z, u, rfl, by rw [this]; exact m⟩
  have txt := strsAre_map vs fun v hv => let ⟨z, u, e, _⟩ := allT v hv; ⟨z, u, e⟩
  have permL : (vs.map txtOf).Perm l := by
    refine (perm_sub l (vs.map txtOf) R.nd (fun z hz => ?_) (by rw [List.length_map, lenV]; exact Nat.le_refl _)).symm
    obtain ⟨e, he, isK⟩ := (ok.mem z).mp hz
    have mv : e.2 ∈ vs := perm.mem_iff.mpr (List.mem_map.mpr ⟨e, he, rfl⟩)
    obtain ⟨y, u, ey, _⟩ := allT _ mv
    have isK : Value.isStrOf z e.2 = true := isK
    rw [ey] at isK mv
    have : y = z := by simpa [Value.isStrOf] using isK
    exact List.mem_map.mpr ⟨_, mv, this⟩
  have fits : vs.length ≤ sizeLine := by rw [lenV]; exact Nat.le_trans (Nat.le_of_lt few) (by rw [sizeLine_eq]; decide)
  refine wpAny_bind (wpAny_newList ?_ fits)
  have atL : (s1.heap.push (seqObj "list" vs.toArray 0)).get? s1.heap.objs.size = some (seqObj "list" vs.toArray 0) := Heap.get?_push_size _ rfl
  refine wpAny_bind (wpAny_holding (wpAny_call_entry slot_list_sort ⟨_, atL, rfl⟩ entry_list_sort (list_sort_treeKAny strKind_oneLt atL txt.keysOf (fun v1 v2 rest e => keyKind_strs (by rw [← e]; exact txt)) fits fun st hp hs => ?_) (args_list_sort _)))
  obtain ⟨ys, isY, permY, srt⟩ := sorted_out_str txt hp hs
  obtain ⟨c, atS⟩ := sortedHeap_at (vs := vs) (out := (arrOf st).map (·.2)) atL
  refine ⟨_, rfl, wpAny_pure ⟨_, rfl, q _ s1.heap.objs.size _ c ys (fun b u e => ?_) gens os bigger atS isY (permY.trans permL) srt⟩⟩
  have old := Heap.lt_size (kept b u e)
  show (sortedHeap (s1.heap.push (seqObj "list" vs.toArray 0)) s1.heap.objs.size vs ((arrOf st).map (·.2))).get? b = some u
  rw [sortedHeap_old (Nat.ne_of_lt old) (by rw [Heap.size_push]; exact Nat.lt_succ_of_lt old)]
  exact Heap.get?_push_of_some _ (kept b u e)
end
section
variable {X : Cx}
theorem strsOf : ∀ {ys : List Str} {us : List Value}, Vals (ys.map V.str) us → StrsAre us ys
  | [], _, .nil => .nil
  | y :: ys, _, .cons r t => by
    obtain ⟨k, rfl⟩ := r
    exact .cons y k (strsOf t)
/-- sorted(xs) of texts, of any number -/
def rSortedA (K : PySem.W.Frag) : List V → Hp → VK → Prop := fun vs H Q => ∃ (a : Addr) (xs : List Str), vs = [V.ref a] ∧ SqL K H a (xs.map V.str) ∧ ∀ (ys : List Str) (p : Addr), ys.Perm xs → sortedS ys = true → H p = none → Q (.ref p) (upd H p (.lst (ys.map V.str)))
theorem cr_sortedA : CallR X (.builtin "sorted") (rSortedA X.K) := by
  intro pins s σ H vs us Q I r h
  obtain ⟨a, xs, rfl, isL, q⟩ := h
  obtain ⟨its, rv, hl, fits⟩ := I.list isL
  rw [Vals.ref1 r]
  refine sorted_strsAny hl.isList (strsOf rv) (by rw [← rv.length]; exact fits) fun out ys isY perm srt => ?_
  obtain ⟨c, atS⟩ := sortedAll_at s.heap its out
  have len : (ys.map V.str).length ≤ sizeLine := by
    rw [List.length_map] at fits ⊢
    rw [perm.length_eq]; exact fits
  have J := I.laid (a := s.heap.objs.size + 1) (o := .lst (ys.map V.str)) (t' := s.toks) (fun _ _ => sortedAll_old) (Nat.le_succ _) ⟨len, out.toList, c, vals_of_strs isY, atS⟩
  exact ⟨.ref _, _, J, rfl, q ys _ perm srt (I.hok.fresh (Nat.le_succ _))⟩
/-- sorted(set(xs)), xs a list of texts -/
def tSortSet (K : PySem.W.Frag) (ta : TE) : TE := fun σ H Q => ta σ H fun x H1 => ∃ (l : Addr) (xs : List Str), x = .ref l ∧ SqL K H1 l (xs.map V.str) ∧ xs.length ≤ 1000 ∧
  ∀ (ys : List Str) (p : Addr), asc ys = true → (∀ z, z ∈ ys ↔ z ∈ xs) → H1 p = none → Q (.ref p) (upd H1 p (.lst (ys.map V.str)))
theorem pe_sortSet {e : Expr} {ta : TE} {p1 p2 p3 p4 : Pos} (calm : X.calm = true) (g1 : Gl X "sorted") (m1 : X.mg "sorted" = none) (g2 : Gl X "set") (m2 : X.mg "set" = none) (he : PE X e ta)
    (one : starEach [e] X.env = (false, eval e X.env) :: starEach [] X.env := by rfl) : PE X (.Call (.Name "sorted" p1) [.Call (.Name "set" p2) [e] [] p3] [] p4) (tSortSet X.K ta) := by
  refine ⟨fun held s σ H Q I pre => Call_ (ld_blt I g1 m1 (show bootBuiltins "sorted" = some (.builtin "sorted") by decide +kernel) (callWith_builtin1 (args_cons (Call_ (ld_blt I g2 m2 (show bootBuiltins "set" = some (.type "set") by decide +kernel) (callWith_type1 (args_cons (thn (he.run held s σ H _ I pre) fun u s1 gives => args_nil ?_) one) one rfl))) rfl) rfl rfl))⟩
  obtain ⟨v, H1, I1, rel, l, xs, rfl, isL, few, q⟩ := gives
  cases (show u = Value.ref l from rel)
  obtain ⟨its, rv, hl, _⟩ := I1.list isL
  have bound : xs.length + 1 < scanBound := Nat.lt_of_le_of_lt (Nat.succ_le_succ few) (by decide)
  have hh : X.A.handled = none := I1.ok.hd calm
  refine set_of_txts hh hl.isList (by simpa using strsOf rv) bound fun h' tk up kept => args_nil ?_
  obtain ⟨ms, tr, mem, le⟩ := up
  rw [List.take_of_length_le (Nat.le_refl _)] at mem
  have lms : ms.length < scanBound := Nat.lt_of_le_of_lt le (Nat.lt_of_succ_lt bound)
  refine sorted_txts (s := { s1 with heap := h', toks := tk }) tr lms hh fun s' p out c ys kept2 gens os bigger atS isY perm srt => ?_
  have old : ∀ b o, s1.heap.get? b = some o → s'.heap.get? b = some o := fun b o q => kept2 b o (kept b o q)
  obtain ⟨_, atD, _⟩ := id tr.ex
  have ge : s1.heap.objs.size ≤ p := Nat.le_trans (Nat.le_of_lt (Heap.lt_size atD)) bigger
  have free : H1 p = none := I1.hok.fresh ge
  have len : (ys.map V.str).length ≤ sizeLine := by
    rw [List.length_map, perm.length_eq]
    exact Nat.le_trans (Nat.le_of_lt lms) (by rw [sizeLine_eq]; decide)
  have J : Inv X held σ (upd H1 p (.lst (ys.map V.str))) { s1 with heap := s'.heap, gens := s'.gens, drawn := s'.drawn, toks := s'.toks } :=
    I1.call (ch := []) (Un.laid old ge free) (I1.hok.laid old ge ⟨len, out.toList, c, vals_of_strs isY, atS⟩) (by rw [gens]; exact I1.bare) (fun _ z => nomatch z)
  have same : s' = { s1 with heap := s'.heap, gens := s'.gens, drawn := s'.drawn, toks := s'.toks } := by
    obtain ⟨a1, a2, a3, a4, a5⟩ := s'
    obtain rfl : a5 = s1.os := os
    rfl
  rw [same]
  exact ⟨.ref p, _, J, rfl, q ys p (asc_of srt (perm.nodup_iff.mpr tr.nd)) (fun z => (perm.mem_iff).trans (mem z)) free⟩
end
end SC

set_option maxHeartbeats 2000000 -- from here on
/-! sum(..) over a generator expression whose element is any expression of the layer -/
namespace SC
open PySem PySem.Spec PyProof.Rows L2 GenW
open GxR (TabB TabG Tabbed inv_tab sh_eta)
/-- the list in which sum keeps what it has -/
def sob (a : Int) (t : Tok) (c : Nat) : Obj := { cls := .type "list", dict := none, data := .seq #[.int a t] c, slots := #[] }
section
variable {Y : Cx} {go : Addr × Obj} {W : Nat → Nat → List (Addr × Obj) → L2.St → Hp → Prop} {B : Nat → Nat → List (Addr × Obj) → V → L2.St → Hp → Prop} {Dn : List (Addr × Obj) → L2.St → Hp → Prop}
theorem cp_one {S : Addr} {cp : List (Addr × Obj)} {h : Heap} {o : Obj} (e : h.get? S = some o) (hcp : Cp [S] cp) (hs0 : ∀ p ∈ cp, h.get? p.1 = some p.2) : cp = [(S, o)] := by
  unfold Cp at hcp
  cases cp with
  | nil => cases hcp
  | cons p r =>
    rw [List.map_cons, List.cons.injEq, List.map_eq_nil_iff] at hcp
    obtain ⟨rfl, rfl⟩ := hcp
    have := hs0 p List.mem_cons_self
    rw [e] at this
    rw [Option.some.inj this]
/-- sum(..) walks it -/
theorem sum_loop_gen {gi : Nat} {A : Around} {R : Result → Shared → Prop} {S : Addr} {V : Nat → Nat → Int → L2.St → Hp → Prop} {Dv : Int → L2.St → Hp → Prop} (hh : A.handled = none) (hroom : A.depth < recursionLimit) (hgo : ∀ h : Heap, h.get? go.1 = some go.2 → h.IsGen go.1 gi) (nS : cStatics ≠ S) (ngo : S ≠ go.1)
    (hW : ∀ i m a t c σ H, V i m a σ H → W i m [(S, sob a t c)] σ H)
    (hB : ∀ i m y σ H a t c, B i m [(S, sob a t c)] y σ H → ∃ k, y = .int k ∧ InLong k ∧ InLong (a + k) ∧ ∃ m', m' < m ∧ V (i + 1) m' (a + k) σ H)
    (hD : ∀ a t c σ H, Dn [(S, sob a t c)] σ H → Dv a σ H) (hR : ∀ pp a σ H s t, Inv Y pp σ H s → Dv a σ H → R (.ok (.ret (.int a t))) s) :
    ∀ (n : Nat) (s : Shared) (a : Int) (t : Tok) (c : Nat), Asl Y A.in1.in1 go gi [S] W B Dn n s → s.heap.get? S = some (sob a t c) → codeAny (model Y.prog Y.w) A (.builtin "sum.loop" ⟨[.ref go.1, .ref S, rawInt 0, rawInt 0], []⟩) R s := by
  intro n
  induction n using Nat.strongRecOn with
  | ind n ih =>
    intro s a t c al hS
    refine codeAny_builtin F.entry_sum_loop ?_
    rw [Around.under_plainId F.plain_sum_loop _]
    show wpAny _ A.in1 (seqItems? (.ref S) >>= _) _ _ s
    refine wpAny_bind (wpAny_seqItems hS rfl ?_)
    show wpAny _ A.in1 (tryCatch (pyNext (.ref go.1)) _ >>= _) _ _ s
    refine wpAny_bind (wpAny_tryCatch (next_gen (C := A.in1) hh hroom hgo al (fun i m cp y v σ H s' hcp hs0 rv I hb again => ?_) fun cp σ H s' hcp hs0 I dn => ?_))
    · obtain rfl := cp_one hS hcp hs0
      obtain ⟨k, rfl, ⟨f1, f2⟩, ⟨f3, f4⟩, m', hm', w'⟩ := hB i m y σ H a t c hb
      obtain ⟨t2, rfl⟩ : ∃ t2, v = .int k t2 := rv
      have hS' : s'.heap.get? S = some (sob a t c) := (I.pin (S, sob a t c) (List.mem_append_right _ (List.mem_cons_of_mem _ List.mem_cons_self))).1
      have hc : ((decide (-(2 ^ 63) ≤ k) && decide (k < 2 ^ 63)) && (decide (-(2 ^ 63) ≤ a + k) && decide (a + k < 2 ^ 63))) = true := by
        simp only [Bool.and_eq_true, decide_eq_true_eq]
        exact ⟨⟨f1, f2⟩, f3, f4⟩
      show wpAny _ A.in1 (if (_ : Bool) = true then (mkInt (a + k) >>= _) else _) _ _ _
      split
      · refine wpAny_bind (wpAny_mkInt ?_)
        show wpAny _ A.in1 (updateSeq S (fun _ => #[.int (a + k) s'.toks]) >>= _) _ _ _
        refine wpAny_bind ?_
        refine wpAny_updateSeq hS' rfl ?_
        have e2 : (s'.heap.update S (Obj.mapSeq fun _ => #[Value.int (a + k) s'.toks])).get? S = some (sob (a + k) s'.toks _) := Heap.get?_update_self _ hS' rfl
        have oth : ∀ b o, b ≠ S → s'.heap.get? b = some o → (s'.heap.update S (Obj.mapSeq fun _ => #[Value.int (a + k) s'.toks])).get? b = some o := fun b o hb e => (Heap.get?_update_other _ _ (Ne.symm hb)).trans e
        obtain ⟨j, hj, aj⟩ := again { s' with heap := s'.heap.update S (Obj.mapSeq fun _ => #[Value.int (a + k) s'.toks]), toks := s'.toks + 1 } [(S, sob (a + k) s'.toks _)] ⟨rfl, I.bare, fun b o hb e => oth b o (by simpa using hb) e⟩ rfl rfl
          (fun p hp => by rw [List.mem_singleton.mp hp]; exact ⟨e2, fun v z => by cases z⟩)
          (oth _ _ (Ne.symm ngo) (I.pin go (List.mem_append_right _ List.mem_cons_self)).1) (I.nolimit.at fun o e => oth _ _ nS e) m' hm' (hW _ _ _ _ _ _ _ w')
        exact wpAny_pure ⟨plainId_quiet F.plain_sum_loop _, ih j hj _ _ _ _ aj e2⟩
      · rename_i hneg
        exact absurd hc hneg
    · obtain rfl := cp_one hS hcp hs0
      exact wpAny_pure (hR _ a σ H s' t I (hD _ _ _ _ _ dn))
end
end SC
namespace SC
open PySem PySem.Spec PyProof.Rows L2 GenW
open GxR (TabB TabG Tabbed inv_tab sh_eta)
section
variable {X : Cx} {N : List Str} {nt : Nat} {fr : List Nat} {scope : Scope}
theorem sob_inj {S : Addr} {a b : Int} {t u : Tok} {c d : Nat} (h : [(S, sob a t c)] = [(S, sob b u d)]) : a = b := by
  have h := (Prod.mk.inj (List.cons.inj h).1).2
  have h := congrArg Obj.data h
  have h : Data.seq #[Value.int a t] c = Data.seq #[Value.int b u] d := h
  injection h with h _
  have h := congrArg Array.toList h
  injection h with h _
  injection h
/-- the turns of a sum, as a reading -/
def tForS (J : It) (g : TG) (tt : TT) (te : TE) (σ : L2.St) (H : Hp) (Q : VK) : Prop := ∃ V : Nat → Nat → Int → L2.St → Hp → Prop, (∃ m, V 0 m 0 σ H) ∧ ∀ i m a σ H, V i m a σ H →
  (J.stop i H ∧ Q (.int a) H) ∨ (J.go i H ∧ ∃ Nx : Int → L2.St → Hp → Prop, (∀ b σ' H', Nx b σ' H' → ∃ m', m' < m ∧ V (i + 1) m' b σ' H') ∧ ∀ x H', J.yld i H x H' → g x σ H' fun σ2 H2 => tt σ2 H2 fun b H3 =>
    if b = true then te σ2 H3 (fun y H4 => ∃ k, y = .int k ∧ InLong k ∧ InLong (a + k) ∧ Nx (a + k) σ2 H4) else Nx a σ2 H3)
/-- sum(elt for tg in iter if ..); st: the captured names -/
def tSumG (P : Addr) (wi : TI) (g : TG) (tt : TT) (te : TE) (st : L2.St → L2.St) : TE := fun σ H Q => wi σ H fun J H1 => TabG H1 P ∧ ∀ H2, Tabbed P H1 H2 → tForS J g tt te (st σ) H2 Q
theorem pe_sumG {c P : Addr} {elt iter tg : Expr} {ifs : List Expr} {p pos gpos : Pos} {wi : TI} {g : TG} {tt : TT} {te : TE} {k : Nat} (hcalm : X.calm = true) (hr : Room (k + 2) X.A) (hz : X.mg "sum" = none) (TB : TabB X.base X.mg c P) (hcode : X.env.code = .ref c)
    (S : GnS scope) (hfr : freeOk scope X.env.scope = true) (hcap : capOk N nt fr X.N scope X.env.scope = true) (hi : PI X tg iter wi)
    (hg : ∀ C code fp s4 H4, Room k (gxC X N scope C code fp s4 H4).A → PG (gxC X N scope C code fp s4 H4) tg g) (ht : ∀ C code fp s4 H4, Room k (gxC X N scope C code fp s4 H4).A → PTs (gxC X N scope C code fp s4 H4) ifs tt)
    (he : ∀ C code fp s4 H4, Room k (gxC X N scope C code fp s4 H4).A → PE (gxC X N scope C code fp s4 H4) elt te)
    (hs : ∀ v, genFold iter X.env v = pure v) (hgl : Gl X "sum" := by rfl)
    (hse : starEach [.GeneratorExp elt [⟨tg, iter, ifs, 0⟩] scope gpos] X.env = (false, eval (.GeneratorExp elt [⟨tg, iter, ifs, 0⟩] scope gpos) X.env) :: starEach [] X.env := by rfl) :
    PE X (.Call (.Name "sum" p) [.GeneratorExp elt [⟨tg, iter, ifs, 0⟩] scope gpos] [] pos) (tSumG P wi g tt te (capSt nt fr)) := by
  refine ⟨fun pins s σ H Q I h => ?_⟩
  have hh : X.A.handled = none := I.ok.hd hcalm
  refine wpAny_Call_Name_kw (ld_blt I hgl hz (show bootBuiltins "sum" = some (.builtin "sum") by decide +kernel) ?_)
  refine PyProof.Rows.callWith_builtin1 ?_ hse (by rfl)
  rw [hse]
  show wpAny _ _ (spliced ((false, eval (.GeneratorExp elt [⟨tg, iter, ifs, 0⟩] scope gpos) X.env) :: backTo pos (starEach [] X.env))) _ _ s
  refine Calls.spliced_cons (gen_mkI (N := N) (nt := nt) (fr := fr) (R := fun J H2 => tForS J g tt te (capSt nt fr σ) H2 Q) hcalm hr TB hcode S hfr hcap hi hs I h fun J H2 a s5 hR hF => ?_)
  refine Calls.spliced_nil ?_
  obtain ⟨s4, code, fp, it, tn, go, gi, I4, hf, hlt, ha, ha2, T, st5, hgo, hga, hgs, I5⟩ := hF
  obtain ⟨V, ⟨m0, w0⟩, turn⟩ := hR
  have hrA : Room k (gxC X N scope s4.heap.objs.size code fp s4 H2).A := by
    have r1 := hr.dp
    have r2 := hr.un
    have q1 : (gxC X N scope s4.heap.objs.size code fp s4 H2).A.depth = X.A.depth + 1 := rfl
    have q2 : (gxC X N scope s4.heap.objs.size code fp s4 H2).A.units = X.A.units + 1 + 1 + 3 := rfl
    exact ⟨hh, by omega, by omega⟩
  refine call_function_tree F.kind_sum F.plain_sum F.entry_sum (F.args_sum1 _) ?_
  unfold Builtin.«sum»
  simp only [List.length_cons, List.length_nil]
  rw [if_neg (by decide)]
  refine wpAny_bind (wpAny_of_eq (show Builtin.Builtins.bindParams "sum" ["start"] 0 { } = pure [none] from rfl) ?_)
  refine wpAny_bind (wpAny_pyIter_gen (hgo _ hga) ?_)
  refine wpAny_bind (wpAny_mkInt ?_)
  refine wpAny_bind (wpAny_pure ?_)
  simp only [List.forIn_cons, List.forIn_nil]
  refine wpAny_bind (wpAny_bind (wpAny_bind (wpAny_isInstance (T := "int") (b := false) (typeIs_int _ _ _) PySem.sub_int_str ?_)))
  simp only [Bool.false_eq_true, if_false]
  refine wpAny_pure (wpAny_bind (wpAny_bind (wpAny_isInstance (T := "int") (b := false) (typeIs_int _ _ _) PySem.sub_int_bytes ?_)))
  simp only [Bool.false_eq_true, if_false]
  refine wpAny_pure (wpAny_bind (wpAny_bind (wpAny_isInstance (T := "int") (b := false) (typeIs_int _ _ _) PySem.sub_int_bytearray ?_)))
  simp only [Bool.false_eq_true, if_false]
  refine wpAny_pure (wpAny_pure ?_)
  refine wpAny_bind (wpAny_newObj_type ?_)
  have depth : X.A.depth < recursionLimit := by have := hr.dp; omega
  have sz : s4.heap.objs.size < s5.heap.objs.size := Nat.lt_trans ha ha2
  have hn2 : H2 s5.heap.objs.size = none := I5.hok.fresh (Nat.le_refl _)
  have fo := I5.fpOk (Nat.le_refl _) hn2
  have nS : cStatics ≠ s5.heap.objs.size := let ⟨_, b, _⟩ := I5.nolimit; Nat.ne_of_lt b.lt
  have e6 : (s5.heap.push (sob 0 s5.toks 0)).get? s5.heap.objs.size = some (sob 0 s5.toks 0) := Heap.get?_push_size _ rfl
  have I6 : L2.Inv (gxC X N scope s4.heap.objs.size code fp s4 H2) [(a, go)] (capSt nt fr σ) H2 { s5 with heap := s5.heap.push (sob 0 s5.toks 0), toks := s5.toks + 1 } := inv_kept I5 rfl I5.bare fun b o e => Heap.get?_push_of_some _ e
  have I7 := I6.pinned (fp := [s5.heap.objs.size]) (fun b hb => by rw [List.mem_singleton.mp hb]; exact fo) (fun b hb => by rw [List.mem_singleton.mp hb]; exact ⟨_, e6, fun v z => by cases z⟩)
  have ep : pinsAt [s5.heap.objs.size] (s5.heap.push (sob 0 s5.toks 0)) = [(s5.heap.objs.size, sob 0 s5.toks 0)] := by
    unfold pinsAt
    rw [List.filterMap_cons, e6]; rfl
  rw [show pinsAt [s5.heap.objs.size] ({ s5 with heap := s5.heap.push (sob 0 s5.toks 0), toks := s5.toks + 1 } : Shared).heap = _ from ep] at I7
  refine wpAny_pure ⟨plainId_quiet F.plain_sum_loop _, ?_⟩
  refine sum_loop_gen (Y := gxC X N scope s4.heap.objs.size code fp s4 H2) (go := (a, go)) (gi := gi) (S := s5.heap.objs.size) (V := V)
    (W := fun i m cp σ H => ∃ b t c, cp = [(s5.heap.objs.size, sob b t c)] ∧ V i m b σ H)
    (B := fun i m cp y σ H => ∃ b t c k, cp = [(s5.heap.objs.size, sob b t c)] ∧ y = .int k ∧ InLong k ∧ InLong (b + k) ∧ ∃ m', m' < m ∧ V (i + 1) m' (b + k) σ H)
    (Dn := fun cp _ H => ∃ b t c, cp = [(s5.heap.objs.size, sob b t c)] ∧ Q (.int b) H) (Dv := fun b _ H => Q (.int b) H)
    hh depth hgo nS (Nat.ne_of_gt ha2) (fun i m b t c σ H v => ⟨b, t, c, rfl, v⟩) (fun i m y σ H b t c ⟨b2, t2, c2, k, e, q1, q2, q3, q4⟩ => by
      have := sob_inj e; subst this; exact ⟨k, q1, q2, q3, q4⟩) (fun b t c σ H ⟨b2, t2, c2, e, q⟩ => by have := sob_inj e; subst this; exact q)
    (fun pp b σ' H' s' t J' q => ⟨.int b, H', back_to I4 hf J', ⟨_, rfl⟩, q⟩) (m0 + 1) _ 0 s5.toks 0 ⟨hgo _ (Heap.get?_push_of_some _ hga), I6.nolimit, _, hgs, rfl, ?_⟩ e6
  refine seg_turns0 (Y := gxC X N scope s4.heap.objs.size code fp s4 H2) (fp := fp) (tn := tn) (J := J) (tg := tg) (g := g) (tt := tt) (te := te) rfl (fun _ _ z => z) rfl T (hg _ _ _ _ _ hrA) (ht _ _ _ _ _ hrA) (he _ _ _ _ _ hrA) S.co (fun i m cp σ H w => ?_)
    (fun cp H' hcp h0 => stat_of S I4 hf hlt hfr (Nat.le_refl _) (fun p hp => ?_) h0) (fun b hb => ?_) (fun p hp hb => ?_) (fun b hb hb2 => ?_) (Nat.lt_succ_self m0) (cp := [(s5.heap.objs.size, sob 0 s5.toks 0)]) rfl (fun p hp => ?_) (inv_kept I7 rfl (allBare_setGen I7.bare rfl) fun _ _ e => e) (T.keep 0 _ _ st5 fun b hb o e => Heap.get?_push_of_some _ e) (fun b hb => (hf b hb).1) ⟨0, s5.toks, 0, rfl, w0⟩
  · obtain ⟨b, t, c, rfl, v⟩ := w
    rcases turn i m b σ H v with ⟨q1, q2⟩ | ⟨q1, Nt, hN, q2⟩
    · exact .inl ⟨q1, b, t, c, rfl, q2⟩
    · exact .inr ⟨q1, fun y σ' H' => ∃ k, y = .int k ∧ InLong k ∧ InLong (b + k) ∧ Nt (b + k) σ' H', Nt b, fun y σ' H' ⟨k, e, z1, z2, z3⟩ => ⟨b, t, c, k, rfl, e, z1, z2, hN _ _ _ z3⟩, fun σ' H' z => let ⟨m', hm, vv⟩ := hN _ _ _ z; ⟨m', hm, b, t, c, rfl, vv⟩, q2⟩
  · rcases List.mem_cons.mp hp with e | hp
    · rw [e]; exact Nat.le_of_lt ha
    · have h1 : p.1 ∈ cp.map (·.1) := List.mem_map_of_mem hp
      rw [hcp] at h1
      rw [List.mem_singleton.mp h1]; exact Nat.le_of_lt sz
  · rw [List.mem_singleton.mp hb]
    exact ⟨Nat.le_of_lt sz, fo.2.2.2.2.1⟩
  · exact fo.2.2.2.2.2 p hp (List.mem_singleton.mp hb)
  · rw [List.mem_singleton.mp hb2] at hb
    exact absurd (Nat.lt_trans (hlt _ hb) sz) (Nat.lt_irrefl _)
  · rw [List.mem_singleton.mp hp]; exact e6
theorem sum_tup {K : PySem.W.Frag} {a : Addr} {xs : List L2.V} {g : TG} {tt : TT} {te : TE} {σ : L2.St} {H : Hp} {Q : VK} (Pv : Nat → Int → L2.St → Hp → Prop) (h0 : Pv 0 0 σ H) (hl : ∀ i b σ H, i ≤ xs.length → Pv i b σ H → SqT K H a xs)
    (hs : ∀ i b x σ H, xs[i]? = some x → Pv i b σ H → g x σ H fun σ2 H2 => tt σ2 H2 fun c H3 => if c = true then te σ2 H3 (fun y H4 => ∃ k, y = .int k ∧ InLong k ∧ InLong (b + k) ∧ Pv (i + 1) (b + k) σ2 H4) else Pv (i + 1) b σ2 H3)
    (hd : ∀ b σ H, Pv xs.length b σ H → Q (.int b) H) : tForS (Itt K a) g tt te σ H Q := by
  refine ⟨fun i m b σ H => m = xs.length - i ∧ i ≤ xs.length ∧ Pv i b σ H, ⟨xs.length, by simp, Nat.zero_le _, h0⟩, ?_⟩
  rintro i m b σ H ⟨rfl, hi, p⟩
  have q := hl i b σ H hi p
  by_cases hlt : i < xs.length
  · refine .inr ⟨⟨xs, xs[i], q, by simp [hlt]⟩, Pv (i + 1), fun b' σ' H' p' => ⟨xs.length - (i + 1), by omega, rfl, hlt, p'⟩, fun x H' y => ?_⟩
    obtain ⟨e, y⟩ := y
    subst e
    exact hs i b x σ _ (y xs q) p
  · have e : i = xs.length := by omega
    subst e
    exact .inl ⟨⟨xs, q, Nat.le_refl _⟩, hd b σ H p⟩
end
end SC

/-! values as data: documents that are drawn, and what is spoilt in them; x * n of texts, t[::-1] of tuples -/
namespace SC
open PySem L2
mutual
/-- a value of the tracked heap, as data -/
inductive Rq (H : Hp) : V → PyData → Prop
  | non : Rq H .non .none
  | bl (b : Bool) : Rq H (.bl b) (.bool b)
  | int (i : Int) : Rq H (.int i) (.int i)
  | str (z : Str) : Rq H (.str z) (.str z)
  | lst {a : Addr} {xs : List V} {ds : List PyData} : H a = some (.lst xs) → RqA H xs ds → Rq H (.ref a) (.list ds)
  | tup {a : Addr} {xs : List V} {ds : List PyData} : H a = some (.tup xs) → RqA H xs ds → Rq H (.ref a) (.tuple ds)
inductive RqA (H : Hp) : List V → List PyData → Prop
  | nil : RqA H [] []
  | cons {v : V} {vs : List V} {d : PyData} {ds : List PyData} : Rq H v d → RqA H vs ds → RqA H (v :: vs) (d :: ds)
end
def tyD : PyData → String
  | .none => "NoneType" | .bool _ => "bool" | .int _ => "int" | .str _ => "str" | .list _ => "list" | .tuple _ => "tuple" | .dict _ => "dict"
theorem Rq.ty {H : Hp} {v : V} {d : PyData} (h : Rq H v d) : tyN H v = some (tyD d) := by
  cases h with
  | lst e _ => exact tyN_lst e
  | tup e _ => exact tyN_tup e
  | _ => rfl
theorem Rq.tyx {H : Hp} {v : V} {d : PyData} (h : Rq H v d) : ∃ t, tyN H v = some t := ⟨_, h.ty⟩
theorem RqA.len {H : Hp} : ∀ {xs : List V} {ds : List PyData}, RqA H xs ds → xs.length = ds.length
  | _, _, .nil => rfl
  | _, _, .cons _ h => congrArg (· + 1) h.len
theorem RqA.app {H : Hp} : ∀ {xs ys : List V} {ds es : List PyData}, RqA H xs ds → RqA H ys es → RqA H (xs ++ ys) (ds ++ es)
  | _, _, _, _, .nil, h => h
  | _, _, _, _, .cons a b, h => .cons a (b.app h)
theorem RqA.get {H : Hp} : ∀ {xs : List V} {ds : List PyData} {i : Nat} {x : V}, RqA H xs ds → xs[i]? = some x → ∃ d, ds[i]? = some d ∧ Rq H x d
  | _, _, _, _, .nil, h => by simp at h
  | _, _, 0, _, .cons a _, h => by
    have e := Option.some.inj h
    subst e
    exact ⟨_, rfl, a⟩
  | _, _, i + 1, _, .cons _ b, h => b.get (i := i) h
theorem RqA.at {H : Hp} {xs : List V} {ds : List PyData} (r : RqA H xs ds) {i : Nat} (h : i < ds.length) : ∃ x, xs[i]? = some x ∧ Rq H x (ds.getD i .none) := by
  obtain ⟨d, e, q⟩ := r.get (i := i) (x := xs[i]'(by rw [r.len]; exact h)) (List.getElem?_eq_getElem _)
  refine ⟨_, List.getElem?_eq_getElem (by rw [r.len]; exact h), ?_⟩
  rw [List.getD_eq_getElem?_getD, e]
  exact q
theorem RqA.ix {H : Hp} {xs : List V} {ds : List PyData} (r : RqA H xs ds) {i : Nat} (h : i < ds.length) : ∃ x, atI xs (i : Int) = some x ∧ Rq H x (ds.getD i .none) :=
  let ⟨x, e, q⟩ := r.at h
  ⟨x, atI_nat e, q⟩
theorem RqA.take {H : Hp} : ∀ {xs : List V} {ds : List PyData} (n : Nat), RqA H xs ds → RqA H (xs.take n) (ds.take n)
  | _, _, 0, _ => .nil
  | _, _, _ + 1, .nil => .nil
  | _, _, n + 1, .cons a b => .cons a (b.take n)
theorem RqA.drop {H : Hp} : ∀ {xs : List V} {ds : List PyData} (n : Nat), RqA H xs ds → RqA H (xs.drop n) (ds.drop n)
  | _, _, 0, h => h
  | _, _, _ + 1, .nil => .nil
  | _, _, n + 1, .cons _ b => b.drop n
theorem RqA.rev {H : Hp} : ∀ {xs : List V} {ds : List PyData}, RqA H xs ds → RqA H xs.reverse ds.reverse
  | _, _, .nil => .nil
  | _, _, .cons a b => by
    rw [List.reverse_cons, List.reverse_cons]
    exact b.rev.app (.cons a .nil)
mutual
theorem Rq.tabs {Ts : List Addr} {H H' : Hp} (k : Kp Ts H H') (g : Tabs Ts H) : ∀ {v : V} {d : PyData}, Rq H v d → Rq H' v d
  | _, _, .non => .non
  | _, _, .bl b => .bl b
  | _, _, .int i => .int i
  | _, _, .str z => .str z
  | _, _, .lst e r => .lst (k.get g e) (r.tabs k g)
  | _, _, .tup e r => .tup (k.tup _ _ e) (r.tabs k g)
theorem RqA.tabs {Ts : List Addr} {H H' : Hp} (k : Kp Ts H H') (g : Tabs Ts H) : ∀ {vs : List V} {ds : List PyData}, RqA H vs ds → RqA H' vs ds
  | _, _, .nil => .nil
  | _, _, .cons a b => .cons (a.tabs k g) (b.tabs k g)
end
theorem tabs_nil {H : Hp} : Tabs [] H := fun _ m => absurd m List.not_mem_nil
theorem Rq.kp0 {H H' : Hp} {v : V} {d : PyData} (h : Rq H v d) (k : Kp [] H H') : Rq H' v d := h.tabs k tabs_nil
theorem RqA.kp0 {H H' : Hp} {v : List V} {d : List PyData} (h : RqA H v d) (k : Kp [] H H') : RqA H' v d := h.tabs k tabs_nil
mutual
theorem Rq.dp {K : PySem.W.Frag} {H : Hp} : ∀ {v : V} {d : PyData}, Rq H v d → Dp K H v d
  | _, _, .non => .non
  | _, _, .bl b => .bl b
  | _, _, .int i => .int i
  | _, _, .str z => .str z
  | _, _, .lst e r => .lst (SqL.of e) r.dp
  | _, _, .tup e r => .tup (SqT.of e) r.dp
theorem RqA.dp {K : PySem.W.Frag} {H : Hp} : ∀ {vs : List V} {ds : List PyData}, RqA H vs ds → DpAll K H vs ds
  | _, _, .nil => .nil
  | _, _, .cons a b => .cons a.dp b.dp
end
mutual
/-- sizes of what is spoilt -/
def okD (n : Nat) : PyData → Bool
  | .none => true
  | .bool _ => true
  | .int i => decide (-99999999999999999999 ≤ i) && decide (i ≤ 99999999999999999999)
  | .str z => decide (z.length ≤ 200000) && PyData.strOk z
  | .list ds => match n with
    | 0 => false
    | m + 1 => decide (ds.length ≤ 200000) && okDs m ds
  | .tuple ds => match n with
    | 0 => false
    | m + 1 => decide (ds.length ≤ 200000) && okDs m ds
  | .dict _ => false
def okDs (n : Nat) : List PyData → Bool
  | [] => true
  | d :: ds => okD n d && okDs n ds
end
mutual
/-- what a law draws: ints, texts, tuples -/
def inD (n : Nat) : PyData → Bool
  | .int i => decide (0 ≤ i) && decide (i ≤ 1000000000000)
  | .str z => decide (z.length ≤ 100) && z.cps.toList.all fun c => decide (c < 128)
  | .tuple ds => match n with
    | 0 => false
    | m + 1 => decide (ds.length ≤ 100) && inDs m ds
  | _ => false
def inDs (n : Nat) : List PyData → Bool
  | [] => true
  | d :: ds => inD n d && inDs n ds
end
theorem okDs_all {n : Nat} : ∀ {ds : List PyData}, okDs n ds = true ↔ ∀ d ∈ ds, okD n d = true
  | [] => ⟨fun _ d m => absurd m List.not_mem_nil, fun _ => rfl⟩
  | d :: ds => by
    show (okD n d && okDs n ds) = true ↔ _
    rw [Bool.and_eq_true, okDs_all (ds := ds), List.forall_mem_cons]
theorem inDs_all {n : Nat} : ∀ {ds : List PyData}, inDs n ds = true ↔ ∀ d ∈ ds, inD n d = true
  | [] => ⟨fun _ d m => absurd m List.not_mem_nil, fun _ => rfl⟩
  | d :: ds => by
    show (inD n d && inDs n ds) = true ↔ _
    rw [Bool.and_eq_true, inDs_all (ds := ds), List.forall_mem_cons]
theorem okD_tup {n : Nat} {ds : List PyData} : okD (n + 1) (.tuple ds) = true ↔ ds.length ≤ 200000 ∧ ∀ d ∈ ds, okD n d = true := by
  show (decide (ds.length ≤ 200000) && okDs n ds) = true ↔ _
  rw [Bool.and_eq_true, decide_eq_true_eq, okDs_all]
theorem okD_lst {n : Nat} {ds : List PyData} : okD (n + 1) (.list ds) = true ↔ ds.length ≤ 200000 ∧ ∀ d ∈ ds, okD n d = true := by
  show (decide (ds.length ≤ 200000) && okDs n ds) = true ↔ _
  rw [Bool.and_eq_true, decide_eq_true_eq, okDs_all]
theorem inD_tup {n : Nat} {ds : List PyData} : inD (n + 1) (.tuple ds) = true ↔ ds.length ≤ 100 ∧ ∀ d ∈ ds, inD n d = true := by
  show (decide (ds.length ≤ 100) && inDs n ds) = true ↔ _
  rw [Bool.and_eq_true, decide_eq_true_eq, inDs_all]
theorem okD_str {n : Nat} {z : Str} : okD n (.str z) = true ↔ z.length ≤ 200000 ∧ PyData.strOk z = true := by
  rw [show okD n (.str z) = (decide (z.length ≤ 200000) && PyData.strOk z) by cases n <;> rfl, Bool.and_eq_true, decide_eq_true_eq]
theorem okD_int {n : Nat} {i : Int} : okD n (.int i) = true ↔ -99999999999999999999 ≤ i ∧ i ≤ 99999999999999999999 := by
  rw [show okD n (.int i) = (decide (-99999999999999999999 ≤ i) && decide (i ≤ 99999999999999999999)) by cases n <;> rfl, Bool.and_eq_true, decide_eq_true_eq, decide_eq_true_eq]
theorem inD_str {n : Nat} {z : Str} : inD n (.str z) = true ↔ z.length ≤ 100 ∧ ∀ c ∈ z.cps.toList, c < 128 := by
  rw [show inD n (.str z) = (decide (z.length ≤ 100) && z.cps.toList.all fun c => decide (c < 128)) by cases n <;> rfl, Bool.and_eq_true, decide_eq_true_eq, List.all_eq_true]
  simp only [decide_eq_true_eq]
theorem inD_int {n : Nat} {i : Int} : inD n (.int i) = true ↔ 0 ≤ i ∧ i ≤ 1000000000000 := by
  rw [show inD n (.int i) = (decide (0 ≤ i) && decide (i ≤ 1000000000000)) by cases n <;> rfl, Bool.and_eq_true, decide_eq_true_eq, decide_eq_true_eq]
theorem strOk_low {z : Str} (h : ∀ c ∈ z.cps.toList, c < 128) : PyData.strOk z = true := by
  unfold PyData.strOk
  rw [← Array.all_toList, List.all_eq_true]
  exact fun c hc => decide_eq_true (Nat.lt_of_lt_of_le (h c hc) (by decide))
mutual
theorem in_ok : ∀ (n : Nat) (d : PyData), inD n d = true → okD n d = true
  | n, .int i, h => okD_int.mpr (by have := inD_int.mp h; omega)
  | n, .str z, h => okD_str.mpr ⟨by have := (inD_str.mp h).1; omega, strOk_low (inD_str.mp h).2⟩
  | 0, .tuple _, h => by cases h
  | n + 1, .tuple ds, h => by
    have q : (decide (ds.length ≤ 100) && inDs n ds) = true := h
    rw [Bool.and_eq_true, decide_eq_true_eq] at q
    show (decide (ds.length ≤ 200000) && okDs n ds) = true
    rw [decide_eq_true (by omega), ins_ok n ds q.2]; rfl
  | n, .none, h => by cases n <;> cases h
  | n, .bool _, h => by cases n <;> cases h
  | n, .list _, h => by cases n <;> cases h
  | n, .dict _, h => by cases n <;> cases h
theorem ins_ok : ∀ (n : Nat) (ds : List PyData), inDs n ds = true → okDs n ds = true
  | _, [], _ => rfl
  | n, d :: ds, h => by
    have h : (inD n d && inDs n ds) = true := h
    rw [Bool.and_eq_true] at h
    show (okD n d && okDs n ds) = true
    rw [in_ok n d h.1, ins_ok n ds h.2]; rfl
end
mutual
theorem ok_mono : ∀ (n m : Nat) (d : PyData), n ≤ m → okD n d = true → okD m d = true
  | n, m, .int i, _, h => okD_int.mpr (okD_int.mp h)
  | n, m, .str z, _, h => okD_str.mpr (okD_str.mp h)
  | _, m, .none, _, _ => by cases m <;> rfl
  | _, m, .bool _, _, _ => by cases m <;> rfl
  | 0, _, .tuple _, _, h => by cases h
  | 0, _, .list _, _, h => by cases h
  | n + 1, 0, .tuple _, q, _ => by omega
  | n + 1, 0, .list _, q, _ => by omega
  | n + 1, m + 1, .tuple ds, q, h => by
    have z : (decide (ds.length ≤ 200000) && okDs n ds) = true := h
    rw [Bool.and_eq_true] at z
    show (decide (ds.length ≤ 200000) && okDs m ds) = true
    rw [z.1, oks_mono n m ds (by omega) z.2]; rfl
  | n + 1, m + 1, .list ds, q, h => by
    have z : (decide (ds.length ≤ 200000) && okDs n ds) = true := h
    rw [Bool.and_eq_true] at z
    show (decide (ds.length ≤ 200000) && okDs m ds) = true
    rw [z.1, oks_mono n m ds (by omega) z.2]; rfl
  | n, _, .dict _, _, h => by cases n <;> cases h
theorem oks_mono : ∀ (n m : Nat) (ds : List PyData), n ≤ m → okDs n ds = true → okDs m ds = true
  | _, _, [], _, _ => rfl
  | n, m, d :: ds, q, h => by
    have h : (okD n d && okDs n ds) = true := h
    rw [Bool.and_eq_true] at h
    show (okD m d && okDs m ds) = true
    rw [ok_mono n m d q h.1, oks_mono n m ds q h.2]; rfl
end
mutual
theorem ok_lay : ∀ (n : Nat) (d : PyData), okD n d = true → PyData.canLay0 d = true ∧ PyData.depth d ≤ n
  | n, .int _, _ => ⟨by simp [PyData.canLay0], by simp [PyData.depth]⟩
  | n, .str z, h => ⟨by simp [PyData.canLay0, (okD_str.mp h).2], by simp [PyData.depth]⟩
  | n, .none, _ => ⟨by simp [PyData.canLay0], by simp [PyData.depth]⟩
  | n, .bool _, _ => ⟨by simp [PyData.canLay0], by simp [PyData.depth]⟩
  | 0, .tuple _, h => by cases h
  | 0, .list _, h => by cases h
  | n + 1, .tuple ds, h => by
    have z : (decide (ds.length ≤ 200000) && okDs n ds) = true := h
    rw [Bool.and_eq_true] at z
    obtain ⟨a, b⟩ := oks_lay n ds z.2
    exact ⟨by simp [PyData.canLay0, a], by simp only [PyData.depth]; omega⟩
  | n + 1, .list ds, h => by
    have z : (decide (ds.length ≤ 200000) && okDs n ds) = true := h
    rw [Bool.and_eq_true] at z
    obtain ⟨a, b⟩ := oks_lay n ds z.2
    exact ⟨by simp [PyData.canLay0, a], by simp only [PyData.depth]; omega⟩
  | n, .dict _, h => by cases n <;> cases h
theorem oks_lay : ∀ (n : Nat) (ds : List PyData), okDs n ds = true → PyData.canLayAll0 ds = true ∧ PyData.depthAll ds ≤ n
  | n, [], _ => ⟨by simp [PyData.canLayAll0], by simp [PyData.depthAll]⟩
  | n, d :: ds, h => by
    have h : (okD n d && okDs n ds) = true := h
    rw [Bool.and_eq_true] at h
    obtain ⟨a1, a2⟩ := ok_lay n d h.1
    obtain ⟨b1, b2⟩ := oks_lay n ds h.2
    exact ⟨by simp [PyData.canLayAll0, a1, b1], by simp only [PyData.depthAll]; omega⟩
end
theorem ok_shaped {n : Nat} {d : PyData} (h : okD n d = true) (hn : n ≤ 64) : SeqAt.shaped d = true := by
  obtain ⟨a, b⟩ := ok_lay n d h
  unfold SeqAt.shaped
  rw [a, decide_eq_true (by omega)]; rfl
mutual
theorem Rq.pur {S : List Addr} {H H' : Hp} (k : Kp S H H') : ∀ (n : Nat) {v : V} {d : PyData}, Rq H v d → inD n d = true → Rq H' v d
  | _, _, _, .int i, _ => .int i
  | _, _, _, .str z, _ => .str z
  | 0, _, _, .tup _ _, h => by cases h
  | n + 1, _, _, .tup (ds := ds) e r, h => by
    have z : (decide (ds.length ≤ 100) && inDs n ds) = true := h
    rw [Bool.and_eq_true] at z
    exact .tup (k.tup _ _ e) (r.pur k n z.2)
  | n, _, _, .non, h => by cases n <;> cases h
  | n, _, _, .bl _, h => by cases n <;> cases h
  | n, _, _, .lst _ _, h => by cases n <;> cases h
theorem RqA.pur {S : List Addr} {H H' : Hp} (k : Kp S H H') : ∀ (n : Nat) {vs : List V} {ds : List PyData}, RqA H vs ds → inDs n ds = true → RqA H' vs ds
  | _, _, _, .nil, _ => .nil
  | n, _, _, .cons (d := d) (ds := ds) a b, h => by
    have h : (inD n d && inDs n ds) = true := h
    rw [Bool.and_eq_true] at h
    exact .cons (a.pur k n h.1) (b.pur k n h.2)
end
mutual
/-- no list within -/
def purD : PyData → Bool
  | .list _ => false
  | .dict _ => false
  | .tuple ds => purDs ds
  | _ => true
def purDs : List PyData → Bool
  | [] => true
  | d :: ds => purD d && purDs ds
end
theorem purDs_all : ∀ {ds : List PyData}, purDs ds = true ↔ ∀ d ∈ ds, purD d = true
  | [] => ⟨fun _ d m => absurd m List.not_mem_nil, fun _ => rfl⟩
  | d :: ds => by
    show (purD d && purDs ds) = true ↔ _
    rw [Bool.and_eq_true, purDs_all (ds := ds), List.forall_mem_cons]
theorem purD_tup {ds : List PyData} : purD (.tuple ds) = true ↔ ∀ d ∈ ds, purD d = true := by
  show purDs ds = true ↔ _
  exact purDs_all
mutual
theorem in_pur : ∀ (n : Nat) (d : PyData), inD n d = true → purD d = true
  | _, .int _, _ => rfl
  | _, .str _, _ => rfl
  | 0, .tuple _, h => by cases h
  | n + 1, .tuple ds, h => by
    have q : (decide (ds.length ≤ 100) && inDs n ds) = true := h
    rw [Bool.and_eq_true, decide_eq_true_eq] at q
    exact ins_pur n ds q.2
  | _, .none, _ => rfl
  | _, .bool _, _ => rfl
  | n, .list _, h => by cases n <;> cases h
  | n, .dict _, h => by cases n <;> cases h
theorem ins_pur : ∀ (n : Nat) (ds : List PyData), inDs n ds = true → purDs ds = true
  | _, [], _ => rfl
  | n, d :: ds, h => by
    have h : (inD n d && inDs n ds) = true := h
    rw [Bool.and_eq_true] at h
    show (purD d && purDs ds) = true
    rw [in_pur n d h.1, ins_pur n ds h.2]; rfl
end
mutual
theorem Rq.pure {S : List Addr} {H H' : Hp} (k : Kp S H H') : ∀ {v : V} {d : PyData}, Rq H v d → purD d = true → Rq H' v d
  | _, _, .int i, _ => .int i
  | _, _, .str z, _ => .str z
  | _, _, .non, _ => .non
  | _, _, .bl b, _ => .bl b
  | _, _, .tup e r, h => .tup (k.tup _ _ e) (r.pure k h)
  | _, _, .lst _ _, h => by cases h
theorem RqA.pure {S : List Addr} {H H' : Hp} (k : Kp S H H') : ∀ {vs : List V} {ds : List PyData}, RqA H vs ds → purDs ds = true → RqA H' vs ds
  | _, _, .nil, _ => .nil
  | _, _, .cons (d := d) (ds := ds) a b, h => by
    have h : (purD d && purDs ds) = true := h
    rw [Bool.and_eq_true] at h
    exact .cons (a.pure k h.1) (b.pure k h.2)
end
/-! the parts of a value -/
def tupB (a b : Nat) : PyData → Bool
  | .tuple ds => decide (a ≤ ds.length) && decide (ds.length ≤ b)
  | _ => false
def itD : PyData → List PyData
  | .tuple ds => ds
  | _ => []
def ixD (d : PyData) (i : Nat) : PyData := (itD d).getD i .none
def numB (lo hi : Int) : PyData → Bool
  | .int i => decide (lo ≤ i) && decide (i ≤ hi)
  | _ => false
def strD : PyData → Str
  | .str z => z
  | _ => Str.empty
def isS : PyData → Bool
  | .str _ => true
  | _ => false
def eqS (s : Str) : PyData → Bool
  | .str z => decide (z = s)
  | _ => false
theorem eqv_strS (s : Str) : ∀ d : PyData, PyData.eqv d (.str s) = eqS s d
  | .str z => by
    show (z == s) = decide (z = s)
    rw [Bool.eq_iff_iff, beq_iff_eq, decide_eq_true_eq]
  | .none => rfl
  | .bool _ => rfl
  | .int _ => rfl
  | .list _ => rfl
  | .tuple _ => rfl
  | .dict _ => rfl
theorem tupB_of {a b : Nat} {H : Hp} {v : V} {d : PyData} (r : Rq H v d) (h : tupB a b d = true) : ∃ (p : Addr) (xs : List V) (ds : List PyData), v = .ref p ∧ H p = some (.tup xs) ∧ d = .tuple ds ∧ RqA H xs ds ∧ a ≤ ds.length ∧ ds.length ≤ b := by
  cases r with
  | tup e r =>
    rename_i p xs ds
    have h : (decide (a ≤ ds.length) && decide (ds.length ≤ b)) = true := h
    rw [Bool.and_eq_true, decide_eq_true_eq, decide_eq_true_eq] at h
    exact ⟨_, _, _, rfl, e, rfl, r, h.1, h.2⟩
  | _ => cases h
theorem isS_of {H : Hp} {v : V} {d : PyData} (r : Rq H v d) (h : isS d = true) : ∃ z, v = .str z ∧ d = .str z := by
  cases r with
  | str z => exact ⟨z, rfl, rfl⟩
  | _ => cases h
theorem numB_of {lo hi : Int} {H : Hp} {v : V} {d : PyData} (r : Rq H v d) (h : numB lo hi d = true) : ∃ i, v = .int i ∧ d = .int i ∧ lo ≤ i ∧ i ≤ hi := by
  cases r with
  | int i =>
    have h : (decide (lo ≤ i) && decide (i ≤ hi)) = true := h
    rw [Bool.and_eq_true, decide_eq_true_eq, decide_eq_true_eq] at h
    exact ⟨i, rfl, rfl, h.1, h.2⟩
  | _ => cases h
theorem rqa_strs {H : Hp} : ∀ {xs : List V} {ds : List PyData}, RqA H xs ds → (∀ d ∈ ds, isS d = true) → xs = (ds.map strD).map V.str
  | _, _, .nil, _ => rfl
  | _, _, .cons a b, h => by
    obtain ⟨z, rfl, rfl⟩ := isS_of a (h _ List.mem_cons_self)
    rw [rqa_strs b fun d m => h d (List.mem_cons_of_mem _ m)]
    rfl
theorem getD_mem {ds : List PyData} {i : Nat} (h : i < ds.length) : ds.getD i .none ∈ ds := by
  rw [List.getD_eq_getElem?_getD, List.getElem?_eq_getElem h]
  exact List.getElem_mem h
/-- all(p(x) for x in a tuple), p a promise -/
theorem all_rq {K : PySem.W.Frag} {Ts : List Addr} {b : Addr} {xs : List V} {ds : List PyData} {f : PyData → Bool} {te : TE} {D : Ends} {H2 : Hp} {o : Option V} {cap : L2.St} (eb : H2 b = some (.tup xs)) (r : RqA H2 xs ds) (g : Tabs Ts H2)
    (step : ∀ (x : V) (d : PyData) (H' : Hp) (R : VK), Rq H' x d → d ∈ ds → Kp Ts H2 H' → Tabs Ts H' → (∀ H'', Kp Ts H' H'' → Tabs Ts H'' → R (.bl (f d)) H'') → te (some x :: cap) H' R)
    (qf : ∀ H', Kp Ts H2 H' → Tabs Ts H' → ds.all f = false → D.rt (.bl false) H') (qt : ∀ σ H', Kp Ts H2 H' → Tabs Ts H' → ds.all f = true → D.nx σ H') :
    tForB (Itt K b) (gName 0) (tbAll tYes te) D (o :: cap) H2 := by
  refine for_tup (K := K) (a := b) (xs := xs) (fun i σ H' => (∃ o : Option V, σ = o :: cap) ∧ Kp Ts H2 H' ∧ Tabs Ts H' ∧ (ds.take i).all f = true)
    ⟨⟨_, rfl⟩, Kp.refl _ _, g, rfl⟩ (fun i σ H' _ ⟨_, k, _, _⟩ => SqT.of (k.get g eb)) (fun i x σ H' hx ⟨⟨o, hσ⟩, k3, g3, ha⟩ => ?_) (fun σ H' ⟨⟨o, hσ⟩, k3, g3, ha⟩ => ?_)
  · subst hσ
    obtain ⟨d, hd, Rd⟩ := r.get hx
    have tk : ds.take (i + 1) = ds.take i ++ [d] := by rw [List.take_add_one, hd]; rfl
    have md := List.mem_of_getElem? hd
    unfold tbAll
    simp only [tYes, if_true, gName, List.set_cons_zero]
    refine step x d H' _ (Rd.tabs k3 g) md k3 g3 fun H4 k4 g4 => ⟨_, rfl, ?_⟩
    cases hb : f d with
    | true =>
      rw [if_pos rfl]
      exact ⟨⟨_, rfl⟩, k3.trans k4, g4, by rw [tk, List.all_append, ha]; simp [hb]⟩
    | false =>
      rw [if_neg (by decide)]
      have e : ds.all f = false := by
        rw [List.all_eq_false]
        exact ⟨d, md, by rw [hb]; decide⟩
      exact qf H4 (k3.trans k4) g4 e
  · rw [r.len, List.take_length] at ha
    exact qt _ H' k3 g3 ha
section
variable {X : Cx}
/-- x * n of a text -/
theorem op_mulN8 : OpR X (binaryOp .Mult) (fun x y H Q => ∃ (z : Str) (n : Int), x = .str z ∧ y = .int n ∧ z.length ≤ 1000 ∧ 2 ≤ n ∧ n ≤ 1000 ∧ ∀ u : Str, u.length ≤ z.length * n.toNat → (∀ c ∈ u.cps.toList, c ∈ z.cps.toList) → Q (.str u) H) := by
  intro pins s σ H x y v u Q I rx ry h
  obtain ⟨z, n, rfl, rfl, hz, n0, n1, q⟩ := h
  obtain ⟨t, rfl⟩ := rx
  obtain ⟨t', rfl⟩ := ry
  have fold : ∀ (k : Nat) (a : Array Nat), ((List.replicate k z.cps).foldl (· ++ ·) a).toList = a.toList ++ (List.replicate k z.cps.toList).flatten := by
    intro k
    induction k with
    | zero => intro a; simp
    | succ k ih => intro a; rw [List.replicate_succ, List.foldl_cons, ih, Array.toList_append, List.replicate_succ, List.flatten_cons, List.append_assoc]
  refine PySem.SB.mul (PyProof.Rows.mulOk_of 1000 1000 hz (by omega) (by omega) (by decide) (by decide)) fun t' k => ⟨.str _, H, I.tok _, ⟨_, rfl⟩, q _ ?_ ?_⟩
  · have e := PyProof.Rows.len_mul z n
    rw [decide_eq_false (by omega)] at e
    have e : ((Txt.mul z n).length : Int) = (z.length : Int) * n := e
    have : n = (n.toNat : Int) := by omega
    rw [this] at e
    have e : (Txt.mul z (n.toNat : Int)).length = z.length * n.toNat := by exact_mod_cast e
    rw [← this] at e
    omega
  · intro c hc
    unfold Txt.mul at hc
    rw [if_neg (by omega)] at hc
    split at hc
    · exact hc
    · rw [fold] at hc
      simp only [List.nil_append, List.mem_flatten, List.mem_replicate] at hc
      obtain ⟨l, ⟨_, e⟩, m⟩ := hc
      rw [e] at m; exact m
end
end SC
namespace SC
open PySem L2
theorem rq2 {H : Hp} {xs : List V} {ds : List PyData} (r : RqA H xs ds) (l : ds.length = 2) : ∃ x0 x1 d0 d1, xs = [x0, x1] ∧ ds = [d0, d1] ∧ Rq H x0 d0 ∧ Rq H x1 d1 := by
  cases r with
  | nil => cases l
  | cons a r =>
  cases r with
  | nil => cases l
  | cons b r =>
  cases r with
  | nil => exact ⟨_, _, _, _, rfl, rfl, a, b⟩
  | cons c r => simp at l
theorem rq3 {H : Hp} {xs : List V} {ds : List PyData} (r : RqA H xs ds) (l : ds.length = 3) : ∃ x0 x1 x2 d0 d1 d2, xs = [x0, x1, x2] ∧ ds = [d0, d1, d2] ∧ Rq H x0 d0 ∧ Rq H x1 d1 ∧ Rq H x2 d2 := by
  cases r with
  | nil => cases l
  | cons a r =>
    obtain ⟨x0, x1, d0, d1, rfl, rfl, b, c⟩ := rq2 r (by simpa using l)
    exact ⟨_, _, _, _, _, _, rfl, rfl, a, b, c⟩
theorem rq4 {H : Hp} {xs : List V} {ds : List PyData} (r : RqA H xs ds) (l : ds.length = 4) : ∃ x0 x1 x2 x3 d0 d1 d2 d3, xs = [x0, x1, x2, x3] ∧ ds = [d0, d1, d2, d3] ∧ Rq H x0 d0 ∧ Rq H x1 d1 ∧ Rq H x2 d2 ∧ Rq H x3 d3 := by
  cases r with
  | nil => cases l
  | cons a r =>
    obtain ⟨x0, x1, x2, d0, d1, d2, rfl, rfl, b, c, d⟩ := rq3 r (by simpa using l)
    exact ⟨_, _, _, _, _, _, _, _, rfl, rfl, a, b, c, d⟩
theorem rq6 {H : Hp} {xs : List V} {ds : List PyData} (r : RqA H xs ds) (l : ds.length = 6) : ∃ x0 x1 x2 x3 x4 x5 d0 d1 d2 d3 d4 d5, xs = [x0, x1, x2, x3, x4, x5] ∧ ds = [d0, d1, d2, d3, d4, d5] ∧ Rq H x0 d0 ∧ Rq H x1 d1 ∧ Rq H x2 d2 ∧ Rq H x3 d3 ∧ Rq H x4 d4 ∧ Rq H x5 d5 := by
  cases r with
  | nil => cases l
  | cons a r =>
  cases r with
  | nil => cases l
  | cons b r =>
    obtain ⟨x0, x1, x2, x3, d0, d1, d2, d3, rfl, rfl, c, d, e, f⟩ := rq4 r (by simpa using l)
    exact ⟨_, _, _, _, _, _, _, _, _, _, _, _, rfl, rfl, a, b, c, d, e, f⟩
theorem atI_memQ {xs : List V} {i : Int} (h0 : 0 ≤ i) (h1 : i < (xs.length : Nat)) : ∃ x, atI xs i = some x ∧ x ∈ xs := by
  obtain ⟨x, hx⟩ : ∃ x, xs[i.toNat]? = some x := ⟨_, List.getElem?_eq_getElem (by omega)⟩
  refine ⟨x, ?_, List.mem_of_getElem? hx⟩
  rw [show i = ((i.toNat : Nat) : Int) by omega]
  exact atI_nat hx
/-- t + u -/
theorem cat_q {K : PySem.W.Frag} {H : Hp} {a b : Addr} {xs ys : List V} {Q : VK} (e : H a = some (.tup xs)) (e2 : H b = some (.tup ys)) (hl : xs.length + ys.length ≤ sizeLine)
    (q : ∀ (z : Addr) (H' : Hp), Kp [] H H' → H' z = some (.tup (xs ++ ys)) → Q (.ref z) H') : rCatA K (.ref a) (.ref b) H Q :=
  ⟨a, b, xs, ys, rfl, rfl, SqT.of e, SqT.of e2, hl, fun h => q b H (Kp.refl _ _) (by rw [h]; exact e2), fun _ h => q a H (Kp.refl _ _) (by rw [h, List.append_nil]; exact e), fun _ _ d hd => q d _ (Kp.new hd _) upd_same⟩
/-- t[lo:hi] -/
theorem sl_q {K : PySem.W.Frag} {H : Hp} {a : Addr} {xs : List V} {lo hi : Option Int} {Q : VK} (e : H a = some (.tup xs)) (q : ∀ (z : Addr) (H' : Hp), Kp [] H H' → H' z = some (.tup (cutV xs lo hi)) → Q (.ref z) H') : rSlA K (.ref a) lo hi H Q := by
  refine ⟨a, xs, rfl, SqT.of e, fun h => q a H (Kp.refl _ _) ?_, fun _ d hd => q d _ (Kp.new hd _) upd_same⟩
  rw [e]
  unfold cutV
  rw [h.1, h.2, List.drop_zero, Nat.sub_zero, List.take_length]
def cutD (ds : List PyData) (lo hi : Option Int) : List PyData := (ds.drop (HT.sIx ds.length 0 lo)).take (HT.sIx ds.length ds.length hi - HT.sIx ds.length 0 lo)
theorem RqA.cut {H : Hp} {xs : List V} {ds : List PyData} (r : RqA H xs ds) (lo hi : Option Int) : RqA H (cutV xs lo hi) (cutD ds lo hi) := by
  unfold cutV cutD
  rw [r.len]
  exact (r.drop _).take _
theorem cutD_mem {ds : List PyData} {lo hi : Option Int} {d : PyData} (h : d ∈ cutD ds lo hi) : d ∈ ds := List.mem_of_mem_drop (List.mem_of_mem_take h)
theorem cutD_len (ds : List PyData) (lo hi : Option Int) : (cutD ds lo hi).length ≤ ds.length := by
  unfold cutD
  rw [List.length_take, List.length_drop]; omega
end SC

/-! methods without arguments that may raise; tables of texts -/
namespace SC
open PySem PySem.Spec PyProof.Rows L2
section
variable {X : Cx} {x : Str} {p pos apos : Pos} {o e : Expr} {es : List Expr} {ta : TE} {t : TA} {sp : Sp} {j k : Nat} {CX : CXT} {E : XK} {C : Addr} {pl : Sem Bool}
theorem CalM.pex0 (c : CalM X.prog X.w X.K X.mg X.base CX j C x sp) (hr : Room k X.A) (hx : Passes CX X E) (ho : PE X o ta) (hjk : j ≤ k := by first | decide | omega)
    (ht : eval (.Call (.Attribute o x apos) [] [] pos) X.env = (do
      let ov ← eval o X.env
      standAt apos.atName
      let (f, first) ← holding [ov] (getMethod ov x pl)
      callWith pos f first (backTo pos (starEach [] X.env)) (backToKw pos (keywordEach [] X.env))) := by rfl) :
    PE X (.Call (.Attribute o x apos) [] [] pos) (tMeth C x sp [] E ta tNil) :=
  let ⟨_, _, _, F, m, b⟩ := c.ex
  pe_meth0 ho c.cl m F (hr.mono hjk) b .nil hx ht
theorem CalM.peL0 (c : CalM X.prog X.w X.K X.mg X.base (L2.CX X.prog X.w) j C x sp) (hr : Room k X.A) (ho : PE X o ta) (hjk : j ≤ k := by first | decide | omega)
    (ht : eval (.Call (.Attribute o x apos) [] [] pos) X.env = (do
      let ov ← eval o X.env
      standAt apos.atName
      let (f, first) ← holding [ov] (getMethod ov x pl)
      callWith pos f first (backTo pos (starEach [] X.env)) (backToKw pos (keywordEach [] X.env))) := by rfl) :
    PE X (.Call (.Attribute o x apos) [] [] pos) (tMeth C x sp [] E0 ta tNil) := c.pex0 hr passL ho hjk ht
end
/-- the reading is found first, then what was wished for -/
theorem by_given {X : Cx} {b : List Stmt} {t u : TS} (h : PSs X b t) (e : t = u) : PSs X b u := e ▸ h
section
variable {X : Cx} {x : Str} {pos apos : Pos} {o e : Expr} {es : List Expr} {ta : TE} {t : TA} {sp : Sp} {j k : Nat} {C : Addr} {pl : Sem Bool} {V : WX}
theorem CalM.peV0 (c : CalM X.prog X.w X.K X.mg X.base (L2.CX X.prog X.w) j C x sp) (hr : Room k X.A) (tk : Takes X V) (ho : PE X o ta) (hjk : j ≤ k := by first | decide | omega)
    (ht : eval (.Call (.Attribute o x apos) [] [] pos) X.env = (do
      let ov ← eval o X.env
      standAt apos.atName
      let (f, first) ← holding [ov] (getMethod ov x pl)
      callWith pos f first (backTo pos (starEach [] X.env)) (backToKw pos (keywordEach [] X.env))) := by rfl) :
    PE X (.Call (.Attribute o x apos) [] [] pos) (tMethV C x sp (WE V) ta tNil) := by
  obtain ⟨f, fd, ps, F, M, b⟩ := c.ex
  refine ⟨fun held s σ H Q I pre => PySem.W.methodCall_KW (pl := pl) (thn (ho.run held s σ H _ I pre) fun u s1 gives => ?_) ht⟩
  obtain ⟨v, H1, I1, rel, p, dx, fs, rfl, isIns, noField, args⟩ := gives
  cases (show u = Value.ref p from rel)
  exact getmeth_ok I1 isIns c.cl M noField (PySem.W.callWith_K0 (first := [.ref p]) I1.kIn M.kp (run_fnS (us := [.ref p]) (vs := [.ref p]) F (hr.mono hjk) b (passAt tk σ) I1 (.cons rfl .nil) args))
end
/-! try with several clauses, some of which name the caught error -/
inductive ClauseM where
  | named (k : Clause)
  | bare (k : Clause)
/-- the wishes of the clauses, from the first -/
def wClM (K : PySem.W.Frag) (i : Nat) (out : WX) (D : Ends) : List ClauseM → WX
  | [] => out
  | .named k :: r => fun cv dd τ G => ∃ yes, PySem.W.exmOne K cv k.1 = some yes ∧ if yes = true then (∀ e, G e = none → k.2 e cv dd (dropE i D) (τ.set i (some (.ref e))) G) else wClM K i out D r cv dd τ G
  | .bare k :: r => fun cv dd τ G => ∃ yes, PySem.W.exmOne K cv k.1 = some yes ∧ if yes = true then (∀ e, G e = none → k.2 e cv dd D τ G) else wClM K i out D r cv dd τ G
inductive WrittenM (X : Cx) (n : Str) : List ExceptHandler → List ClauseM → Prop
  | none : WrittenM X n [] []
  | one {cn : Str} {k : Clause} {st : Stmt} {more : List Stmt} {p1 p2 : Pos} {hs : List ExceptHandler} {ks : List ClauseM} (named : Names X cn k.1)
      (runs : ∀ (e : Addr) (ob : Obj) (cv : Value) (dd : Option Addr) (held : List (Addr × Obj)), Zc cv dd ob → (∃ fs, ob.data = .fields fs) → PSs (X.suite e ((e, ob) :: held)) (st :: more) (k.2 e cv dd)) (rest : WrittenM X n hs ks) :
      WrittenM X n (.ExceptHandler (some (.Name cn p1)) (some n) (st :: more) p2 :: hs) (.named k :: ks)
  | bare {cn : Str} {k : Clause} {st : Stmt} {more : List Stmt} {p1 p2 : Pos} {hs : List ExceptHandler} {ks : List ClauseM} (named : Names X cn k.1)
      (runs : ∀ (e : Addr) (ob : Obj) (cv : Value) (dd : Option Addr) (held : List (Addr × Obj)), Zc cv dd ob → (∃ fs, ob.data = .fields fs) → PSs (X.suite e ((e, ob) :: held)) (st :: more) (k.2 e cv dd)) (rest : WrittenM X n hs ks) :
      WrittenM X n (.ExceptHandler (some (.Name cn p1)) none (st :: more) p2 :: hs) (.bare k :: ks)
section
variable {X : Cx} {n : Str} {i : Nat} {body : List Stmt} {first : ExceptHandler} {others : List ExceptHandler} {ks : List ClauseM} {pos : Pos} {tb : WX → TS} {out : WX}
theorem ps_try_mix (stk : X.stack = X.env :: X.outer) (frm : X.env.frame = some X.env.locals) (nodup : X.N.Nodup) (slot : X.N[i]? = some n) (isLoc : X.env.kindOf n = some .local) (leaves : Takes X out)
    (runBody : ∀ (V : WX) (held : List (Addr × Obj)) (ex : Value → Shared → Prop), Takes (X.tr held ex) V → PassesOwn (model X.prog X.w) X.A X.env ex → PSs (X.tr held ex) body (tb V))
    (clauses : WrittenM X n (first :: others) ks) : PS X (.Try body (first :: others) [] [] pos) (fun D τ G => tb (wClM X.K i out D ks) D τ G) := by
  refine ⟨fun held s τ G D I pre => ?_⟩
  have good := I.ok
  have around : X.A.frames = some (X.env :: X.outer) := by rw [good.frames, stk]
  refine wpAny_Try_except ?_
  let after : Value → Shared → Prop := fun ev t1 => wpAny (model X.prog X.w) X.A (noteFrame ev X.env)
    (fun _ t2 => wpAny (model X.prog X.w) X.A (setFlight ev none) (fun _ t3 => wpAny (model X.prog X.w) X.A (handleBy ev X.env (first :: others)) (SP X held D) X.xe t3) X.xe t2) X.xe t1
  refine wpAny_mono ((runBody (wClM X.K i out D ks) (X.pn ++ held) after (fun ev t thrown => ?_) PassesOwn.looking).run [] s τ G D (I.toTry _) pre) (fun flow t done => ?_) (fun _ _ z => z)
  · obtain ⟨e, base, sT, heldT, τ1, G1, cv, dd, rfl, IT, newer, upT, skyT, freeE, osT, gensT, wish⟩ := thrown
    have I1 : Inv X held τ1 G1 sT := IT.ofTry good
    show wpAny (model X.prog X.w) X.A (noteFrame (.ref e) X.env) _ _ _
    refine Sky.land Zc.steady around frm (by rw [← stk]; exact skyT) fun hA fly upA => ?_
    have IA : Inv X held τ1 G1 { t with heap := hA } := I1.landed newer fly.1 (upT.trans upA) osT gensT
    obtain ⟨ob, fs, obAt, obZ, obF⟩ := fly.there
    have offFrames : e ∉ frs (X.env :: X.outer) := fun inFrames => by
      obtain ⟨_, ob2, at2, notFields⟩ := fly.2.2.1.mem inFrames
      rw [obAt] at at2
      exact notFields _ (Option.some.inj at2 ▸ obF)
    have offLocals : e ≠ X.env.locals := fun z => offFrames (List.mem_filterMap.mpr ⟨X.env, List.mem_cons_self, by rw [frm, z]⟩)
    have offOuter : e ∉ X.fs := fun m =>
      let ⟨en, enIn, q⟩ := List.mem_filterMap.mp m
      offFrames (List.mem_filterMap.mpr ⟨en, List.mem_cons_of_mem _ enIn, q⟩)
    have inSuite := IA.suite obAt obF freeE offLocals offOuter
    clear pre
    suffices each : ∀ {hs : List ExceptHandler} {cs : List ClauseM}, WrittenM X n hs cs → wClM X.K i out D cs cv dd τ1 G1 →
        wpAny (model X.prog X.w) X.A (handleBy (.ref e) X.env hs) (SP X held D) X.xe { t with heap := hA } from each clauses wish
    intro hs cs written
    induction written with
    | none =>
      intro goesOn
      refine wpAny_handleBy_nil ?_
      obtain ⟨_, _, _, ob3, fs3, tb3, _, _, at3, _, f3, g3, _⟩ := id fly
      unfold PySem.passOn
      refine wpAny_bind (wpAny_field at3 f3 g3 ?_)
      rw [if_neg (by simp)]
      have again : wpAny (model X.prog X.w) X.A (setFlight (.ref e) X.env.frame) (fun _ t4 => wpAny (model X.prog X.w) X.A (throw (.ref e) : Sem Flow) (SP X held D) X.xe t4) X.xe { t with heap := hA } := by
        rw [frm]
        exact HandSPX.setFlight_upZ fly fun hB heldB upB => wpAny_throw (leaves _ _ ⟨e, base, sT, held, τ1, G1, cv, dd, rfl, I1, newer, (upT.trans upA).trans upB, .inr (.inr (by rw [stk]; exact heldB)), freeE, osT, gensT, goesOn⟩)
      first
        | exact wpAny_bind (wpAny_pure (wpAny_bind again))
        | exact wpAny_bind again
    | @one cn k st more p1 p2 hs2 ks2 named runs rest ih =>
      rintro ⟨yes, match1, w2⟩
      have looks := PySem.W.exm_one (M := model X.prog X.w) IA.kIn (fun A Q E u kk q => wpAny_typeOf_ref (kk _ _ obAt) (by rw [obZ.1]; exact q) : PySem.W.Looks (model X.prog X.w) hA (typeOf (.ref e)) cv) match1
      refine wpAny_handleBy_cons (codeAny_handlers_test ?_) (by intro q; cases q)
      have reads : ∀ {Q E : Value → Shared → Prop}, Q k.1 { t with heap := hA } → wpAny (model X.prog X.w) (X.A.mark (some (.ref e))) (eval (.Name cn p1) X.env) Q E { t with heap := hA } := fun {Q E} q => by
        rcases named with ⟨gl, nodbg, isMod | ⟨isMod, isB, nn⟩⟩
        · exact ld_glob (X := X.suite e ((e, ob) :: (X.pn ++ held))) inSuite gl isMod q nodbg
        · exact ld_blt (X := X.suite e ((e, ob) :: (X.pn ++ held))) inSuite gl isMod isB q nn nodbg
      refine reads (looks.here ?_)
      cases yes with
      | false =>
        rw [if_neg (by decide)] at w2
        show wpAny _ X.A (handleBy (.ref e) X.env hs2) _ _ _
        exact ih w2
      | true =>
        rw [if_pos rfl] at w2
        refine codeAny_handlers_suite_as (HandSPX.lands_againZ fly fun hB flyB upB => ?_)
        have IB : Inv X held τ1 G1 { t with heap := hB } := I1.landed newer flyB.1 ((upT.trans upA).trans upB) osT gensT
        obtain ⟨obB, fsB, atB, zB, fB⟩ := flyB.there
        refine store_ok (X := X.suite e ((e, obB) :: (X.pn ++ held))) (v := .ref e) (IB.suite atB fB freeE offLocals offOuter) nodup slot (.inl isLoc) rfl (fun t5 I5 => ?_) (.inr isLoc)
        refine wpAny_mono ((runs e obB cv dd (X.pn ++ held) zB ⟨_, fB⟩).run [] t5 _ G1 _ I5 (w2 e freeE)) (fun flow t6 ended => ?_) (fun _ _ z => False.elim z)
        have gone : ∀ {τ6 : L2.St} {G6 : Hp} {Q : Shared → Prop}, Inv (X.suite e ((e, obB) :: (X.pn ++ held))) [] τ6 G6 t6 → (∀ t7, Inv X held (τ6.set i none) G6 t7 → Q t7) →
            wpAny (model X.prog X.w) X.A (do bindName X.env n .none; unbindBehindTheSuite X.env n p2) (fun _ t7 => Q t7) X.xe t6 := fun {τ6 G6 Q} I6 q => gone_ok (I6.unsuite good) nodup slot isLoc q
        cases flow with
        | ret u => exact let ⟨_, _, _, I6, r6, q6⟩ := ended; gone I6 fun _ I7 => ⟨_, _, _, I7, r6, q6⟩
        | next => exact let ⟨_, _, I6, q6⟩ := ended; gone I6 fun _ I7 => ⟨_, _, I7, q6⟩
        | brk => exact let ⟨_, _, I6, q6⟩ := ended; gone I6 fun _ I7 => ⟨_, _, I7, q6⟩
        | cont => exact let ⟨_, _, I6, q6⟩ := ended; gone I6 fun _ I7 => ⟨_, _, I7, q6⟩
    | @bare cn k st more p1 p2 hs2 ks2 named runs rest ih =>
      rintro ⟨yes, match1, w2⟩
      have looks := PySem.W.exm_one (M := model X.prog X.w) IA.kIn (fun A Q E u kk q => wpAny_typeOf_ref (kk _ _ obAt) (by rw [obZ.1]; exact q) : PySem.W.Looks (model X.prog X.w) hA (typeOf (.ref e)) cv) match1
      refine wpAny_handleBy_cons (codeAny_handlers_test ?_) (by intro q; cases q)
      have reads : ∀ {Q E : Value → Shared → Prop}, Q k.1 { t with heap := hA } → wpAny (model X.prog X.w) (X.A.mark (some (.ref e))) (eval (.Name cn p1) X.env) Q E { t with heap := hA } := fun {Q E} q => by
        rcases named with ⟨gl, nodbg, isMod | ⟨isMod, isB, nn⟩⟩
        · exact ld_glob (X := X.suite e ((e, ob) :: (X.pn ++ held))) inSuite gl isMod q nodbg
        · exact ld_blt (X := X.suite e ((e, ob) :: (X.pn ++ held))) inSuite gl isMod isB q nn nodbg
      refine reads (looks.here ?_)
      cases yes with
      | false =>
        rw [if_neg (by decide)] at w2
        show wpAny _ X.A (handleBy (.ref e) X.env hs2) _ _ _
        exact ih w2
      | true =>
        rw [if_pos rfl] at w2
        refine codeAny_handlers_suite ?_
        refine HandSPX.lands_againZ fly fun hB flyB upB => ?_
        have IB : Inv X held τ1 G1 { t with heap := hB } := I1.landed newer flyB.1 ((upT.trans upA).trans upB) osT gensT
        obtain ⟨obB, fsB, atB, zB, fB⟩ := flyB.there
        have SB := IB.suite atB fB freeE offLocals offOuter
        have w3 : k.2 e cv dd D τ1 G1 := w2 e freeE
        refine wpAny_mono ((runs e obB cv dd (X.pn ++ held) zB ⟨_, fB⟩).run [] _ _ G1 _ SB w3) (fun flow t6 ended => ?_) (fun _ _ z => False.elim z)
        cases flow with
        | ret u => exact let ⟨_, _, _, I6, r6, q6⟩ := ended; ⟨_, _, _, I6.unsuite good, r6, q6⟩
        | next => exact let ⟨_, _, I6, q6⟩ := ended; ⟨_, _, I6.unsuite good, q6⟩
        | brk => exact let ⟨_, _, I6, q6⟩ := ended; ⟨_, _, I6.unsuite good, q6⟩
        | cont => exact let ⟨_, _, I6, q6⟩ := ended; ⟨_, _, I6.unsuite good, q6⟩
  · cases flow with
    | ret u => exact let ⟨_, _, _, J, r, q⟩ := done; ⟨_, _, _, J.ofTry good, r, q⟩
    | next => exact let ⟨_, _, J, q⟩ := done; wpAny_execs_nil ⟨_, _, J.ofTry good, q⟩
    | brk => exact let ⟨_, _, J, q⟩ := done; ⟨_, _, J.ofTry good, q⟩
    | cont => exact let ⟨_, _, J, q⟩ := done; ⟨_, _, J.ofTry good, q⟩
end
/-! tables of texts -/
def txK (tx : List (Str × Str)) : List (Key × V) := tx.map fun p => (Sum.inr p.1, V.str p.2)
def getT (tx : List (Str × Str)) (n : Str) : Option Str := (tx.find? fun p => decide (p.1 = n)).map (·.2)
def putT (tx : List (Str × Str)) (n t : Str) : List (Str × Str) :=
  if (tx.any fun p => decide (p.1 = n)) = true then tx.map (fun p => if p.1 = n then (p.1, t) else p) else tx ++ [(n, t)]
def dropT (tx : List (Str × Str)) (n : Str) : List (Str × Str) := tx.filter fun p => decide (p.1 ≠ n)
theorem txK_val (n : Str) : ∀ tx : List (Str × Str), valV (txK tx) (Sum.inr n) = (getT tx n).map V.str
  | [] => rfl
  | p :: r => by
    have ih := txK_val n r
    by_cases e : p.1 = n
    · rw [show txK (p :: r) = (Sum.inr p.1, V.str p.2) :: txK r from rfl, valV_pos (by rw [e])]
      simp [getT, List.find?_cons, e]
    · rw [show txK (p :: r) = (Sum.inr p.1, V.str p.2) :: txK r from rfl, valV_neg (fun z => e (Sum.inr.inj z)), ih]
      simp [getT, List.find?_cons, e]
theorem txK_put (n t : Str) (tx : List (Str × Str)) : putK (txK tx) (Sum.inr n) (.str t) = txK (putT tx n t) := by
  unfold putK putT
  have a : ((txK tx).any fun kv => decide (kv.1 = (Sum.inr n : Key))) = tx.any fun p => decide (p.1 = n) := by
    unfold txK
    rw [List.any_map]
    congr 1
    funext p
    exact decide_eq_decide.mpr ⟨fun z => Sum.inr.inj z, fun z => congrArg _ z⟩
  rw [a]
  by_cases h : (tx.any fun p => decide (p.1 = n)) = true
  · rw [if_pos h, if_pos h]
    unfold txK
    rw [List.map_map, List.map_map]
    refine List.map_congr_left fun p _ => ?_
    show (if (Sum.inr p.1 : Key) = Sum.inr n then ((Sum.inr p.1 : Key), V.str t) else (Sum.inr p.1, V.str p.2)) = ((Sum.inr (if p.1 = n then (p.1, t) else p).1 : Key), V.str (if p.1 = n then (p.1, t) else p).2)
    by_cases e : p.1 = n
    · rw [if_pos (by rw [e]), if_pos e]
    · rw [if_neg (fun z => e (Sum.inr.inj z)), if_neg e]
  · rw [if_neg h, if_neg h]
    unfold txK
    rw [List.map_append]
    rfl
theorem txK_drop (n : Str) (tx : List (Str × Str)) : dropK (txK tx) (Sum.inr n) = txK (dropT tx n) := by
  unfold dropK dropT txK
  rw [List.filter_map]
  congr 1
  refine List.filter_congr fun p _ => ?_
  exact decide_eq_decide.mpr ⟨fun z y => z (congrArg _ y), fun z y => z (Sum.inr.inj y)⟩
theorem txK_len (tx : List (Str × Str)) : (txK tx).length = tx.length := List.length_map ..
theorem txK_keys (tx : List (Str × Str)) : (txK tx).map (·.1) = (tx.map (·.1)).map Sum.inr := by unfold txK; rw [List.map_map, List.map_map]; rfl
theorem putT_len (tx : List (Str × Str)) (n t : Str) : (putT tx n t).length ≤ tx.length + 1 := by
  unfold putT
  split
  · rw [List.length_map]; omega
  · rw [List.length_append]; exact Nat.le_refl _
theorem dropT_len (tx : List (Str × Str)) (n : Str) : (dropT tx n).length ≤ tx.length := List.length_filter_le _ _
theorem putT_mem {tx : List (Str × Str)} {n t : Str} {p : Str × Str} (h : p ∈ putT tx n t) : p ∈ tx ∨ p = (n, t) := by
  unfold putT at h
  split at h
  · obtain ⟨q, hq, e⟩ := List.mem_map.mp h
    by_cases c : q.1 = n
    · rw [if_pos c, c] at e; exact .inr e.symm
    · rw [if_neg c] at e; exact .inl (e ▸ hq)
  · rcases List.mem_append.mp h with h | h
    · exact .inl h
    · exact .inr (List.mem_singleton.mp h)
theorem dropT_mem {tx : List (Str × Str)} {n : Str} {p : Str × Str} (h : p ∈ dropT tx n) : p ∈ tx := (List.mem_filter.mp h).1
theorem getT_mem {tx : List (Str × Str)} {n t : Str} (h : getT tx n = some t) : (n, t) ∈ tx := by
  unfold getT at h
  obtain ⟨p, hp, e⟩ := Option.map_eq_some_iff.mp h
  have h1 := List.find?_some hp
  have h2 := List.mem_of_find?_eq_some hp
  have h3 : p.1 = n := of_decide_eq_true h1
  rw [← e, ← h3]; exact h2
theorem getT_put (tx : List (Str × Str)) (n t m : Str) : getT (putT tx n t) m = if m = n then some t else getT tx m := by
  have h := valV_put (txK tx) (Sum.inr n) (Sum.inr m) (.str t)
  rw [txK_put, txK_val, txK_val] at h
  by_cases e : m = n
  · rw [if_pos (by rw [e])] at h
    rw [if_pos e]
    cases g : getT (putT tx n t) m with
    | none => rw [g] at h; cases h
    | some x => rw [g] at h; cases h; rfl
  · rw [if_neg (fun z => e (Sum.inr.inj z))] at h
    rw [if_neg e]
    cases g : getT (putT tx n t) m with
    | none =>
      rw [g] at h
      cases g2 : getT tx m with
      | none => rfl
      | some y => rw [g2] at h; cases h
    | some x =>
      rw [g] at h
      cases g2 : getT tx m with
      | none => rw [g2] at h; cases h
      | some y => rw [g2] at h; cases h; rfl
theorem getT_none {tx : List (Str × Str)} {n : Str} (h : getT tx n = none) : n ∉ tx.map (·.1) := fun m => by
  obtain ⟨p, hp, e⟩ := List.mem_map.mp m
  unfold getT at h
  have h := List.find?_eq_none.mp (Option.map_eq_none_iff.mp h) p hp
  exact h (decide_eq_true e)
theorem putT_nd {tx : List (Str × Str)} (n t : Str) (h : (tx.map (·.1)).Nodup) : ((putT tx n t).map (·.1)).Nodup := by
  unfold putT
  split
  · rw [List.map_map]
    rw [show ((fun x : Str × Str => x.1) ∘ fun p : Str × Str => if p.1 = n then (p.1, t) else p) = fun x => x.1 from by
      funext p
      show (if p.1 = n then (p.1, t) else p).1 = p.1
      split <;> rfl]
    exact h
  · rename_i c
    rw [List.map_append, List.nodup_append]
    refine ⟨h, List.nodup_cons.mpr ⟨List.not_mem_nil, List.nodup_nil⟩, fun a ha b hb => ?_⟩
    rw [List.mem_singleton.mp hb]
    intro e
    obtain ⟨q, hq, eq⟩ := List.mem_map.mp ha
    exact c (List.any_eq_true.mpr ⟨q, hq, decide_eq_true (eq.trans e)⟩)
theorem dropT_nd {tx : List (Str × Str)} (n : Str) (h : (tx.map (·.1)).Nodup) : ((dropT tx n).map (·.1)).Nodup := by
  unfold dropT
  exact h.sublist (List.filter_sublist.map _)
theorem cut_map {α : Type} (f : α → V) (xs : List α) (lo hi : Option Int) : ∃ ys : List α, cutV (xs.map f) lo hi = ys.map f ∧ ys.Sublist xs := by
  refine ⟨(xs.drop (HT.sIx (xs.map f).length 0 lo)).take (HT.sIx (xs.map f).length (xs.map f).length hi - HT.sIx (xs.map f).length 0 lo), ?_, (List.take_sublist _ _).trans (List.drop_sublist _ _)⟩
  unfold cutV
  rw [← List.map_drop, ← List.map_take]
theorem cutV_to (xs : List V) (m : Nat) : cutV xs none (some (m : Int)) = xs.take m := by
  unfold cutV
  rw [HT.sIx_nat, HT.sIx_none, List.drop_zero, Nat.sub_zero]
  rcases Nat.le_total m xs.length with h | h
  · rw [Nat.min_eq_left h]
  · rw [Nat.min_eq_right h, List.take_of_length_le (Nat.le_refl _), List.take_of_length_le h]
theorem cutV_from (xs : List V) (m : Nat) : cutV xs (some (m : Int)) none = xs.drop m := by
  unfold cutV
  rw [HT.sIx_nat, HT.sIx_none, List.take_of_length_le (by rw [List.length_drop]; exact Nat.le_refl _)]
  rcases Nat.le_total m xs.length with h | h
  · rw [Nat.min_eq_left h]
  · rw [Nat.min_eq_right h, List.drop_of_length_le (Nat.le_refl _), List.drop_of_length_le h]
mutual
/-- what does not reach the lists that change stays -/
theorem Rq.off {S : List Addr} {H H' : Hp} (k : Kp S H H') (n : ∀ b ∈ S, ∀ xs, H b ≠ some (.lst xs)) : ∀ {v : V} {d : PyData}, Rq H v d → Rq H' v d
  | _, _, .non => .non
  | _, _, .bl b => .bl b
  | _, _, .int i => .int i
  | _, _, .str z => .str z
  | _, _, .lst e r => .lst (k.keep _ _ (fun m => n _ m _ e) e) (r.off k n)
  | _, _, .tup e r => .tup (k.tup _ _ e) (r.off k n)
theorem RqA.off {S : List Addr} {H H' : Hp} (k : Kp S H H') (n : ∀ b ∈ S, ∀ xs, H b ≠ some (.lst xs)) : ∀ {vs : List V} {ds : List PyData}, RqA H vs ds → RqA H' vs ds
  | _, _, .nil => .nil
  | _, _, .cons a b => .cons (a.off k n) (b.off k n)
end
end SC

namespace SC
open PySem L2
def top (i : Nat) : Stmt := PySem.Challenge.pw_sealchart_k46_disk_that_crashes.main.body.getD i (.Pass ⟨0, 0, 0, 0⟩)
local macro_rules | `(tactic| walk_at "wp") => `(tactic| simp (config := { decide := false }) only [tFmtX, gCons, gNil, tSeq, tAsg, tIfS, tRet, tTest, tOp, tUn, tVar, tC, tCB, tCall, tCons, tNil, tLst, tTup, tAnd, tOr, tNot, tAndV, tOrV, tNotV, tB, tChain, tIf, tIsT, tSl, rSlS, tNoPart, tPart, tErr, tAug, ipI, tDrop, tM1, tBM, rAppend, tFld, sFld, sDPut, tDGet1, tDNewT, tDNewK, tDisp, tPairs, tDGet, tDIn, tDNotIn, tDPop1, tDPop2, tDGet2, sDDel, sFldAug, tMeth, tMake, gSub, gName, tNext, rI, rI0, rU, rEq, rNe, scal, rSetL, L2.start, List.map_cons, List.map_nil, List.length_cons, List.length_nil, List.replicate, List.cons_append, List.nil_append, List.append_nil, List.getElem?_cons_zero, List.getElem?_cons_succ, List.set_cons_zero, List.set_cons_succ, cxOf,
    Option.some.injEq, V.int.injEq, V.ref.injEq, V.str.injEq, V.bl.injEq, V.ty.injEq, HO.lst.injEq, HO.tup.injEq, List.cons.injEq, exists_eq_left, exists_eq_left', exists_eq_right, exists_and_left, exists_eq, and_true, true_and, and_assoc, reduceCtorEq, false_and, and_false, exists_false, or_false, false_or, decide_eq_true_eq, Bool.not_eq_true', decide_eq_false_iff_not, decide_true, decide_false, Bool.false_eq_true, upd_same, at0, at1, ixN_20, ixN_21, ixN_10, if_true, if_false, ite_true, ite_false, Nat.reduceAdd, Nat.reduceSub, tyN_non, tyN_bl, tyN_int, tyN_str, isaB_all])
local macro_rules | `(tactic| walk_at "wt") => `(tactic| simp (config := { decide := false }) only [tTest, tOp, tVar, tC, tCB, tCons, tNil, tSl, rSlS, tNoPart, tPart, tB, tAnd, tOr, tNot, tAndV, tOrV, tNotV, tChain, tIsT, rI, rI0, rU, rEq, rNe, scal, List.getElem?_cons_zero, List.getElem?_cons_succ,
    Option.some.injEq, V.int.injEq, V.ref.injEq, V.str.injEq, V.bl.injEq, V.ty.injEq, HO.lst.injEq, HO.tup.injEq, List.cons.injEq, exists_eq_left, exists_eq_left', exists_eq_right, exists_and_left, exists_eq, and_true, true_and, and_assoc, reduceCtorEq, false_and, and_false, exists_false, or_false, false_or, decide_eq_true_eq, Bool.not_eq_true', decide_eq_false_iff_not, decide_true, decide_false, Bool.false_eq_true, upd_same, at0, at1, ixN_20, ixN_21, ixN_10, if_true, if_false, ite_true, ite_false, Nat.reduceAdd, Nat.reduceSub, tyN_non, tyN_bl, tyN_int, tyN_str, isaB_all])
local macro_rules | `(tactic| walk_at "wq") => `(tactic| simp (config := { decide := false }) only [tFmtX, gCons, gNil, tSeq, tAsg, tIfS, tRet, tTest, tOp, tUn, tVar, tC, tCB, tCall, tCons, tNil, tLst, tTup, tAnd, tOr, tNot, tAndV, tOrV, tNotV, tB, tChain, tIf, tIsT, tSl, rSlS, tNoPart, tPart, tErr, tAug, ipI, tDrop, tM1, tBM, rAppend, tFld, sFld, sDPut, tDGet1, tDNewT, tMethV, WE, tDNewK, tDisp, tPairs, tDGet, tDIn, tDNotIn, tDPop1, tDPop2, tDGet2, sDDel, sFldAug, tMeth, tMake, gSub, gName, tNext, rI, rI0, rU, rEq, rNe, scal, rSetL, L2.start, List.map_cons, List.map_nil, List.length_cons, List.length_nil, List.replicate, List.cons_append, List.nil_append, List.append_nil, List.getElem?_cons_zero, List.getElem?_cons_succ, List.set_cons_zero, List.set_cons_succ, cxOf,
    Option.some.injEq, V.int.injEq, V.ref.injEq, V.str.injEq, V.bl.injEq, V.ty.injEq, HO.lst.injEq, HO.tup.injEq, List.cons.injEq, exists_eq_left, exists_eq_left', exists_eq_right, exists_and_left, exists_eq, and_true, true_and, and_assoc, reduceCtorEq, false_and, and_false, exists_false, or_false, false_or, decide_eq_true_eq, Bool.not_eq_true', decide_eq_false_iff_not, decide_true, decide_false, Bool.false_eq_true, upd_same, at0, at1, ixN_20, ixN_21, ixN_10, if_true, if_false, ite_true, ite_false, Nat.reduceAdd, Nat.reduceSub, tyN_non, tyN_bl, tyN_int, tyN_str, isaB_all])

/-! the disk -/
abbrev s_Disk___init : Stmt := inClass (top 5) 0
abbrev N_Disk___init : List Str := ["self"]
theorem sc_Disk___init : FnScope N_Disk___init ["self"] (defScope s_Disk___init) := ⟨rfl, rfl, rfl, by decide +kernel, rfl, by decide +kernel, by decide +kernel⟩
abbrev s_Disk_put : Stmt := inClass (top 5) 1
abbrev N_Disk_put : List Str := ["self", "name", "text"]
theorem sc_Disk_put : FnScope N_Disk_put ["self", "name", "text"] (defScope s_Disk_put) := ⟨rfl, rfl, rfl, by decide +kernel, rfl, by decide +kernel, by decide +kernel⟩
abbrev s_Disk_remove : Stmt := inClass (top 5) 2
abbrev N_Disk_remove : List Str := ["self", "name"]
theorem sc_Disk_remove : FnScope N_Disk_remove ["self", "name"] (defScope s_Disk_remove) := ⟨rfl, rfl, rfl, by decide +kernel, rfl, by decide +kernel, by decide +kernel⟩
abbrev s_Disk_read : Stmt := inClass (top 5) 3
abbrev N_Disk_read : List Str := ["self", "name"]
theorem sc_Disk_read : FnScope N_Disk_read ["self", "name"] (defScope s_Disk_read) := ⟨rfl, rfl, rfl, by decide +kernel, rfl, by decide +kernel, by decide +kernel⟩
abbrev s_Disk_names : Stmt := inClass (top 5) 4
abbrev N_Disk_names : List Str := ["self"]
theorem sc_Disk_names : FnScope N_Disk_names ["self"] (defScope s_Disk_names) := ⟨rfl, rfl, rfl, by decide +kernel, rfl, by decide +kernel, by decide +kernel⟩
abbrev s_Disk_arm : Stmt := inClass (top 5) 5
abbrev N_Disk_arm : List Str := ["self", "count", "kept"]
theorem sc_Disk_arm : FnScope N_Disk_arm ["self", "count", "kept"] (defScope s_Disk_arm) := ⟨rfl, rfl, rfl, by decide +kernel, rfl, by decide +kernel, by decide +kernel⟩
abbrev s_Disk_restart : Stmt := inClass (top 5) 6
abbrev N_Disk_restart : List Str := ["self"]
theorem sc_Disk_restart : FnScope N_Disk_restart ["self"] (defScope s_Disk_restart) := ⟨rfl, rfl, rfl, by decide +kernel, rfl, by decide +kernel, by decide +kernel⟩
abbrev s_Disk__has : Stmt := inClass (top 5) 7
abbrev N_Disk__has : List Str := ["self", "name"]
theorem sc_Disk__has : FnScope N_Disk__has ["self", "name"] (defScope s_Disk__has) := ⟨rfl, rfl, rfl, by decide +kernel, rfl, by decide +kernel, by decide +kernel⟩
abbrev s_Disk__require_running : Stmt := inClass (top 5) 8
abbrev N_Disk__require_running : List Str := ["self"]
theorem sc_Disk__require_running : FnScope N_Disk__require_running ["self"] (defScope s_Disk__require_running) := ⟨rfl, rfl, rfl, by decide +kernel, rfl, by decide +kernel, by decide +kernel⟩
abbrev s_Disk__takes_effect : Stmt := inClass (top 5) 9
abbrev N_Disk__takes_effect : List Str := ["self"]
theorem sc_Disk__takes_effect : FnScope N_Disk__takes_effect ["self"] (defScope s_Disk__takes_effect) := ⟨rfl, rfl, rfl, by decide +kernel, rfl, by decide +kernel, by decide +kernel⟩
/-- what a disk holds, whether it is down, how many operations pass, what the last one does -/
structure Dst where
  tx : List (Str × Str)
  down : Bool
  left : Option Int
  kept : Bool
def leftV : Option Int → V
  | none => .non
  | some n => .int n
def Dst.fs (s : Dst) (dm : Addr) : List (Str × V) := [("_texts", .ref dm), ("_crashed", .bl s.down), ("_left", leftV s.left), ("_kept", .bl s.kept)]
/-- a disk at o, its dict at dm -/
structure Dsk (C o dm : Addr) (s : Dst) (H : Hp) : Prop where
  ob : ∃ dx, H o = some (.ins C dx (s.fs dm))
  dc : H dm = some (.dK (txK s.tx))
  nd : (s.tx.map (·.1)).Nodup
/-- one operation counted -/
def Dst.eff (s : Dst) : Bool × Dst :=
  match s.left with
  | none => (true, s)
  | some n => if n > 0 then (true, { s with left := some (n - 1) }) else (s.kept, { s with down := true })
def Dst.put (s : Dst) (n t : Str) : Dst := if s.eff.1 = true then { s.eff.2 with tx := putT s.tx n t } else s.eff.2
def Dst.drop (s : Dst) (n : Str) : Dst := if s.eff.1 = true then { s.eff.2 with tx := dropT s.tx n } else s.eff.2
def hasD (tx : List (Str × Str)) : V → Bool
  | .str n => (getT tx n).isSome
  | _ => false
/-- a name and a text for put -/
def putOk : V → V → Bool
  | .str n, .str _ => !decide (n = Str.ofString "")
  | _, _ => false
def optV : Option Str → V
  | none => .non
  | some t => .str t
def spDInit (C : Addr) : Sp := fun vs H Q _ => ∃ (o dx : Addr), vs = [.ref o] ∧ H o = some (.ins C dx []) ∧ ∀ (dm : Addr) (H' : Hp), H dm = none → dm ≠ o → Dsk C o dm ⟨[], false, none, false⟩ H' → Kp [o] H H' → Q .non H'
def spDReq (C CC : Addr) : Sp := fun vs H Q E => ∃ (o dm : Addr) (s : Dst), vs = [.ref o] ∧ Dsk C o dm s H ∧ (s.down = true → E (.ref CC) none H) ∧ (s.down = false → Q .non H)
def spDEff (C : Addr) : Sp := fun vs H Q _ => ∃ (o dm : Addr) (s : Dst), vs = [.ref o] ∧ Dsk C o dm s H ∧ ∀ H', Kp [o] H H' → Dsk C o dm s.eff.2 H' → Q (.bl s.eff.1) H'
def spDHas (C : Addr) : Sp := fun vs H Q _ => ∃ (o dm : Addr) (s : Dst) (a : V), vs = [.ref o, a] ∧ Dsk C o dm s H ∧ (∃ t, tyN H a = some t) ∧ Q (.bl (hasD s.tx a)) H
def spDPut (C CC CE : Addr) : Sp := fun vs H Q E => ∃ (o dm : Addr) (s : Dst) (a b : V), vs = [.ref o, a, b] ∧ Dsk C o dm s H ∧ (∃ t, tyN H a = some t) ∧ (∃ t, tyN H b = some t) ∧ s.tx.length ≤ 10000 ∧
  (s.down = true → E (.ref CC) none H) ∧ (s.down = false → putOk a b = false → E (.ref CE) none H) ∧
  ∀ n t : Str, a = .str n → b = .str t → putOk a b = true → s.down = false → ∀ H', Kp [o, dm] H H' → Dsk C o dm (s.put n t) H' → if (s.put n t).down = true then E (.ref CC) none H' else Q .non H'
def spDDrop (C CC CE : Addr) : Sp := fun vs H Q E => ∃ (o dm : Addr) (s : Dst) (a : V), vs = [.ref o, a] ∧ Dsk C o dm s H ∧ (∃ t, tyN H a = some t) ∧
  (s.down = true → E (.ref CC) none H) ∧ (s.down = false → hasD s.tx a = false → E (.ref CE) none H) ∧
  ∀ n : Str, a = .str n → hasD s.tx a = true → s.down = false → ∀ H', Kp [o, dm] H H' → Dsk C o dm (s.drop n) H' → if (s.drop n).down = true then E (.ref CC) none H' else Q .non H'
def spDRead (C CC : Addr) : Sp := fun vs H Q E => ∃ (o dm : Addr) (s : Dst) (a : V), vs = [.ref o, a] ∧ Dsk C o dm s H ∧ (∃ t, tyN H a = some t) ∧
  (s.down = true → E (.ref CC) none H) ∧ (s.down = false → (∀ n, a = .str n → Q (optV (getT s.tx n)) H) ∧ ((∀ n, a ≠ .str n) → Q .non H))
def spDNames (C CC : Addr) : Sp := fun vs H Q E => ∃ (o dm : Addr) (s : Dst), vs = [.ref o] ∧ Dsk C o dm s H ∧ s.tx.length < 64 ∧
  (s.down = true → E (.ref CC) none H) ∧ (s.down = false → ∀ (ys : List Str) (p : Addr), asc ys = true → (∀ z, z ∈ ys ↔ z ∈ s.tx.map (·.1)) → ys.length = s.tx.length → H p = none → Q (.ref p) (upd H p (.lst (ys.map V.str))))
def Dst.arm (s : Dst) (n : Int) (k : Bool) : Dst := if s.down = true then s else { s with left := some n, kept := k }
def Dst.restart (s : Dst) : Dst := { s with down := false, left := none }
def spDArm (C : Addr) : Sp := fun vs H Q _ => ∃ (o dm : Addr) (s : Dst) (n : Int) (k : Bool), vs = [.ref o, .int n, .bl k] ∧ Dsk C o dm s H ∧ ∀ H', Kp [o] H H' → Dsk C o dm (s.arm n k) H' → Q .non H'
def spDRestart (C : Addr) : Sp := fun vs H Q _ => ∃ (o dm : Addr) (s : Dst), vs = [.ref o] ∧ Dsk C o dm s H ∧ ∀ H', Kp [o] H H' → Dsk C o dm s.restart H' → Q .non H'
structure DkC (K : PySem.W.Frag) (mg : Str → Option Value) (C CC CE : Addr) : Prop where
  cl : Cls K C
  n1 : NoAttr K C "_texts"
  n2 : NoAttr K C "_crashed"
  n3 : NoAttr K C "_left"
  n4 : NoAttr K C "_kept"
  DiskCrashed : Err K mg "DiskCrashed" CC
  DiskError : Err K mg "DiskError" CE
theorem Kp.ins {S : List Addr} {H : Hp} {p C dx dy : Addr} {fs gs : List (Str × V)} (h : H p = some (.ins C dx fs)) (m : p ∈ S) : Kp S H (L2.upd H p (.ins C dy gs)) :=
  ⟨fun b u n q => by rw [upd_ne (fun z => n (by rw [z]; exact m))]; exact q, fun b xs q => by rw [upd_ne (ne_of q h (by intro z; cases z))]; exact q⟩
theorem Kp.dK {S : List Addr} {H : Hp} {p : Addr} {fs gs : List (Key × V)} (h : H p = some (.dK fs)) (m : p ∈ S) : Kp S H (L2.upd H p (.dK gs)) :=
  ⟨fun b u n q => by rw [upd_ne (fun z => n (by rw [z]; exact m))]; exact q, fun b xs q => by rw [upd_ne (ne_of q h (by intro z; cases z))]; exact q⟩
theorem Dsk.ne {C o dm : Addr} {s : Dst} {H : Hp} (h : Dsk C o dm s H) : o ≠ dm := let ⟨_, e⟩ := h.ob; ne_of e h.dc (by intro z; cases z)
theorem Dsk.kp {S : List Addr} {C o dm : Addr} {s : Dst} {H H' : Hp} (h : Dsk C o dm s H) (k : Kp S H H') (n1 : o ∉ S) (n2 : dm ∉ S) : Dsk C o dm s H' :=
  let ⟨dx, e⟩ := h.ob
  ⟨⟨dx, k.keep _ _ n1 e⟩, k.keep _ _ n2 h.dc, h.nd⟩
theorem Dsk.kp0 {C o dm : Addr} {s : Dst} {H H' : Hp} (h : Dsk C o dm s H) (k : Kp [] H H') : Dsk C o dm s H' := h.kp k List.not_mem_nil List.not_mem_nil
section
variable {P : Program} {w : World} {K : PySem.W.Frag} {mg : Str → Option Value} {base : Heap} {f : Addr} {fd : FuncData} {C CC CE : Addr}
theorem ok_dinit (F : Fun K "__init__" "Disk.__init__" s_Disk___init f fd) (T : DkC K mg C CC CE) : FnOk P w K mg base CX0 1 f fd ["self"] (spDInit C) := by
  refine F.ok sc_Disk___init (fun vs H Q E h => ?_) (fun cdv A outer s H vs Q E hr h => ?_)
  · obtain ⟨o, dx, rfl, _⟩ := h; rfl
  obtain ⟨o, dx, rfl, ho, q⟩ := h
  refine ⟨_, (pss_cons (ps_fld (pv 0) pe_dnewK rfl)
    (pss_cons (ps_fld (pv 0) pe_bl rfl)
    (pss_cons (ps_fld (pv 0) pe_non rfl)
    (pss_one (ps_fld (pv 0) pe_bl rfl))))), ?_⟩
  walk_at "wp"
  intro p hp
  have no : o ≠ p := ne_of_none ho hp
  refine ⟨C, dx, [], by rw [upd_ne no]; exact ho, T.cl, T.n1, (by decide), C, dx, _, rfl, T.cl, T.n2, (by show 1 < 1000; decide), C, dx, _, rfl, T.cl, T.n3, (by show 2 < 1000; decide), C, dx, _, rfl, T.cl, T.n4, (by show 3 < 1000; decide), ?_⟩
  have e1 : upd H p (.dK []) o = some (.ins C dx []) := by rw [upd_ne no]; exact ho
  refine q p _ hp no.symm ⟨⟨dx, upd_same⟩, ?_, List.nodup_nil⟩ ?_
  · rw [upd_ne no.symm, upd_ne no.symm, upd_ne no.symm, upd_ne no.symm, upd_same]; rfl
  · have m : o ∈ [o] := List.mem_singleton.mpr rfl
    exact ((((Kp.new hp _).trans (Kp.ins e1 m)).trans (Kp.ins upd_same m)).trans (Kp.ins upd_same m)).trans (Kp.ins upd_same m)
theorem ok_dreq (F : Fun K "_require_running" "Disk._require_running" s_Disk__require_running f fd) (T : DkC K mg C CC CE) : FnOk P w K mg base (L2.CX P w) 1 f fd ["self"] (spDReq C CC) := by
  refine F.okX sc_Disk__require_running (fun vs H Q E h => ?_) (fun cdv A outer s H vs Q E hr h => ?_)
  · obtain ⟨o, dm, st, rfl, _⟩ := h; rfl
  obtain ⟨o, dm, st, rfl, hD, e, q⟩ := h
  refine ⟨_, (pss_one (ps_if (pt_val (pe_fld (pv 0) rfl)) (pss_one (T.DiskCrashed.raise (takes_of rfl rfl rfl rfl))) pss_nil)), ?_⟩
  walk_at "wp"
  obtain ⟨dx, ho⟩ := hD.ob
  refine ⟨C, dx, _, ho, T.cl, T.n2, _, rfl, _, rfl, ?_⟩
  split
  · rename_i c; exact e c
  · rename_i c; exact q (by simpa using c)
theorem ok_deff (F : Fun K "_takes_effect" "Disk._takes_effect" s_Disk__takes_effect f fd) (T : DkC K mg C CC CE) : FnOk P w K mg base CX0 1 f fd ["self"] (spDEff C) := by
  refine F.ok sc_Disk__takes_effect (fun vs H Q E h => ?_) (fun cdv A outer s H vs Q E hr h => ?_)
  · obtain ⟨o, dm, st, rfl, _⟩ := h; rfl
  obtain ⟨o, dm, st, rfl, hD, q⟩ := h
  refine ⟨_, (pss_cons (ps_if (pt_cmpR op_isN (pe_fld (pv 0) rfl) pe_non (nomark _)) (pss_one (ps_ret pe_bl)) pss_nil)
    (pss_cons (ps_if (pt_cmpR op_gt (pe_fld (pv 0) rfl) pe_int (nomark _)) (pss_cons (ps_fldaug (pv 0) pe_int in_sub)
    (pss_one (ps_ret pe_bl))) pss_nil)
    (pss_cons (ps_fld (pv 0) pe_bl rfl)
    (pss_one (ps_ret (pe_fld (pv 0) rfl)))))), ?_⟩
  walk_at "wp"
  obtain ⟨dx, ho⟩ := hD.ob
  have m : o ∈ [o] := List.mem_singleton.mpr rfl
  refine ⟨C, dx, _, ho, T.cl, T.n3, _, rfl, ?_⟩
  obtain ⟨tx, down, left, kept⟩ := st
  cases left with
  | none =>
    show if V.non = V.non then _ else _
    rw [if_pos rfl]
    exact q H (Kp.refl _ _) hD
  | some n =>
    show if V.int n = V.non then _ else _
    rw [if_neg (by intro z; cases z)]
    refine ⟨C, dx, _, ho, T.cl, T.n3, _, rfl, n, rfl, ?_⟩
    by_cases h : 0 < n
    · rw [if_pos h]
      refine ⟨C, dx, _, ho, T.cl, T.n3, _, rfl, ?_⟩
      show ∃ i j : Int, _
      refine ⟨n, 1, rfl, rfl, dx, _, ho, (by show 4 < 1000; decide), ?_⟩
      have e : (Dst.eff ⟨tx, down, some n, kept⟩) = (true, ⟨tx, down, some (n - 1), kept⟩) := if_pos h
      rw [e] at q
      exact q _ (Kp.ins ho m) ⟨⟨dx, upd_same⟩, by rw [upd_ne hD.ne.symm]; exact hD.dc, hD.nd⟩
    · rw [if_neg h]
      refine ⟨C, dx, _, ho, T.cl, T.n2, (by show 4 < 1000; decide), C, dx, _, rfl, T.cl, T.n4, _, rfl, ?_⟩
      have e : (Dst.eff ⟨tx, down, some n, kept⟩) = (kept, ⟨tx, true, some n, kept⟩) := if_neg h
      rw [e] at q
      exact q _ (Kp.ins ho m) ⟨⟨dx, upd_same⟩, by rw [upd_ne hD.ne.symm]; exact hD.dc, hD.nd⟩
theorem ok_dhas (F : Fun K "_has" "Disk._has" s_Disk__has f fd) (B : Blt mg) (T : DkC K mg C CC CE) : FnOk P w K mg base CX0 1 f fd ["self", "name"] (spDHas C) := by
  refine F.ok sc_Disk__has (fun vs H Q E h => ?_) (fun cdv A outer s H vs Q E hr h => ?_)
  · obtain ⟨o, dm, st, a, rfl, _⟩ := h; rfl
  obtain ⟨o, dm, st, a, rfl, hD, ⟨t, ht⟩, q⟩ := h
  refine ⟨_, (pss_one (ps_ret (pe_and (B.isT (pv 1) B.v_str) (pe_one (pe_cmp (pc_din (hu_of hr) (pv 1) (pe_fld (pv 0) rfl))))))), ?_⟩
  walk_at "wp"
  obtain ⟨dx, ho⟩ := hD.ob
  refine ⟨t, ht, ?_⟩
  split
  · rename_i c
    obtain ⟨z, rfl⟩ := isa_str ht c
    refine ⟨C, dx, _, ho, T.cl, T.n1, _, rfl, dm, rfl, _, DGet.k (k := Sum.inr z) hD.dc, ?_⟩
    rw [txK_val, Option.isSome_map]
    exact q
  · rename_i c
    cases a with
    | str z => cases ht; exact absurd rfl c
    | _ => exact q
theorem ok_dput (F : Fun K "put" "Disk.put" s_Disk_put f fd) (B : Blt mg) (T : DkC K mg C CC CE) (m_Disk_require_running : CalM P w K mg base (L2.CX P w) 1 C "_require_running" (spDReq C CC)) (m_Disk_takes_effect : CalM P w K mg base CX0 1 C "_takes_effect" (spDEff C)) :
    FnOk P w K mg base (L2.CX P w) 2 f fd ["self", "name", "text"] (spDPut C CC CE) := by
  refine F.okX sc_Disk_put (fun vs H Q E h => ?_) (fun cdv A outer s H vs Q E hr h => ?_)
  · obtain ⟨o, dm, st, a, b, rfl, _⟩ := h; rfl
  obtain ⟨o, dm, st, a, b, rfl, hD, ⟨t1, h1⟩, ⟨t2, h2⟩, hl, e1, e2, q⟩ := h
  refine ⟨_, (pss_cons (ps_expr (m_Disk_require_running.pex0 hr (passX (takes_of rfl rfl rfl rfl) fun _ _ _ _ h => h) (pv 0)))
    (pss_cons (ps_if (PW.pt (pw_or (pt_not (pt_val (B.isT (pv 1) B.v_str))) (pw_or (pt_cmpR op_eq (pv 1) pe_str (nomark _)) (pw_or1 (pt_not (pt_val (B.isT (pv 2) B.v_str))))))) (pss_one (T.DiskError.raise (takes_of rfl rfl rfl rfl))) pss_nil)
    (pss_cons (ps_if (pt_val (m_Disk_takes_effect.pe0 hr (pv 0))) (pss_one (ps_dput (hu_of hr) (pe_fld (pv 0) rfl) (pv 1) (pv 2) rfl)) pss_nil)
    (pss_one (ps_expr (m_Disk_require_running.pex0 hr (passX (takes_of rfl rfl rfl rfl) fun _ _ _ _ h => h) (pv 0))))))), ?_⟩
  walk_at "wp"
  obtain ⟨dx, ho⟩ := hD.ob
  refine ⟨dx, _, ho, rfl, o, dm, st, rfl, hD, e1, fun nd => ⟨t1, h1, ?_⟩⟩
  split
  · rename_i c
    refine e2 nd ?_
    cases a with
    | str z => cases h1; cases c
    | _ => rfl
  · rename_i c
    obtain ⟨z, rfl⟩ := isa_str h1 (by simpa using c)
    refine ⟨rfl, ?_⟩
    split
    · rename_i ez
      refine e2 nd ?_
      cases b with
      | str y => show (!decide (z = Str.ofString "")) = false; rw [decide_eq_true (V.str.inj ez)]; rfl
      | _ => rfl
    · rename_i ez
      refine ⟨t2, h2, ?_⟩
      split
      · rename_i c2
        refine e2 nd ?_
        cases b with
        | str y => cases h2; cases c2
        | _ => rfl
      · rename_i c2
        obtain ⟨y, rfl⟩ := isa_str h2 (by simpa using c2)
        have good : putOk (.str z) (.str y) = true := by
          show (!decide (z = Str.ofString "")) = true
          rw [decide_eq_false fun h => ez (by rw [h])]; rfl
        have q := q z y rfl rfl good nd
        refine ⟨dx, _, ho, rfl, o, dm, st, rfl, hD, fun H1 k1 D1 => ⟨_, rfl, ?_⟩⟩
        obtain ⟨dx1, ho1⟩ := D1.ob
        have m0 : ∀ b ∈ [o], b ∈ [o, dm] := fun b hb => by rw [List.mem_singleton.mp hb]; exact List.mem_cons_self
        have fin : ∀ H2, Kp [o, dm] H H2 → Dsk C o dm (st.put z y) H2 → ∃ x x_1, H2 o = some (HO.ins C x x_1) ∧ List.lookup (Str.ofString "_require_running") x_1 = none ∧ spDReq C CC [V.ref o] H2 (fun x H1 => Q V.non H1) E := fun H2 k2 D2 => by
          obtain ⟨dx2, ho2⟩ := D2.ob
          have q := q H2 k2 D2
          refine ⟨dx2, _, ho2, rfl, o, dm, _, rfl, D2, fun h => ?_, fun h => ?_⟩
          · rw [if_pos h] at q; exact q
          · rw [if_neg (by rw [h]; decide)] at q; exact q
        have st_tx : st.eff.2.tx = st.tx := by
          unfold Dst.eff
          split
          · rfl
          · split <;> rfl
        split
        · rename_i c3
          have hl2 : (txK st.eff.2.tx).length < sizeLine := by rw [txK_len, st_tx, sizeLine_eq]; omega
          refine ⟨C, dx1, _, ho1, T.cl, T.n1, _, rfl, dm, rfl, _, DPut.k (k := Sum.inr z) D1.dc hl2, ?_⟩
          refine fin _ ((k1.mono m0).trans (Kp.dK D1.dc (List.mem_cons_of_mem _ (List.mem_singleton.mpr rfl)))) ?_
          unfold Dst.put
          rw [if_pos c3]
          refine ⟨⟨dx1, by rw [upd_ne D1.ne]; exact ho1⟩, by rw [upd_same, txK_put, st_tx], ?_⟩
          have := D1.nd
          rw [st_tx] at this
          exact putT_nd _ _ this
        · rename_i c3
          refine fin _ (k1.mono m0) ?_
          unfold Dst.put
          rw [if_neg c3]
          exact D1
theorem ok_ddrop (F : Fun K "remove" "Disk.remove" s_Disk_remove f fd) (B : Blt mg) (T : DkC K mg C CC CE) (m_Disk_require_running : CalM P w K mg base (L2.CX P w) 1 C "_require_running" (spDReq C CC)) (m_Disk_takes_effect : CalM P w K mg base CX0 1 C "_takes_effect" (spDEff C)) (m_Disk_has : CalM P w K mg base CX0 1 C "_has" (spDHas C)) :
    FnOk P w K mg base (L2.CX P w) 2 f fd ["self", "name"] (spDDrop C CC CE) := by
  refine F.okX sc_Disk_remove (fun vs H Q E h => ?_) (fun cdv A outer s H vs Q E hr h => ?_)
  · obtain ⟨o, dm, st, a, rfl, _⟩ := h; rfl
  obtain ⟨o, dm, st, a, rfl, hD, h1, e1, e2, q⟩ := h
  refine ⟨_, (pss_cons (ps_expr (m_Disk_require_running.pex0 hr (passX (takes_of rfl rfl rfl rfl) fun _ _ _ _ h => h) (pv 0)))
    (pss_cons (ps_if (pt_not (pt_val (m_Disk_has.pe hr (pv 0) (pa_cons (pv 1) pa_nil)))) (pss_one (T.DiskError.raise (takes_of rfl rfl rfl rfl))) pss_nil)
    (pss_cons (ps_if (pt_val (m_Disk_takes_effect.pe0 hr (pv 0))) (pss_one (ps_ddel (pe_fld (pv 0) rfl) (pv 1))) pss_nil)
    (pss_one (ps_expr (m_Disk_require_running.pex0 hr (passX (takes_of rfl rfl rfl rfl) fun _ _ _ _ h => h) (pv 0))))))), ?_⟩
  walk_at "wp"
  obtain ⟨dx, ho⟩ := hD.ob
  refine ⟨dx, _, ho, rfl, o, dm, st, rfl, hD, e1, fun nd => ⟨dx, _, ho, rfl, o, dm, st, a, rfl, hD, h1, _, rfl, ?_⟩⟩
  split
  · rename_i c; exact e2 nd c
  · rename_i c
    have c : hasD st.tx a = true := by simpa using c
    obtain ⟨z, rfl⟩ : ∃ z, a = .str z := by cases a <;> first | exact ⟨_, rfl⟩ | cases c
    have q := q z rfl c nd
    refine ⟨dx, _, ho, rfl, o, dm, st, rfl, hD, fun H1 k1 D1 => ⟨_, rfl, ?_⟩⟩
    obtain ⟨dx1, ho1⟩ := D1.ob
    have m0 : ∀ b ∈ [o], b ∈ [o, dm] := fun b hb => by rw [List.mem_singleton.mp hb]; exact List.mem_cons_self
    have fin : ∀ H2, Kp [o, dm] H H2 → Dsk C o dm (st.drop z) H2 → ∃ x x_1, H2 o = some (HO.ins C x x_1) ∧ List.lookup (Str.ofString "_require_running") x_1 = none ∧ spDReq C CC [V.ref o] H2 (fun x H1 => Q V.non H1) E := fun H2 k2 D2 => by
      obtain ⟨dx2, ho2⟩ := D2.ob
      have q := q H2 k2 D2
      refine ⟨dx2, _, ho2, rfl, o, dm, _, rfl, D2, fun h => ?_, fun h => ?_⟩
      · rw [if_pos h] at q; exact q
      · rw [if_neg (by rw [h]; decide)] at q; exact q
    have st_tx : st.eff.2.tx = st.tx := by
      unfold Dst.eff
      split
      · rfl
      · split <;> rfl
    split
    · rename_i c3
      refine ⟨C, dx1, _, ho1, T.cl, T.n1, _, rfl, dm, rfl, _, D1.dc, Sum.inr z, rfl, ?_, ?_⟩
      · rw [txK_val, Option.isSome_map, st_tx]; exact c
      refine fin _ ((k1.mono m0).trans (Kp.dK D1.dc (List.mem_cons_of_mem _ (List.mem_singleton.mpr rfl)))) ?_
      unfold Dst.drop
      rw [if_pos c3]
      refine ⟨⟨dx1, by rw [upd_ne D1.ne]; exact ho1⟩, by rw [upd_same, txK_drop, st_tx], ?_⟩
      have := D1.nd
      rw [st_tx] at this
      exact dropT_nd _ this
    · rename_i c3
      refine fin _ (k1.mono m0) ?_
      unfold Dst.drop
      rw [if_neg c3]
      exact D1
theorem ok_dread (F : Fun K "read" "Disk.read" s_Disk_read f fd) (B : Blt mg) (T : DkC K mg C CC CE) (m_Disk_require_running : CalM P w K mg base (L2.CX P w) 1 C "_require_running" (spDReq C CC)) (m_Disk_has : CalM P w K mg base CX0 1 C "_has" (spDHas C)) :
    FnOk P w K mg base (L2.CX P w) 2 f fd ["self", "name"] (spDRead C CC) := by
  refine F.okX sc_Disk_read (fun vs H Q E h => ?_) (fun cdv A outer s H vs Q E hr h => ?_)
  · obtain ⟨o, dm, st, a, rfl, _⟩ := h; rfl
  obtain ⟨o, dm, st, a, rfl, hD, h1, e1, q⟩ := h
  refine ⟨_, (pss_cons (ps_expr (m_Disk_require_running.pex0 hr (passX (takes_of rfl rfl rfl rfl) fun _ _ _ _ h => h) (pv 0)))
    (pss_cons (ps_if (pt_not (pt_val (m_Disk_has.pe hr (pv 0) (pa_cons (pv 1) pa_nil)))) (pss_one (ps_ret pe_non)) pss_nil)
    (pss_one (ps_ret (pe_dget (hu_of hr) (pe_fld (pv 0) rfl) (pv 1) (fun _ _ => rfl)))))), ?_⟩
  walk_at "wp"
  obtain ⟨dx, ho⟩ := hD.ob
  refine ⟨dx, _, ho, rfl, o, dm, st, rfl, hD, e1, fun nd => ⟨dx, _, ho, rfl, o, dm, st, a, rfl, hD, h1, _, rfl, ?_⟩⟩
  obtain ⟨q1, q2⟩ := q nd
  split
  · rename_i c
    by_cases h : ∃ z, a = .str z
    · obtain ⟨z, rfl⟩ := h
      have := q1 z rfl
      rw [show getT st.tx z = none from Option.isSome_eq_false_iff.mp c |> Option.isNone_iff_eq_none.mp] at this
      exact this
    · exact q2 fun z e => h ⟨z, e⟩
  · rename_i c
    have c : hasD st.tx a = true := by simpa using c
    obtain ⟨z, rfl⟩ : ∃ z, a = .str z := by cases a <;> first | exact ⟨_, rfl⟩ | cases c
    obtain ⟨y, hy⟩ := Option.isSome_iff_exists.mp (show (getT st.tx z).isSome = true from c)
    have q1 := q1 z rfl
    rw [hy] at q1
    refine ⟨C, dx, _, ho, T.cl, T.n1, _, rfl, dm, rfl, .str y, ?_, q1⟩
    have := DGet.k (k := Sum.inr z) hD.dc
    rw [txK_val, hy] at this
    exact this
theorem ok_dnames (F : Fun K "names" "Disk.names" s_Disk_names f fd) (B : Blt mg) (z1 : mg "sorted" = none) (T : DkC K mg C CC CE) (m_Disk_require_running : CalM P w K mg base (L2.CX P w) 1 C "_require_running" (spDReq C CC)) :
    FnOk P w K mg base (L2.CX P w) 2 f fd ["self"] (spDNames C CC) := by
  refine F.okX sc_Disk_names (fun vs H Q E h => ?_) (fun cdv A outer s H vs Q E hr h => ?_)
  · obtain ⟨o, dm, st, rfl, _⟩ := h; rfl
  obtain ⟨o, dm, st, rfl, hD, hl, e1, q⟩ := h
  refine ⟨_, (pss_cons (ps_expr (m_Disk_require_running.pex0 hr (passX (takes_of rfl rfl rfl rfl) fun _ _ _ _ h => h) (pv 0)))
    (pss_one (ps_ret (pe_callB (call_sortedD rfl) rfl z1 (by decide +kernel) (pa_cons (pe_fld (pv 0) rfl) pa_nil))))), ?_⟩
  walk_at "wp"
  obtain ⟨dx, ho⟩ := hD.ob
  refine ⟨dx, _, ho, rfl, o, dm, st, rfl, hD, e1, fun nd => ⟨C, dx, _, ho, T.cl, T.n1, _, rfl, dm, rfl, _, .inl hD.dc, st.tx.map (·.1), txK_keys _, by rw [List.length_map]; exact hl, fun ys p hp hs hn => q nd ys p ?_ (fun z => hp.mem_iff) ?_ hn⟩⟩
  · exact asc_of hs (hp.nodup_iff.mpr hD.nd)
  · rw [hp.length_eq, List.length_map]
theorem ok_darm (F : Fun K "arm" "Disk.arm" s_Disk_arm f fd) (T : DkC K mg C CC CE) : FnOk P w K mg base CX0 1 f fd ["self", "count", "kept"] (spDArm C) := by
  refine F.ok sc_Disk_arm (fun vs H Q E h => ?_) (fun cdv A outer s H vs Q E hr h => ?_)
  · obtain ⟨o, dm, st, n, k, rfl, _⟩ := h; rfl
  obtain ⟨o, dm, st, n, k, rfl, hD, q⟩ := h
  refine ⟨_, (pss_one (ps_if (pt_not (pt_val (pe_fld (pv 0) rfl))) (pss_cons (ps_fld (pv 0) (pv 1) rfl)
    (pss_one (ps_fld (pv 0) (pv 2) rfl))) pss_nil)), ?_⟩
  walk_at "wp"
  obtain ⟨dx, ho⟩ := hD.ob
  have m : o ∈ [o] := List.mem_singleton.mpr rfl
  refine ⟨C, dx, _, ho, T.cl, T.n2, _, rfl, _, rfl, ?_⟩
  unfold Dst.arm at q
  split
  · rename_i c
    rw [if_neg (by rw [c]; decide)] at q
    refine ⟨C, dx, _, ho, T.cl, T.n3, (by show 4 < 1000; decide), C, dx, _, rfl, T.cl, T.n4, (by show 4 < 1000; decide), ?_⟩
    exact q _ ((Kp.ins ho m).trans (Kp.ins upd_same m)) ⟨⟨dx, upd_same⟩, by rw [upd_ne hD.ne.symm, upd_ne hD.ne.symm]; exact hD.dc, hD.nd⟩
  · rename_i c
    rw [if_pos (by simpa using c)] at q
    exact q H (Kp.refl _ _) hD
theorem ok_drestart (F : Fun K "restart" "Disk.restart" s_Disk_restart f fd) (T : DkC K mg C CC CE) : FnOk P w K mg base CX0 1 f fd ["self"] (spDRestart C) := by
  refine F.ok sc_Disk_restart (fun vs H Q E h => ?_) (fun cdv A outer s H vs Q E hr h => ?_)
  · obtain ⟨o, dm, st, rfl, _⟩ := h; rfl
  obtain ⟨o, dm, st, rfl, hD, q⟩ := h
  refine ⟨_, (pss_cons (ps_fld (pv 0) pe_bl rfl)
    (pss_one (ps_fld (pv 0) pe_non rfl))), ?_⟩
  walk_at "wp"
  obtain ⟨dx, ho⟩ := hD.ob
  have m : o ∈ [o] := List.mem_singleton.mpr rfl
  refine ⟨C, dx, _, ho, T.cl, T.n2, (by show 4 < 1000; decide), C, dx, _, rfl, T.cl, T.n3, (by show 4 < 1000; decide), ?_⟩
  exact q _ ((Kp.ins ho m).trans (Kp.ins upd_same m)) ⟨⟨dx, upd_same⟩, by rw [upd_ne hD.ne.symm, upd_ne hD.ne.symm]; exact hD.dc, hD.nd⟩
end

/-! the draws of a script -/
abbrev s_law_draws : Stmt := top 8
abbrev N_law_draws : List Str := ["script", "start", "most", "draws", "cell", "number", "mixed", "k"]
theorem sc_law_draws : FnScope N_law_draws ["script", "start", "most"] (defScope s_law_draws) := ⟨rfl, rfl, rfl, by decide +kernel, rfl, by decide +kernel, by decide +kernel⟩
def spDraws (K : PySem.W.Frag) : Sp := fun vs H Q _ => ∃ (a : Addr) (ns : List Int) (st mo : Nat), vs = [.ref a, .int st, .int mo] ∧ SqL K H a (ns.map V.int) ∧ ns.length ≤ 63 ∧
  ∀ (ds : List Int) (p : Addr) (H' : Hp), H p = none → H' p = some (.lst (ds.map V.int)) → (∀ d ∈ ds, 0 ≤ d ∧ d < 10 ^ 18) → ds.length ≤ mo → Kp [] H H' → Q (.ref p) H'
section
variable {P : Program} {w : World} {K : PySem.W.Frag} {mg : Str → Option Value} {base : Heap} {f : Addr} {fd : FuncData}
theorem two200 {a m : Int} (h0 : 0 < m) (h : m < 2 ^ 200) : CDivW a m := by
  refine wide_div (b := 200) h0 ?_ (by decide) (by decide)
  have : (2 : Int) ^ 200 = ((2 ^ 200 : Nat) : Int) := by decide +kernel
  rw [this] at h
  omega
theorem ok_draws (F : Fun K "_law_draws" "_law_draws" s_law_draws f fd) (B : Blt mg) (habs : mg "abs" = none) : FnOk P w K mg base CX0 1 f fd ["script", "start", "most"] (spDraws K) := by
  refine F.ok sc_law_draws (fun vs H Q E h => ?_) (fun cdv A outer s H vs Q E hr h => ?_)
  · obtain ⟨a, ns, st, mo, rfl, _⟩ := h; rfl
  obtain ⟨a, ns, st, mo, rfl, hS, hl, q⟩ := h
  refine ⟨_, (pss_cons (ps_set (i := 3) sc_law_draws.nd rfl (Or.inl rfl) (pe_lst pa_nil))
    (pss_cons (ps_for PassesOwn.never rfl (pi_list (pe_slice sl_list (pv 0) (po_some (pv 1)) po_none)) (pg_name (i := 4) sc_law_draws.nd rfl (Or.inl rfl)) (pss_cons (ps_set (i := 5) sc_law_draws.nd rfl (Or.inl rfl) (pe_callB call_abs rfl habs (by decide +kernel) (pa_cons (B.int_i (pa_cons (pv 4) pa_nil)) pa_nil)))
    (pss_one (ps_if (pt_cmpR op_lt (pv 5) (pe_op op_pow pe_int pe_int) (nomark _)) (pss_cons (ps_set (i := 6) sc_law_draws.nd rfl (Or.inl rfl) (pe_op op_mod (B.int_i (pa_cons (pe_op op_add (pe_op op_mul (pv 5) pe_int) pe_int) pa_nil)) pe_int))
    (pss_cons (ps_expr (pe_bm PySem.F.plainAttrs_list PySem.F.slot_list_append PySem.F.type_list_append mt_append (pv 3) (pa_cons (pv 5) pa_nil)))
    (pss_cons (ps_expr (pe_bm PySem.F.plainAttrs_list PySem.F.slot_list_append PySem.F.type_list_append mt_append (pv 3) (pa_cons (pe_op op_fdivW (pe_op op_mod (B.int_i (pa_cons (pe_op op_add (pe_op op_add (pe_op op_mul (pv 6) pe_int) (pe_op op_fdivW (pv 5) pe_int)) pe_int) pa_nil)) pe_int) pe_int) pa_nil)))
    (pss_one (ps_expr (pe_bm PySem.F.plainAttrs_list PySem.F.slot_list_append PySem.F.type_list_append mt_append (pv 3) (pa_cons (pe_op op_fdivW (pe_op op_mod (B.int_i (pa_cons (pe_op op_add (pe_op op_add (pe_op op_mul (pv 6) pe_int) (pe_op op_fdivW (pv 5) pe_int)) pe_int) pa_nil)) pe_int) pe_int) pa_nil))))))) (pss_one (ps_for PassesOwn.never rfl (B.range1 (pa_cons pe_int pa_nil)) (pg_name (i := 7) sc_law_draws.nd rfl (Or.inl rfl)) (pss_cons (ps_if (pt_cmpR op_gt (pv 5) pe_int (nomark _)) (pss_one (ps_expr (pe_bm PySem.F.plainAttrs_list PySem.F.slot_list_append PySem.F.type_list_append mt_append (pv 3) (pa_cons (pe_op op_mod (B.int_i (pa_cons (pv 5) pa_nil)) pe_int) pa_nil)))) pss_nil)
    (pss_one (ps_set (i := 5) sc_law_draws.nd rfl (Or.inl rfl) (pe_op op_fdivW (pv 5) pe_int))))))))))
    (pss_one (ps_ret (pe_slice sl_list (pv 3) po_none (po_some (pv 2))))))), ?_⟩
  walk_at "wp"
  refine ⟨by decide, fun D hD => ?_⟩
  have em : cutV (ns.map V.int) (some (st : Int)) none = (ns.drop st).map V.int := by rw [cutV_from, List.map_drop]
  have lm : (ns.drop st).length ≤ ns.length := by rw [List.length_drop]; omega
  generalize ns.drop st = ms at em lm
  have nw := (Kp.new hD (.lst []) : Kp [] _ _)
  refine ⟨_, rfl, _, rfl, st, rfl, a, _, rfl, nw.seqL List.not_mem_nil hS, fun L hL => ⟨L, rfl, ⟨_, SqL.of upd_same⟩, ?_⟩⟩
  have nDL : D ≠ L := ne_of_none upd_same hL
  have nw2 := nw.trans (Kp.new hL (.lst (cutV (ns.map V.int) (some (st : Int)) none)))
  have hL0 : H L = none := by rw [upd_ne nDL.symm] at hL; exact hL
  refine for_list (K := K) (a := L) (xs := ms.map V.int) (fun i σ H' => ∃ (ds : List Int) (o4 o5 o6 o7 : Option V), σ = [some (.ref a), some (.int st), some (.int mo), some (.ref D), o4, o5, o6, o7] ∧ H' D = some (.lst (ds.map V.int)) ∧ H' L = some (.lst (ms.map V.int)) ∧ (∀ d ∈ ds, 0 ≤ d ∧ d < 10 ^ 18) ∧ ds.length ≤ 24 * i ∧ Kp [] H H')
    ⟨[], _, _, _, _, rfl, (by rw [upd_ne nDL]; exact upd_same), (by rw [upd_same, em]), (fun d m => absurd m List.not_mem_nil), Nat.le_refl _, nw2⟩ (fun i σ H' _ ⟨_, _, _, _, _, _, _, e, _⟩ => SqL.of e) (fun i x σ H' hi ⟨ds, o4, o5, o6, o7, hσ, eD, eL, hok, hlen, k⟩ => ?_) (fun σ H' ⟨ds, o4, o5, o6, o7, hσ, eD, eL, hok, hlen, k⟩ => ?_)
  · subst hσ
    rw [List.getElem?_map] at hi
    obtain ⟨z, hz, rfl⟩ := Option.map_eq_some_iff.mp hi
    have li : i < ms.length := (List.getElem?_eq_some_iff.mp hz).1
    walk_at "wp"
    have z0 : 0 ≤ (if z < 0 then -z else z) := by split <;> omega
    generalize (if z < 0 then -z else z) = n at z0
    have lim : sizeLine = 16777216 := sizeLine_eq
    have lit : ∀ {j i : Int}, 0 < j → j < 2 ^ 200 → CDivW i j := fun h0 h1 => two200 h0 h1
    refine ⟨⟨by decide, by decide, by decide⟩, ?_⟩
    have big : (10 : Int) ^ Int.toNat 18 = 1000000000000000000 := by decide
    rw [big]
    split
    · rename_i hb
      have a0 := Int.emod_nonneg (n * 39373 + 23) (show (2147483647 : Int) ≠ 0 by decide)
      have a1 := Int.emod_lt_of_pos (n * 39373 + 23) (show (0 : Int) < 2147483647 by decide)
      generalize (n * 39373 + 23) % 2147483647 = m at a0 a1
      have b0 := Int.emod_nonneg (m * 16807 + n / 6 + 3) (show (2147483399 : Int) ≠ 0 by decide)
      have b1 := Int.emod_lt_of_pos (m * 16807 + n / 6 + 3) (show (0 : Int) < 2147483399 by decide)
      generalize (m * 16807 + n / 6 + 3) % 2147483399 = u at b0 b1
      have c0 := Int.emod_nonneg (m * 69621 + n / 11 + 8) (show (2147483629 : Int) ≠ 0 by decide)
      have c1 := Int.emod_lt_of_pos (m * 69621 + n / 11 + 8) (show (0 : Int) < 2147483629 by decide)
      generalize (m * 69621 + n / 11 + 8) % 2147483629 = v at c0 c1
      have l0 : (ds.map V.int).length ≤ 1512 := by rw [List.length_map]; omega
      have e1 : (upd H' D (.lst (ds.map V.int ++ [V.int n]))) D = some (.lst (ds.map V.int ++ [V.int n])) := upd_same
      refine ⟨.inr ⟨by decide, by decide⟩, by decide, .inl ⟨rfl, _, SqL.of eD⟩, _, eD, by omega, .inl ⟨rfl, _, SqL.of upd_same⟩, .inr ⟨by decide, by decide⟩, lit (by decide) (by decide), by decide, lit (by decide) (by decide), by rw [List.length_append, List.length_singleton]; omega, .inl ⟨rfl, _, SqL.of upd_same⟩, .inr ⟨by decide, by decide⟩, lit (by decide) (by decide), by decide, lit (by decide) (by decide), by rw [List.length_append, List.length_append, List.length_singleton, List.length_singleton]; omega, ds ++ [n, u / 3, v / 7], ?_, ?_, ?_, ?_, ?_⟩
      · simp [List.map_append]
      · rw [upd_ne nDL.symm, upd_ne nDL.symm, upd_ne nDL.symm]; exact eL
      · intro d hd
        rcases List.mem_append.mp hd with hd | hd
        · exact hok d hd
        · simp only [List.mem_cons, List.not_mem_nil, or_false] at hd
          rcases hd with rfl | rfl | rfl <;> omega
      · rw [List.length_append]; simp only [List.length_cons, List.length_nil]; omega
      · exact ((k.upd hD eD).upd hD upd_same).upd hD upd_same
    · refine ⟨24, rfl, by decide, by decide, ?_⟩
      refine for_range (lo := 0) (n := 24) (fun j σ H' => ∃ (ds : List Int) (m : Int) (o4 o6 o7 : Option V), σ = [some (.ref a), some (.int st), some (.int mo), some (.ref D), o4, some (.int m), o6, o7] ∧ 0 ≤ m ∧ H' D = some (.lst (ds.map V.int)) ∧ H' L = some (.lst (ms.map V.int)) ∧ (∀ d ∈ ds, 0 ≤ d ∧ d < 10 ^ 18) ∧ ds.length ≤ 24 * i + j ∧ Kp [] H H')
        ⟨ds, _, _, _, _, rfl, z0, eD, eL, hok, hlen, k⟩ (fun j σ H2 hj ⟨ds, m, o4, o6, o7, hσ, m0, eD, eL, hok, hlen, k⟩ => ?_) (fun σ H2 ⟨ds, m, o4, o6, o7, hσ, m0, eD, eL, hok, hlen, k⟩ => ?_)
      · subst hσ
        walk_at "wp"
        have n0 := Int.emod_nonneg m (show (1000000 : Int) ≠ 0 by decide)
        have n1 := Int.emod_lt_of_pos m (show (0 : Int) < 1000000 by decide)
        have l0 : (ds.map V.int).length ≤ 1512 := by rw [List.length_map]; omega
        split
        · refine ⟨.inl ⟨rfl, _, SqL.of eD⟩, by decide, _, eD, by omega, lit (by decide) (by decide), by omega, ds ++ [m % 1000000], by rw [List.map_append]; rfl, ?_, ?_, ?_, ?_⟩
          · rw [upd_ne nDL.symm]; exact eL
          · intro d hd
            rcases List.mem_append.mp hd with hd | hd
            · exact hok d hd
            · rw [List.mem_singleton.mp hd]; omega
          · rw [List.length_append, List.length_singleton]; omega
          · exact k.upd hD eD
        · exact ⟨lit (by decide) (by decide), by omega, ds, eD, eL, hok, by omega, k⟩
      · subst hσ
        exact ⟨ds, _, _, _, _, rfl, eD, eL, hok, by omega, k⟩
  · subst hσ
    walk_at "wp"
    refine ⟨D, _, rfl, SqL.of eD, fun p hp => ?_⟩
    rw [cutV_to, ← List.map_take]
    have kn := Kp.new (S := []) hp (.lst ((ds.take mo).map V.int))
    refine q (ds.take mo) p _ ?_ upd_same (fun d m => hok d (List.mem_of_mem_take m)) (by rw [List.length_take]; omega) (k.trans kn)
    cases e : H p with
    | none => rfl
    | some u => rw [k.keep p u List.not_mem_nil e] at hp; cases hp
end

abbrev s_law_told : Stmt := top 9
abbrev N_law_told : List Str := ["disk", "deed", "error"]
theorem sc_law_told : FnScope N_law_told ["disk", "deed"] (defScope s_law_told) := ⟨rfl, rfl, rfl, by decide +kernel, rfl, by decide +kernel, by decide +kernel⟩
abbrev s_law_due : Stmt := top 10
abbrev N_law_due : List Str := ["m", "deed", "texts", "cut"]
theorem sc_law_due : FnScope N_law_due ["m", "deed"] (defScope s_law_due) := ⟨rfl, rfl, rfl, by decide +kernel, rfl, by decide +kernel, by decide +kernel⟩
abbrev s_law : Stmt := top 11
abbrev N_law : List Str := ["script", "disk", "m", "draw", "what", "number", "name", "deed"]
theorem sc_law : FnScope N_law ["script"] (defScope s_law) := ⟨rfl, rfl, rfl, by decide +kernel, rfl, by decide +kernel, by decide +kernel⟩
theorem if_no {p : Prop} [Decidable p] {A B : Prop} (h : ¬ p) (b : B) : if p then A else B := by rw [if_neg h]; exact b
theorem if_yes {p : Prop} [Decidable p] {A B : Prop} (h : p) (b : A) : if p then A else B := by rw [if_pos h]; exact b
theorem ite_dec {p : Prop} [Decidable p] {A B : Prop} (h : p → A) (g : ¬ p → B) : if p then A else B := by
  by_cases c : p
  · rw [if_pos c]; exact h c
  · rw [if_neg c]; exact g c
inductive Deed where
  | put (a b : V)
  | rem (n : Str)
  | read (n : Str)
  | names
  | arm (n : Int) (k : Bool)
  | restart
def Deed.vs : Deed → List V
  | .put a b => [.str "put", a, b]
  | .rem n => [.str "remove", .str n]
  | .read n => [.str "read", .str n]
  | .names => [.str "names"]
  | .arm n k => [.str "arm", .int n, .bl k]
  | .restart => [.str "restart"]
def Deed.tag : Deed → Str
  | .put _ _ => "put"
  | .rem _ => "remove"
  | .read _ => "read"
  | .names => "names"
  | .arm _ _ => "arm"
  | .restart => "restart"
theorem tag_is {d : Deed} : (d.tag = Str.ofString "restart" → d = .restart) ∧ (d.tag = Str.ofString "arm" → ∃ n k, d = .arm n k) ∧ (d.tag = Str.ofString "read" → ∃ n, d = .read n) ∧ (d.tag = Str.ofString "names" → d = .names) ∧ (d.tag = Str.ofString "put" → ∃ a b, d = .put a b) ∧ (d.tag = Str.ofString "remove" → ∃ n, d = .rem n) := by
  refine ⟨?_, ?_, ?_, ?_, ?_, ?_⟩ <;> intro h <;> cases d <;> first | exact rfl | exact ⟨_, rfl⟩ | exact ⟨_, _, rfl⟩ | (simp only [Deed.tag] at h; exact absurd h (by decide +kernel))
def doneD (d : PyData) : PyData := .tuple [.str "done", d]
def crashD : PyData := .tuple [.str "crashed", .bool false]
def errD : PyData := .tuple [.str "error", .bool false]
def optD : Option Str → PyData
  | none => .none
  | some t => .str t
/-- what an operation answers, and what the disk is then; ys: the names in order -/
def Dst.act (s : Dst) (d : Deed) (ys : List Str) : PyData × Dst :=
  match d with
  | .restart => (doneD .none, s.restart)
  | .arm n k => (doneD .none, s.arm n k)
  | .read n => if s.down = true then (crashD, s) else (doneD (optD (getT s.tx n)), s)
  | .names => if s.down = true then (crashD, s) else (doneD (.list (ys.map .str)), s)
  | .rem n => if s.down = true then (crashD, s) else if (getT s.tx n).isSome = true then (if (s.drop n).down = true then crashD else doneD .none, s.drop n) else (errD, s)
  | .put a b => if s.down = true then (crashD, s) else
    match a, b with
    | .str n, .str t => if n = Str.ofString "" then (errD, s) else (if (s.put n t).down = true then crashD else doneD .none, s.put n t)
    | _, _ => (errD, s)
def isKeys (s : Dst) (ys : List Str) : Prop := asc ys = true ∧ (∀ z, z ∈ ys ↔ z ∈ s.tx.map (·.1)) ∧ ys.length = s.tx.length
theorem act_same {s : Dst} {d : Deed} {ys zs : List Str} (h1 : d = .names → s.down = false → isKeys s ys) (h2 : d = .names → s.down = false → isKeys s zs) : s.act d ys = s.act d zs := by
  cases d with
  | names =>
    cases e : s.down with
    | true => unfold Dst.act; simp only [e, if_true]
    | false =>
      obtain ⟨a1, m1, _⟩ := h1 rfl e
      obtain ⟨a2, m2, _⟩ := h2 rfl e
      rw [asc_eq a1 a2 fun z => (m1 z).trans (m2 z).symm]
  | _ => rfl
def tyOk (H : Hp) : Deed → Prop
  | .put a b => (∃ t, tyN H a = some t) ∧ ∃ t, tyN H b = some t
  | _ => True
def spTold (C : Addr) : Sp := fun vs H Q _ => ∃ (o dm p : Addr) (s : Dst) (d : Deed), vs = [.ref o, .ref p] ∧ Dsk C o dm s H ∧ H p = some (.tup d.vs) ∧ tyOk H d ∧ s.tx.length < 60 ∧
  ∀ (ys : List Str) (v : V) (H' : Hp), (d = .names → s.down = false → isKeys s ys) → Kp [o, dm] H H' → Dsk C o dm (s.act d ys).2 H' → Rq H' v (s.act d ys).1 → Q v H'
section
variable {P : Program} {w : World} {K : PySem.W.Frag} {mg : Str → Option Value} {base : Heap} {f : Addr} {fd : FuncData} {C CC CE : Addr}
theorem rqa_str {H : Hp} : ∀ ys : List Str, RqA H (ys.map V.str) (ys.map PyData.str)
  | [] => .nil
  | y :: r => .cons (.str y) (rqa_str r)
theorem crash_ok (T : DkC K mg C CC CE) {i : Nat} {out : WX} {D : Ends} {s1 : Addr → Value → Option Addr → TS} {ks : List ClauseM} {σ : L2.St} {H : Hp} (h : ∀ e, H e = none → s1 e (.ref CC) none (dropE i D) (σ.set i (some (.ref e))) H) :
    wClM K i out D (.named (.ref CC, s1) :: ks) (.ref CC) none σ H := ⟨true, T.DiskCrashed.em, if_yes rfl h⟩
theorem err_ok (T : DkC K mg C CC CE) (x2 : PySem.W.exmOne K (.ref CE) (.ref CC) = some false) {i : Nat} {out : WX} {D : Ends} {s1 s2 : Addr → Value → Option Addr → TS} {ks : List ClauseM} {σ : L2.St} {H : Hp} (h : ∀ e, H e = none → s2 e (.ref CE) none D σ H) :
    wClM K i out D (.named (.ref CC, s1) :: .bare (.ref CE, s2) :: ks) (.ref CE) none σ H := ⟨false, x2, if_no (by decide) ⟨true, T.DiskError.em, if_yes rfl h⟩⟩
theorem ok_told (F : Fun K "_law_told" "_law_told" s_law_told f fd) (B : Blt mg) (T : DkC K mg C CC CE) (EC : ExcC K CC) (x1 : PySem.W.kitOne K (.ref CC) (.ref CE) = some false) (x2 : PySem.W.exmOne K (.ref CE) (.ref CC) = some false)
    (m_Disk_put : CalM P w K mg base (L2.CX P w) 2 C "put" (spDPut C CC CE)) (m_Disk_remove : CalM P w K mg base (L2.CX P w) 2 C "remove" (spDDrop C CC CE)) (m_Disk_read : CalM P w K mg base (L2.CX P w) 2 C "read" (spDRead C CC))
    (m_Disk_names : CalM P w K mg base (L2.CX P w) 2 C "names" (spDNames C CC)) (m_Disk_arm : CalM P w K mg base CX0 1 C "arm" (spDArm C)) (m_Disk_restart : CalM P w K mg base CX0 1 C "restart" (spDRestart C)) :
    FnOk P w K mg base CX0 3 f fd ["disk", "deed"] (spTold C) := by
  refine F.ok sc_law_told (fun vs H Q E h => ?_) (fun cdv A outer s H vs Q E hr h => ?_)
  · obtain ⟨o, dm, p, st, d, rfl, _⟩ := h; rfl
  obtain ⟨o, dm, p, st, d, rfl, hD, hp, hT, hl, q⟩ := h
  refine ⟨_, (pss_one (ps_try_mix (i := 2) (n := "error") (out := fun _ _ _ _ => False) rfl rfl sc_law_told.nd rfl rfl takes0 (fun V held ex tk _ => by_given (pss_cons (ps_if (pt_cmpR op_eq (pe_ix ix_tM (pv 1) pe_int (fun _ _ => rfl)) pe_str (nomark _)) (pss_one (ps_ret (pe_tup (pa_cons pe_str (pa_cons (m_Disk_put.peV hr tk (pv 0) (pa_cons (pe_ix ix_tM (pv 1) pe_int (fun _ _ => rfl)) (pa_cons (pe_ix ix_tM (pv 1) pe_int (fun _ _ => rfl)) pa_nil))) pa_nil))))) pss_nil)
    (pss_cons (ps_if (pt_cmpR op_eq (pe_ix ix_tM (pv 1) pe_int (fun _ _ => rfl)) pe_str (nomark _)) (pss_one (ps_ret (pe_tup (pa_cons pe_str (pa_cons (m_Disk_remove.peV hr tk (pv 0) (pa_cons (pe_ix ix_tM (pv 1) pe_int (fun _ _ => rfl)) pa_nil)) pa_nil))))) pss_nil)
    (pss_cons (ps_if (pt_cmpR op_eq (pe_ix ix_tM (pv 1) pe_int (fun _ _ => rfl)) pe_str (nomark _)) (pss_one (ps_ret (pe_tup (pa_cons pe_str (pa_cons (m_Disk_read.peV hr tk (pv 0) (pa_cons (pe_ix ix_tM (pv 1) pe_int (fun _ _ => rfl)) pa_nil)) pa_nil))))) pss_nil)
    (pss_cons (ps_if (pt_cmpR op_eq (pe_ix ix_tM (pv 1) pe_int (fun _ _ => rfl)) pe_str (nomark _)) (pss_one (ps_ret (pe_tup (pa_cons pe_str (pa_cons (m_Disk_names.peV0 hr tk (pv 0)) pa_nil))))) pss_nil)
    (pss_cons (ps_if (pt_cmpR op_eq (pe_ix ix_tM (pv 1) pe_int (fun _ _ => rfl)) pe_str (nomark _)) (pss_one (ps_ret (pe_tup (pa_cons pe_str (pa_cons (m_Disk_arm.pe hr (pv 0) (pa_cons (pe_ix ix_tM (pv 1) pe_int (fun _ _ => rfl)) (pa_cons (pe_ix ix_tM (pv 1) pe_int (fun _ _ => rfl)) pa_nil))) pa_nil))))) pss_nil)
    (pss_one (ps_ret (pe_tup (pa_cons pe_str (pa_cons (m_Disk_restart.pe0 hr (pv 0)) pa_nil)))))))))) rfl) (.one (k := (_, _)) ⟨rfl, by decide, .inl T.DiskCrashed.g⟩ (fun a oe cls d pn hz hf => (pss_given (u := tRet (tTup (tCons (tC (.str "crashed")) (tCons (tCB (rIsE K CC a) (tCons (tVar 2) (tCons (tC (.ref CE)) tNil))) tNil)))) (p := cls = .ref CC ∧ d = none) fun ⟨h1, h2⟩ => by subst h1; subst h2; exact pss_one (ps_ret (pe_tup (pa_cons pe_str (pa_cons (pe_callB (call_isE EC hz hf) rfl B.isinstance (by decide +kernel) (by exact (pa_cons (pv 2) (pa_cons (pe_glob (v := .ref CE) rfl T.DiskError.g rfl) pa_nil)))) pa_nil)))))) (.bare (k := (_, _)) ⟨rfl, by decide, .inl T.DiskError.g⟩ (fun a oe cls d pn hz hf => (by_given (pss_one (ps_ret (pe_tup (pa_cons pe_str (pa_cons pe_bl pa_nil))))) rfl)) .none)))), ?_⟩
  walk_at "wq"
  have fin : ∀ (ys : List Str) (x : V) (z : Str) (d' : PyData) (s' : Dst) (H1 : Hp), (d = .names → st.down = false → isKeys st ys) → st.act d ys = (.tuple [.str z, d'], s') → Kp [o, dm] H H1 → Dsk C o dm s' H1 → Rq H1 x d' →
      2 ≤ sizeLine ∧ ∀ p, H1 p = none → Q (.ref p) (upd H1 p (.tup [.str z, x])) := fun ys x z d' s' H1 hk e k D r => ⟨by decide, fun p hp => by
    have kn := Kp.new (S := []) hp (.tup [.str z, x])
    refine q ys _ _ hk (k.trans kn.in0) (by rw [e]; exact D.kp0 kn) ?_
    rw [e]
    exact .tup upd_same (.cons (.str _) (.cons (r.kp0 kn) .nil))⟩
  obtain ⟨dx, ho⟩ := hD.ob
  have kr := Kp.refl [o, dm] H
  cases d with
  | put a b =>
    refine ⟨_, hp, _, rfl, rfl, if_yes rfl ⟨dx, _, ho, rfl, _, hp, _, rfl, _, hp, _, rfl, ?_⟩⟩
    have no : ∀ {ys : List Str}, Deed.put a b = .names → st.down = false → isKeys st ys := fun h => nomatch h
    refine ⟨o, dm, st, a, b, rfl, hD, hT.1, hT.2, by omega, fun h => crash_ok T fun e he => ⟨rfl, rfl, _, rfl, .ref CE, .ref CE, false, rfl, fun u h => h, x1, fin [] _ _ _ _ H no (if_pos h) kr hD (.bl false)⟩,
      fun h g => err_ok T x2 fun e he => fin [] _ _ _ _ H no ?_ kr hD (.bl false), fun n t ea eb g nd H' k D' => ?_⟩
    · refine (if_neg (by rw [h]; decide)).trans ?_
      cases a with
      | str n =>
        cases b with
        | str t => exact if_pos (by simpa [putOk] using g)
        | _ => rfl
      | _ => rfl
    · subst ea; subst eb
      have g : ¬ n = Str.ofString "" := by simpa [putOk] using g
      have e : st.act (.put (.str n) (.str t)) [] = (if (st.put n t).down = true then crashD else doneD .none, st.put n t) := (if_neg (by rw [nd]; decide)).trans (if_neg g)
      refine ite_dec (fun c => crash_ok T fun e2 he => ⟨rfl, rfl, _, rfl, .ref CE, .ref CE, false, rfl, fun u h => h, x1, fin [] _ _ _ _ H' no (e.trans (by rw [if_pos c]; rfl)) k D' (.bl false)⟩) (fun c => fin [] _ _ _ _ H' no (e.trans (by rw [if_neg c]; rfl)) k D' .non)
  | rem n =>
    refine ⟨_, hp, _, rfl, rfl, if_no (by decide +kernel) ⟨_, hp, _, rfl, rfl, if_yes rfl ⟨dx, _, ho, rfl, _, hp, _, rfl, ?_⟩⟩⟩
    have no : ∀ {ys : List Str}, Deed.rem n = .names → st.down = false → isKeys st ys := fun h => nomatch h
    refine ⟨o, dm, st, .str n, rfl, hD, ⟨_, rfl⟩, fun h => crash_ok T fun e he => ⟨rfl, rfl, _, rfl, .ref CE, .ref CE, false, rfl, fun u h => h, x1, fin [] _ _ _ _ H no (if_pos h) kr hD (.bl false)⟩,
      fun h g => err_ok T x2 fun e he => fin [] _ _ _ _ H no ?_ kr hD (.bl false), fun m em g nd H' k D' => ?_⟩
    · exact (if_neg (by rw [h]; decide)).trans (if_neg (by rw [show (getT st.tx n).isSome = false from g]; decide))
    · cases em
      have e : st.act (.rem n) [] = (if (st.drop n).down = true then crashD else doneD .none, st.drop n) := (if_neg (by rw [nd]; decide)).trans (if_pos g)
      refine ite_dec (fun c => crash_ok T fun e2 he => ⟨rfl, rfl, _, rfl, .ref CE, .ref CE, false, rfl, fun u h => h, x1, fin [] _ _ _ _ H' no (e.trans (by rw [if_pos c]; rfl)) k D' (.bl false)⟩) (fun c => fin [] _ _ _ _ H' no (e.trans (by rw [if_neg c]; rfl)) k D' .non)
  | read n =>
    refine ⟨_, hp, _, rfl, rfl, if_no (by decide +kernel) ⟨_, hp, _, rfl, rfl, if_no (by decide +kernel) ⟨_, hp, _, rfl, rfl, if_yes rfl ⟨dx, _, ho, rfl, _, hp, _, rfl, ?_⟩⟩⟩⟩
    have no : ∀ {ys : List Str}, Deed.read n = .names → st.down = false → isKeys st ys := fun h => nomatch h
    refine ⟨o, dm, st, .str n, rfl, hD, ⟨_, rfl⟩, fun h => crash_ok T fun e he => ⟨rfl, rfl, _, rfl, .ref CE, .ref CE, false, rfl, fun u h => h, x1, fin [] _ _ _ _ H no (if_pos h) kr hD (.bl false)⟩,
      fun h => ⟨fun m em => ?_, fun c => absurd rfl (c n)⟩⟩
    cases em
    refine fin [] _ _ _ _ H no (if_neg (by rw [h]; decide)) kr hD ?_
    cases getT st.tx n with
    | none => exact .non
    | some t => exact .str t
  | names =>
    refine ⟨_, hp, _, rfl, rfl, if_no (by decide +kernel) ⟨_, hp, _, rfl, rfl, if_no (by decide +kernel) ⟨_, hp, _, rfl, rfl, if_no (by decide +kernel) ⟨_, hp, _, rfl, rfl, if_yes rfl ⟨dx, _, ho, rfl, ?_⟩⟩⟩⟩⟩
    refine ⟨o, dm, st, rfl, hD, by omega, fun h => crash_ok T fun e he => ⟨rfl, rfl, _, rfl, .ref CE, .ref CE, false, rfl, fun u h => h, x1, fin [] _ _ _ _ H (fun _ z => by rw [h] at z; cases z) (if_pos h) kr hD (.bl false)⟩,
      fun h ys p2 ha hm hl2 hp2 => ?_⟩
    have kn := Kp.new (S := []) hp2 (.lst (ys.map V.str))
    refine fin ys _ _ _ _ _ (fun _ _ => ⟨ha, hm, hl2⟩) (if_neg (by rw [h]; decide)) kn.in0 (hD.kp0 kn) (.lst upd_same (rqa_str ys))
  | arm n k =>
    refine ⟨_, hp, _, rfl, rfl, if_no (by decide +kernel) ⟨_, hp, _, rfl, rfl, if_no (by decide +kernel) ⟨_, hp, _, rfl, rfl, if_no (by decide +kernel) ⟨_, hp, _, rfl, rfl, if_no (by decide +kernel) ⟨_, hp, _, rfl, rfl, if_yes rfl ⟨dx, _, ho, rfl, _, hp, _, rfl, _, hp, _, rfl, ?_⟩⟩⟩⟩⟩⟩
    exact ⟨o, dm, st, n, k, rfl, hD, fun H' k1 D' => fin [] _ _ _ _ H' (fun h => nomatch h) rfl (k1.mono fun b hb => by rw [List.mem_singleton.mp hb]; exact List.mem_cons_self) D' .non⟩
  | restart =>
    refine ⟨_, hp, _, rfl, rfl, if_no (by decide +kernel) ⟨_, hp, _, rfl, rfl, if_no (by decide +kernel) ⟨_, hp, _, rfl, rfl, if_no (by decide +kernel) ⟨_, hp, _, rfl, rfl, if_no (by decide +kernel) ⟨_, hp, _, rfl, rfl, if_no (by decide +kernel) ⟨dx, _, ho, rfl, ?_⟩⟩⟩⟩⟩⟩
    exact ⟨o, dm, st, rfl, hD, fun H' k1 D' => fin [] _ _ _ _ H' (fun h => nomatch h) rfl (k1.mono fun b hb => by rw [List.mem_singleton.mp hb]; exact List.mem_cons_self) D' .non⟩
end
def leftI : Option Int → Int
  | none => -1
  | some n => n
def mdK (tm : Addr) (s : Dst) : List (Key × V) := [(Sum.inr (Str.ofString "texts"), .ref tm), (Sum.inr (Str.ofString "down"), .bl s.down), (Sum.inr (Str.ofString "left"), .int (leftI s.left)), (Sum.inr (Str.ofString "kept"), .bl s.kept)]
/-- the law's model at pm -/
structure Mdl (pm tm : Addr) (s : Dst) (H : Hp) : Prop where
  m : H pm = some (.dK (mdK tm s))
  t : H tm = some (.dK (txK s.tx))
  ne : pm ≠ tm
  nn : ∀ n, s.left = some n → 0 ≤ n
  nd : (s.tx.map (·.1)).Nodup
theorem Mdl.kp0 {pm tm : Addr} {s : Dst} {H H' : Hp} (h : Mdl pm tm s H) (k : Kp [] H H') : Mdl pm tm s H' := ⟨k.keep _ _ List.not_mem_nil h.m, k.keep _ _ List.not_mem_nil h.t, h.ne, h.nn, h.nd⟩
theorem Mdl.kp {S : List Addr} {pm tm : Addr} {s : Dst} {H H' : Hp} (h : Mdl pm tm s H) (k : Kp S H H') (n1 : pm ∉ S) (n2 : tm ∉ S) : Mdl pm tm s H' := ⟨k.keep _ _ n1 h.m, k.keep _ _ n2 h.t, h.ne, h.nn, h.nd⟩
theorem Mdl.put {pm tm : Addr} {s s' : Dst} {H : Hp} {k : Str} {v : V} (h : Mdl pm tm s H) (e : putK (mdK tm s) (Sum.inr k) v = mdK tm s') (t : s'.tx = s.tx) (nn : ∀ n, s'.left = some n → 0 ≤ n) :
    DPut H pm (.str k) v (upd H pm (.dK (mdK tm s'))) ∧ Mdl pm tm s' (upd H pm (.dK (mdK tm s'))) ∧ Kp [pm, tm] H (upd H pm (.dK (mdK tm s'))) := by
  refine ⟨?_, ⟨upd_same, by rw [upd_ne h.ne.symm, t]; exact h.t, h.ne, nn, by rw [t]; exact h.nd⟩, Kp.dK h.m List.mem_cons_self⟩
  have z := DPut.k (k := Sum.inr k) (v := v) h.m (by show 4 < sizeLine; decide)
  rw [e] at z
  exact z
def decL : Option Int → Option Int
  | none => none
  | some n => some (if n > 0 then n - 1 else n)
def Deed.g : Deed → List (Str × Str) → List (Str × Str)
  | .put (.str n) (.str t) => fun tx => putT tx n t
  | .rem n => fun tx => dropT tx n
  | _ => id
def Dst.cut (s : Dst) : Bool := decide (leftI s.left = 0)
def Dst.s2 (s : Dst) (d : Deed) : Dst := { s with left := decL s.left, tx := if (!s.cut || s.kept) = true then d.g s.tx else s.tx }
theorem act_tail {s : Dst} {d : Deed} (fl : s.down = false) (nn : ∀ n, s.left = some n → 0 ≤ n) (hd : (∃ n t, d = .put (.str n) (.str t) ∧ ¬ n = Str.ofString "") ∨ ∃ n, d = .rem n ∧ (getT s.tx n).isSome = true) :
    s.act d [] = if s.cut = true then (crashD, { s.s2 d with down := true }) else (doneD .none, s.s2 d) := by
  obtain ⟨tx, down, left, kept⟩ := s
  have fl : down = false := fl
  subst fl
  rcases hd with ⟨n, t, rfl, h⟩ | ⟨n, rfl, h⟩
  · refine (if_neg h).trans ?_
    cases left with
    | none => rfl
    | some z =>
      have z0 := nn z rfl
      by_cases c : z > 0
      · have e1 : Dst.cut ⟨tx, false, some z, kept⟩ = false := decide_eq_false (by show ¬ z = 0; omega)
        simp [Dst.put, Dst.eff, e1, Dst.s2, decL, c, Deed.g]
      · have : z = 0 := by omega
        subst this
        cases kept <;> simp [Dst.put, Dst.eff, Dst.cut, Dst.s2, decL, leftI, Deed.g]
  · refine (if_pos h).trans ?_
    cases left with
    | none => rfl
    | some z =>
      have z0 := nn z rfl
      by_cases c : z > 0
      · have e1 : Dst.cut ⟨tx, false, some z, kept⟩ = false := decide_eq_false (by show ¬ z = 0; omega)
        simp [Dst.drop, Dst.eff, e1, Dst.s2, decL, c, Deed.g]
      · have : z = 0 := by omega
        subst this
        cases kept <;> simp [Dst.drop, Dst.eff, Dst.cut, Dst.s2, decL, leftI, Deed.g]
def armOk : Deed → Prop
  | .arm n _ => 0 ≤ n
  | _ => True
def spDue : Sp := fun vs H Q _ => ∃ (pm tm p : Addr) (s : Dst) (d : Deed), vs = [.ref pm, .ref p] ∧ Mdl pm tm s H ∧ H p = some (.tup d.vs) ∧ tyOk H d ∧ armOk d ∧ s.tx.length < 60 ∧
  ∀ (ys : List Str) (v : V) (H' : Hp), (d = .names → s.down = false → isKeys s ys) → Kp [pm, tm] H H' → Mdl pm tm (s.act d ys).2 H' → Rq H' v (s.act d ys).1 → Q v H'
section
variable {P : Program} {w : World} {K : PySem.W.Frag} {mg : Str → Option Value} {base : Heap} {f : Addr} {fd : FuncData} {C CC CE : Addr}
theorem ok_due (F : Fun K "_law_due" "_law_due" s_law_due f fd) (B : Blt mg) (z1 : mg "sorted" = none) : FnOk P w K mg base CX0 1 f fd ["m", "deed"] spDue := by
  refine F.ok sc_law_due (fun vs H Q E h => ?_) (fun cdv A outer s H vs Q E hr h => ?_)
  · obtain ⟨pm, tm, p, st, d, rfl, _⟩ := h; rfl
  obtain ⟨pm, tm, p, st, d, rfl, hM, hp, hT, hA, hl, q⟩ := h
  refine ⟨_, (pss_cons (ps_if (pt_cmpR op_eq (pe_ix ix_tM (pv 1) pe_int (fun _ _ => rfl)) pe_str (nomark _)) (pss_cons (ps_dput (hu_of hr) (pv 0) pe_str pe_bl rfl)
    (pss_cons (ps_dput (hu_of hr) (pv 0) pe_str (pe_un un_neg pe_int) rfl)
    (pss_one (ps_ret (pe_tup (pa_cons pe_str (pa_cons pe_non pa_nil))))))) pss_nil)
    (pss_cons (ps_if (pt_cmpR op_eq (pe_ix ix_tM (pv 1) pe_int (fun _ _ => rfl)) pe_str (nomark _)) (pss_cons (ps_if (pt_not (pt_val (pe_dget (hu_of hr) (pv 0) pe_str (fun _ _ => rfl)))) (pss_cons (ps_dput (hu_of hr) (pv 0) pe_str (pe_ix ix_tM (pv 1) pe_int (fun _ _ => rfl)) rfl)
    (pss_one (ps_dput (hu_of hr) (pv 0) pe_str (pe_ix ix_tM (pv 1) pe_int (fun _ _ => rfl)) rfl))) pss_nil)
    (pss_one (ps_ret (pe_tup (pa_cons pe_str (pa_cons pe_non pa_nil)))))) pss_nil)
    (pss_cons (ps_if (pt_val (pe_dget (hu_of hr) (pv 0) pe_str (fun _ _ => rfl))) (pss_one (ps_ret (pe_tup (pa_cons pe_str (pa_cons pe_bl pa_nil))))) pss_nil)
    (pss_cons (ps_set (i := 2) sc_law_due.nd rfl (Or.inl rfl) (pe_dget (hu_of hr) (pv 0) pe_str (fun _ _ => rfl)))
    (pss_cons (ps_if (pt_cmpR op_eq (pe_ix ix_tM (pv 1) pe_int (fun _ _ => rfl)) pe_str (nomark _)) (pss_one (ps_ret (pe_tup (pa_cons pe_str (pa_cons (pe_dget1 (hu_of hr) (pv 2) (pe_ix ix_tM (pv 1) pe_int (fun _ _ => rfl)) ⟨rfl, rfl, rfl, rfl⟩) pa_nil))))) pss_nil)
    (pss_cons (ps_if (pt_cmpR op_eq (pe_ix ix_tM (pv 1) pe_int (fun _ _ => rfl)) pe_str (nomark _)) (pss_one (ps_ret (pe_tup (pa_cons pe_str (pa_cons (pe_callB (call_sortedD rfl) rfl z1 (by decide +kernel) (pa_cons (pv 2) pa_nil)) pa_nil))))) pss_nil)
    (C8.pss_cut (ps_if (PW.pt (pw_and (pt_cmpR op_eq (pe_ix ix_tM (pv 1) pe_int (fun _ _ => rfl)) pe_str (nomark _)) (pw_and1 (PW.pt (pw_or (pt_not (pt_val (B.isT (pe_ix ix_tM (pv 1) pe_int (fun _ _ => rfl)) B.v_str))) (pw_or (pt_cmpR op_eq (pe_ix ix_tM (pv 1) pe_int (fun _ _ => rfl)) pe_str (nomark _)) (pw_or1 (pt_not (pt_val (B.isT (pe_ix ix_tM (pv 1) pe_int (fun _ _ => rfl)) B.v_str)))))))))) (pss_one (ps_ret (pe_tup (pa_cons pe_str (pa_cons pe_bl pa_nil))))) pss_nil)
    (C8.pss_cut (ps_if (PW.pt (pw_and (pt_cmpR op_eq (pe_ix ix_tM (pv 1) pe_int (fun _ _ => rfl)) pe_str (nomark _)) (pw_and1 (pt_cmp (pc_dnotin (hu_of hr) (pe_ix ix_tM (pv 1) pe_int (fun _ _ => rfl)) (pv 2)))))) (pss_one (ps_ret (pe_tup (pa_cons pe_str (pa_cons pe_bl pa_nil))))) pss_nil)
    (pss_cons (ps_set (i := 3) sc_law_due.nd rfl (Or.inl rfl) (pe_cmpR op_eq (pe_dget (hu_of hr) (pv 0) pe_str (fun _ _ => rfl)) pe_int (nomark _)))
    (C8.pss_cut (ps_if (pt_cmpR op_gt (pe_dget (hu_of hr) (pv 0) pe_str (fun _ _ => rfl)) pe_int (nomark _)) (pss_one (ps_dput (hu_of hr) (pv 0) pe_str (pe_op op_sub (pe_dget (hu_of hr) (pv 0) pe_str (fun _ _ => rfl)) pe_int) rfl)) pss_nil)
    (C8.pss_cut (ps_if (PW.pt (pw_or (pt_not (pt_val (pv 3))) (pw_or1 (pt_val (pe_dget (hu_of hr) (pv 0) pe_str (fun _ _ => rfl)))))) (pss_one (ps_if (pt_cmpR op_eq (pe_ix ix_tM (pv 1) pe_int (fun _ _ => rfl)) pe_str (nomark _)) (pss_one (ps_dput (hu_of hr) (pv 2) (pe_ix ix_tM (pv 1) pe_int (fun _ _ => rfl)) (pe_ix ix_tM (pv 1) pe_int (fun _ _ => rfl)) rfl)) (pss_one (ps_expr (pe_dpop1 (pv 2) (pe_ix ix_tM (pv 1) pe_int (fun _ _ => rfl)) ⟨rfl, rfl, rfl, rfl⟩))))) pss_nil)
    (pss_cons (ps_if (pt_val (pv 3)) (pss_cons (ps_dput (hu_of hr) (pv 0) pe_str pe_bl rfl)
    (pss_one (ps_ret (pe_tup (pa_cons pe_str (pa_cons pe_bl pa_nil)))))) pss_nil)
    (pss_one (ps_ret (pe_tup (pa_cons pe_str (pa_cons pe_non pa_nil))))))))))))))))), ?_⟩
  walk_at "wq"
  have fin : ∀ (ys : List Str) (x : V) (z : Str) (d' : PyData) (s' : Dst) (H1 : Hp), (d = .names → st.down = false → isKeys st ys) → st.act d ys = (.tuple [.str z, d'], s') → Kp [pm, tm] H H1 → Mdl pm tm s' H1 → Rq H1 x d' →
      2 ≤ sizeLine ∧ ∀ p, H1 p = none → Q (.ref p) (upd H1 p (.tup [.str z, x])) := fun ys x z d' s' H1 hk e k D r => ⟨by decide, fun p hp => by
    have kn := Kp.new (S := []) hp (.tup [.str z, x])
    refine q ys _ _ hk (k.trans kn.in0) (by rw [e]; exact D.kp0 kn) ?_
    rw [e]
    exact .tup upd_same (.cons (.str _) (.cons (r.kp0 kn) .nil))⟩
  have kr := Kp.refl [pm, tm] H
  have gd : DGet H pm (.str (Str.ofString "down")) (some (.bl st.down)) := DGet.k (k := Sum.inr (Str.ofString "down")) hM.m
  have gt : DGet H pm (.str (Str.ofString "texts")) (some (.ref tm)) := DGet.k (k := Sum.inr (Str.ofString "texts")) hM.m
  have h0 : atI d.vs 0 = some (.str d.tag) := by cases d <;> rfl
  refine ⟨_, hp, _, h0, rfl, ite_dec (fun c => ?xRs) fun c1 => ⟨_, hp, _, h0, rfl, ite_dec (fun c => ?xAr) fun c2 => ⟨_, gd, _, rfl, ite_dec (fun c => ?xDn) fun c3 => ⟨_, gt, _, hp, _, h0, rfl, ite_dec (fun c => ?xRd) fun c4 => ⟨_, hp, _, h0, rfl, ite_dec (fun c => ?xNm) fun c5 =>
    ⟨fun σ' H' => σ' = [some (.ref pm), some (.ref p), some (.ref tm), none] ∧ H' = H ∧ ((∃ n t, d = .put (.str n) (.str t) ∧ ¬ n = Str.ofString "") ∨ ∃ n, d = .rem n), ?xPt, ?xTl⟩⟩⟩⟩⟩⟩
  case xRs =>
    obtain rfl := tag_is.1 (V.str.inj c)
    obtain ⟨p1, M1, k1⟩ := hM.put (s' := { st with down := false }) (v := .bl false) (k := Str.ofString "down") rfl rfl hM.nn
    obtain ⟨p2, M2, k2⟩ := M1.put (s' := st.restart) (v := .int (-1)) (k := Str.ofString "left") rfl rfl (fun n h => nomatch h)
    exact ⟨_, p1, _, p2, fin [] _ _ _ _ _ (fun h => nomatch h) rfl (k1.trans k2) M2 .non⟩
  case xAr =>
    obtain ⟨n, k, rfl⟩ := tag_is.2.1 (V.str.inj c)
    refine ⟨_, gd, _, rfl, ite_dec (fun c => ?_) fun c => ?_⟩
    · obtain ⟨p1, M1, k1⟩ := hM.put (s' := { st with left := some n }) (v := .int n) (k := Str.ofString "left") rfl rfl (fun m h => by cases h; exact hA)
      obtain ⟨p2, M2, k2⟩ := M1.put (s' := { st with left := some n, kept := k }) (v := .bl k) (k := Str.ofString "kept") rfl rfl (fun m h => by cases h; exact hA)
      exact ⟨_, hp, _, rfl, _, p1, _, k1.tup _ _ hp, _, rfl, _, p2, fin [] _ _ _ _ _ (fun h => nomatch h) (by show (_, st.arm n k) = _; rw [show st.arm n k = { st with left := some n, kept := k } from if_neg (by rw [c]; decide)]; rfl) (k1.trans k2) M2 .non⟩
    · exact fin [] _ _ _ _ _ (fun h => nomatch h) (by show (_, st.arm n k) = _; rw [show st.arm n k = st from if_pos (by simpa using c)]; rfl) kr hM .non
  case xDn =>
    refine fin [] _ _ _ st H (fun _ h => by rw [c] at h; cases h) ?_ kr hM (.bl false)
    cases d with
    | restart => exact absurd rfl c1
    | arm n k => exact absurd rfl c2
    | _ => exact if_pos c
  all_goals have c3 : st.down = false := by simpa using c3
  case xRd =>
    obtain ⟨n, rfl⟩ := tag_is.2.2.1 (V.str.inj c)
    refine ⟨tm, rfl, .inl ⟨_, .inl hM.t⟩, _, hp, _, rfl, _, DGet.k (k := Sum.inr n) hM.t, fin [] _ _ _ st _ (fun h => nomatch h) (if_neg (by rw [c3]; decide)) kr hM ?_⟩
    rw [txK_val]
    cases getT st.tx n with
    | none => exact .non
    | some t => exact .str t
  case xNm =>
    obtain rfl := tag_is.2.2.2.1 (V.str.inj c)
    refine ⟨tm, rfl, _, .inl hM.t, st.tx.map (·.1), txK_keys _, by rw [List.length_map]; omega, fun ys p2 hpm hs hn => ?_⟩
    have kn := Kp.new (S := []) hn (.lst (ys.map V.str))
    exact fin ys _ _ _ st _ (fun _ _ => ⟨asc_of hs (hpm.nodup_iff.mpr hM.nd), fun z => hpm.mem_iff, by rw [hpm.length_eq, List.length_map]⟩) (if_neg (by rw [c3]; decide)) kn.in0 (hM.kp0 kn) (.lst upd_same (rqa_str ys))
  case xPt =>
    walk_at "wq"
    have fl : ¬ st.down = true := by rw [c3]; decide
    refine ⟨_, hp, _, h0, rfl, ite_dec (fun c => ?_) fun c6 => ?_⟩
    · obtain ⟨a, b, rfl⟩ := tag_is.2.2.2.2.1 (V.str.inj c)
      obtain ⟨⟨t1, h1⟩, ⟨t2, h2⟩⟩ := hT
      refine ⟨_, hp, _, rfl, t1, h1, ite_dec (fun c => ?_) fun c => ?_⟩
      · refine fin [] _ _ _ st H (fun h => nomatch h) ((if_neg fl).trans ?_) kr hM (.bl false)
        cases a with
        | str z => cases h1; cases c
        | _ => rfl
      obtain ⟨z, rfl⟩ := isa_str h1 (by simpa using c)
      refine ⟨_, hp, _, rfl, rfl, ite_dec (fun c8 => ?_) fun c7 => ⟨_, hp, _, rfl, t2, h2, ite_dec (fun c9 => ?_) fun c9 => ?_⟩⟩
      · refine fin [] _ _ _ st H (fun h => nomatch h) ((if_neg fl).trans ?_) kr hM (.bl false)
        cases b with
        | str y => exact if_pos (V.str.inj c8)
        | _ => rfl
      · refine fin [] _ _ _ st H (fun h => nomatch h) ((if_neg fl).trans ?_) kr hM (.bl false)
        cases b with
        | str z => cases h2; cases c9
        | _ => rfl
      · obtain ⟨y, rfl⟩ := isa_str h2 (by simpa using c9)
        exact .inl ⟨z, y, rfl, fun e => c7 (by rw [e])⟩
    · refine .inr ?_
      cases d with
      | rem n => exact ⟨n, rfl⟩
      | put a b => exact absurd rfl c6
      | read n => exact absurd rfl c4
      | names => exact absurd rfl c5
      | arm n k => exact absurd rfl c2
      | restart => exact absurd rfl c1
  case xTl =>
    rintro σ' H' ⟨rfl, rfl, hd⟩
    have fl : ¬ st.down = true := by rw [c3]; decide
    refine ⟨fun σ' H2 => σ' = [some (.ref pm), some (.ref p), some (.ref tm), none] ∧ H2 = H' ∧ ((∃ n t, d = .put (.str n) (.str t) ∧ ¬ n = Str.ofString "") ∨ ∃ n, d = .rem n ∧ (getT st.tx n).isSome = true), ?_, ?_⟩
    · walk_at "wq"
      refine ⟨_, hp, _, h0, rfl, ite_dec (fun c => ?_) fun c => ?_⟩
      · obtain ⟨n, rfl⟩ := tag_is.2.2.2.2.2 (V.str.inj c)
        refine ⟨_, hp, _, rfl, _, DGet.k (k := Sum.inr n) hM.t, ite_dec (fun c => ?_) fun c => ?_⟩
        · rw [txK_val, Option.isSome_map] at c
          exact fin [] _ _ _ st _ (fun h => nomatch h) ((if_neg fl).trans (if_neg (by simpa using c))) kr hM (.bl false)
        · rw [txK_val, Option.isSome_map] at c
          exact .inr ⟨n, rfl, by cases h : (getT st.tx n).isSome with | true => rfl | false => rw [h] at c; exact absurd rfl c⟩
      · rcases hd with h | ⟨n, rfl⟩
        · exact .inl h
        · exact absurd rfl c
    rintro σ' H2 ⟨rfl, rfl, hd⟩
    have tl := act_tail c3 hM.nn hd
    have gl : ∀ {s1 : Dst} {H1 : Hp}, Mdl pm tm s1 H1 → DGet H1 pm (.str (Str.ofString "left")) (some (.int (leftI s1.left))) := fun M => DGet.k (k := Sum.inr (Str.ofString "left")) M.m
    have gk : ∀ {s1 : Dst} {H1 : Hp}, Mdl pm tm s1 H1 → DGet H1 pm (.str (Str.ofString "kept")) (some (.bl s1.kept)) := fun M => DGet.k (k := Sum.inr (Str.ofString "kept")) M.m
    walk_at "wq"
    refine ⟨_, gl hM, rfl, fun σ' H3 => σ' = [some (.ref pm), some (.ref p), some (.ref tm), some (.bl st.cut)] ∧ Mdl pm tm { st with left := decL st.left } H3 ∧ Kp [pm, tm] H2 H3, ?_, ?_⟩
    · walk_at "wq"
      have cutE : decide (leftI st.left = 0) = st.cut := rfl
      refine ⟨_, gl hM, _, rfl, ite_dec (fun c => ?_) fun c => ⟨by rw [cutE], ?_, kr⟩⟩
      · obtain ⟨p1, M1, k1⟩ := hM.put (s' := { st with left := decL st.left }) (v := .int (leftI st.left - 1)) (k := Str.ofString "left") (by
            cases e : st.left with
            | none => rw [e] at c; exact absurd c (by decide)
            | some z =>
              rw [e] at c
              have c : z > 0 := c
              show putK (mdK tm st) _ _ = mdK tm { st with left := some (if z > 0 then z - 1 else z) }
              rw [if_pos c]; rfl) rfl (fun n h => by
            cases e : st.left with
            | none => rw [e] at h; cases h
            | some z =>
              rw [e] at h c
              have c : z > 0 := c
              have h : some (if z > 0 then z - 1 else z) = some n := h
              rw [if_pos c] at h
              cases h; omega)
        exact ⟨_, gl hM, _, rfl, _, p1, by rw [cutE], M1, k1⟩
      · have : decL st.left = st.left := by
          cases e : st.left with
          | none => rfl
          | some z =>
            rw [e] at c
            have c : ¬ z > 0 := c
            show some (if z > 0 then z - 1 else z) = some z
            rw [if_neg c]
        rw [this]; exact hM
    rintro σ' H3 ⟨rfl, M3, k3⟩
    have hp3 := k3.tup _ _ hp
    refine ⟨fun σ' H4 => σ' = [some (.ref pm), some (.ref p), some (.ref tm), some (.bl st.cut)] ∧ Mdl pm tm (st.s2 d) H4 ∧ Kp [pm, tm] H2 H4, ?_, ?_⟩
    · walk_at "wq"
      have M5 : (!st.cut || st.kept) = true → Mdl pm tm (st.s2 d) (L2.upd H3 tm (.dK (txK (d.g st.tx)))) ∧ Kp [pm, tm] H2 (L2.upd H3 tm (.dK (txK (d.g st.tx)))) := fun hc => by
        refine ⟨⟨by rw [upd_ne M3.ne]; exact M3.m, ?_, M3.ne, M3.nn, ?_⟩, k3.trans (Kp.dK M3.t (List.mem_cons_of_mem _ List.mem_cons_self))⟩
        · rw [upd_same]
          show _ = some (HO.dK (txK (if (!st.cut || st.kept) = true then d.g st.tx else st.tx)))
          rw [if_pos hc]
        · show ((if (!st.cut || st.kept) = true then d.g st.tx else st.tx).map (·.1)).Nodup
          rw [if_pos hc]
          rcases hd with ⟨n, t, rfl, _⟩ | ⟨n, rfl, _⟩
          · exact putT_nd _ _ M3.nd
          · exact dropT_nd _ M3.nd
      refine ite_dec (fun c => ?_) fun c => ⟨_, gk M3, _, rfl, ite_dec (fun c2 => ?_) fun c2 => ?_⟩
      · obtain ⟨M5, k5⟩ := M5 (by rw [c]; rfl)
        refine ⟨_, hp3, _, h0, rfl, ite_dec (fun c6 => ?_) fun c6 => ?_⟩
        · rcases hd with ⟨n, t, rfl, _⟩ | ⟨n, rfl, _⟩
          · refine ⟨_, hp3, _, rfl, _, hp3, _, rfl, _, DPut.k (k := Sum.inr n) M3.t (by rw [txK_len, sizeLine_eq]; show st.tx.length < _; omega), ?_⟩
            rw [txK_put]
            exact ⟨M5, k5⟩
          · exact absurd (V.str.inj c6) (by simp only [Deed.tag]; decide +kernel)
        · rcases hd with ⟨n, t, rfl, _⟩ | ⟨n, rfl, hs⟩
          · exact absurd rfl c6
          · obtain ⟨y, hy⟩ := Option.isSome_iff_exists.mp hs
            refine ⟨.inl ⟨_, .inl M3.t⟩, _, hp3, _, rfl, _, M3.t, Sum.inr n, rfl, .str y, by rw [txK_val]; show Option.map V.str (getT st.tx n) = _; rw [hy]; rfl, ?_⟩
            rw [txK_drop]
            exact ⟨M5, k5⟩
      · obtain ⟨M5, k5⟩ := M5 (by rw [show st.kept = true from c2, Bool.or_true])
        refine ⟨_, hp3, _, h0, rfl, ite_dec (fun c6 => ?_) fun c6 => ?_⟩
        · rcases hd with ⟨n, t, rfl, _⟩ | ⟨n, rfl, _⟩
          · refine ⟨_, hp3, _, rfl, _, hp3, _, rfl, _, DPut.k (k := Sum.inr n) M3.t (by rw [txK_len, sizeLine_eq]; show st.tx.length < _; omega), ?_⟩
            rw [txK_put]
            exact ⟨M5, k5⟩
          · exact absurd (V.str.inj c6) (by simp only [Deed.tag]; decide +kernel)
        · rcases hd with ⟨n, t, rfl, _⟩ | ⟨n, rfl, hs⟩
          · exact absurd rfl c6
          · obtain ⟨y, hy⟩ := Option.isSome_iff_exists.mp hs
            refine ⟨.inl ⟨_, .inl M3.t⟩, _, hp3, _, rfl, _, M3.t, Sum.inr n, rfl, .str y, by rw [txK_val]; show Option.map V.str (getT st.tx n) = _; rw [hy]; rfl, ?_⟩
            rw [txK_drop]
            exact ⟨M5, k5⟩
      · have e : st.s2 d = { st with left := decL st.left } := by
          have h1 : st.cut = true := by cases h : st.cut with | true => rfl | false => exact absurd h c
          have h2 : st.kept = false := by simpa using c2
          unfold Dst.s2
          rw [h1, h2]; rfl
        rw [e]
        exact ⟨M3, k3⟩
    rintro σ' H4 ⟨rfl, M4, k4⟩
    walk_at "wq"
    refine ite_dec (fun c => ?_) fun c => ?_
    · rw [if_pos c] at tl
      obtain ⟨p1, M5, k5⟩ := M4.put (s' := { st.s2 d with down := true }) (v := .bl true) (k := Str.ofString "down") rfl rfl M4.nn
      exact ⟨_, p1, fin [] _ _ _ _ _ (fun h => by rcases hd with ⟨n, t, rfl, _⟩ | ⟨n, rfl, _⟩ <;> cases h) tl (k4.trans k5) M5 (.bl false)⟩
    · rw [if_neg c] at tl
      exact fin [] _ _ _ _ _ (fun h => by rcases hd with ⟨n, t, rfl, _⟩ | ⟨n, rfl, _⟩ <;> cases h) tl k4 M4 .non
end
/-- texts and names of the law -/
def okT (z : Str) : Prop := z.length ≤ 400 ∧ PyData.strOk z = true
def flat (v : V) : Prop := ∃ t, ∀ H, tyN H v = some t
def deedOk : Deed → Prop
  | .put a b => (∀ z, a = .str z → okT z) ∧ (∀ z, b = .str z → okT z) ∧ flat a ∧ flat b
  | .arm n _ => 0 ≤ n
  | _ => True
def txOk (tx : List (Str × Str)) : Prop := ∀ p ∈ tx, p.1.length ≤ 400 ∧ PyData.strOk p.1 = true ∧ p.2.length ≤ 400 ∧ PyData.strOk p.2 = true
structure S46 (C o dm pm tm : Addr) (s : Dst) (H : Hp) : Prop where
  D : Dsk C o dm s H
  M : Mdl pm tm s H
  n1 : dm ≠ pm
  n2 : dm ≠ tm
  ok : txOk s.tx
theorem act_tx {s : Dst} {d : Deed} {ys : List Str} : (s.act d ys).2.tx.length ≤ s.tx.length + 1 ∧ ∀ p ∈ (s.act d ys).2.tx, p ∈ s.tx ∨ ∃ n t, d = .put (.str n) (.str t) ∧ p = (n, t) := by
  have same : ∀ {s' : Dst}, s'.tx = s.tx → s'.tx.length ≤ s.tx.length + 1 ∧ ∀ p ∈ s'.tx, p ∈ s.tx ∨ ∃ n t, d = .put (.str n) (.str t) ∧ p = (n, t) := fun h => ⟨by rw [h]; omega, fun p m => .inl (by rw [← h]; exact m)⟩
  have eff : s.eff.2.tx = s.tx := by
    unfold Dst.eff
    split
    · rfl
    · split <;> rfl
  cases d with
  | restart => exact same rfl
  | arm n k => refine same ?_; show (s.arm n k).tx = _; unfold Dst.arm; split <;> rfl
  | read n => refine same ?_; unfold Dst.act; simp only []; split <;> rfl
  | names => refine same ?_; unfold Dst.act; simp only []; split <;> rfl
  | rem n =>
    unfold Dst.act
    simp only []
    split
    · exact same rfl
    split
    · unfold Dst.drop
      simp only []
      split
      · exact ⟨Nat.le_succ_of_le (dropT_len _ _), fun p m => .inl (dropT_mem m)⟩
      · exact same eff
    · exact same rfl
  | put a b =>
    unfold Dst.act
    simp only []
    split
    · exact same rfl
    split
    · rename_i n t
      split
      · exact same rfl
      · unfold Dst.put
        simp only []
        split
        · refine ⟨putT_len _ _ _, fun p m => ?_⟩
          rcases putT_mem m with m | e
          · exact .inl m
          · exact .inr ⟨n, t, rfl, e⟩
        · exact same eff
    · exact same rfl
theorem act_ok {s : Dst} {d : Deed} {ys : List Str} (h : txOk s.tx) (hl : s.tx.length ≤ 100) (hk : d = .names → s.down = false → isKeys s ys) : okD 4 (s.act d ys).1 = true := by
  have c1 : okD 4 crashD = true := by decide +kernel
  have c2 : okD 4 errD = true := by decide +kernel
  have c3 : okD 4 (doneD .none) = true := by decide +kernel
  have c4 : ∀ e, okD 3 e = true → okD 4 (doneD e) = true := fun e he => by
    unfold doneD
    refine okD_tup.mpr ⟨by show 2 ≤ 200000; decide, fun x m => ?_⟩
    simp only [List.mem_cons, List.not_mem_nil, or_false] at m
    rcases m with rfl | rfl
    · decide +kernel
    · exact he
  cases d with
  | restart => exact c3
  | arm n k => exact c3
  | read n =>
    unfold Dst.act
    simp only []
    split
    · exact c1
    · refine c4 _ ?_
      cases e : getT s.tx n with
      | none => rfl
      | some t =>
        obtain ⟨_, _, a, b⟩ := h _ (getT_mem e)
        exact okD_str.mpr ⟨by show t.length ≤ _; have a : t.length ≤ 400 := a; omega, b⟩
  | names =>
    unfold Dst.act
    simp only []
    split
    · exact c1
    · rename_i c
      obtain ⟨_, m, l⟩ := hk rfl (by simpa using c)
      refine c4 _ (okD_lst.mpr ⟨by rw [List.length_map]; omega, fun x hx => ?_⟩)
      obtain ⟨z, hz, rfl⟩ := List.mem_map.mp hx
      obtain ⟨p, hp, rfl⟩ := List.mem_map.mp ((m z).mp hz)
      obtain ⟨a, b, _, _⟩ := h p hp
      exact okD_str.mpr ⟨by omega, b⟩
  | rem n =>
    unfold Dst.act
    simp only []
    split
    · exact c1
    split
    · show okD 4 (if _ then _ else _) = true
      split
      · exact c1
      · exact c3
    · exact c2
  | put a b =>
    unfold Dst.act
    simp only []
    split
    · exact c1
    split
    · split
      · exact c2
      · show okD 4 (if _ then _ else _) = true
        split
        · exact c1
        · exact c3
    · exact c2
theorem ok_strs {s : Dst} {ys : List Str} (h : txOk s.tx) (hl : ys.length ≤ 100) (m : ∀ z, z ∈ ys ↔ z ∈ s.tx.map (·.1)) : okD 1 (.list (ys.map PyData.str)) = true := by
  refine okD_lst.mpr ⟨by rw [List.length_map]; omega, fun x hx => ?_⟩
  obtain ⟨z, hz, rfl⟩ := List.mem_map.mp hx
  obtain ⟨p, hp, rfl⟩ := List.mem_map.mp ((m z).mp hz)
  obtain ⟨a, b, _, _⟩ := h p hp
  exact okD_str.mpr ⟨by omega, b⟩
theorem ok_eqv {n : Nat} {d : PyData} (h : okD n d = true) : PyData.eqv d d = true := SeqAt.eqv_refl d (ok_lay n d h).1
def spLaw (K : PySem.W.Frag) : Sp := fun vs H Q _ => ∃ (a : Addr) (ns : List Int), vs = [.ref a] ∧ SqL K H a (ns.map V.int) ∧ ns.length ≤ 63 ∧ ∀ H', Q (.bl true) H'
theorem S46.kp0 {C o dm pm tm : Addr} {s : Dst} {H H' : Hp} (h : S46 C o dm pm tm s H) (k : Kp [] H H') : S46 C o dm pm tm s H' := ⟨h.D.kp0 k, h.M.kp0 k, h.n1, h.n2, h.ok⟩
theorem mk_kp {x dx : Addr} {H H1 : Hp} {o : HO} (n1 : H x = none) (n2 : H dx = none) (n3 : dx ≠ x) (k : Kp [x] (upd (upd H dx (.own x)) x o) H1) : Kp [] H H1 :=
  Kp.drop n1 (((Kp.new n2 (.own x) : Kp [x] _ _).trans (Kp.new (by rw [upd_ne n3.symm]; exact n1) o)).trans k)
theorem mk_none {x dx d : Addr} {H : Hp} {o : HO} (h : upd (upd H dx (.own x)) x o d = none) : H d = none := by
  have n1 : d ≠ x := fun e => by rw [e, upd_same] at h; cases h
  rw [upd_ne n1] at h
  have n2 : d ≠ dx := fun e => by rw [e, upd_same] at h; cases h
  rw [upd_ne n2] at h
  exact h
section
variable {P : Program} {w : World} {K : PySem.W.Frag} {mg : Str → Option Value} {base : Heap} {f : Addr} {fd : FuncData} {C CC CE : Addr}
theorem ok_law (F : Fun K "law" "law" s_law f fd) (B : Blt mg) (z1 : mg "sorted" = none) (c_law_draws : Cal P w K mg base CX0 1 "_law_draws" (spDraws K)) (c_law_told : Cal P w K mg base CX0 3 "_law_told" (spTold C)) (c_law_due : Cal P w K mg base CX0 1 "_law_due" spDue)
    (k_Disk : CalK P w K mg base CX0 1 C "Disk" (spDInit C)) (m_Disk_names : CalM P w K mg base (L2.CX P w) 2 C "names" (spDNames C CC)) : FnOk P w K mg base CX0 4 f fd ["script"] (spLaw K) := by
  refine F.ok sc_law (fun vs H Q E h => ?_) (fun cdv A outer s H vs Q E hr h => ?_)
  · obtain ⟨a, ns, rfl, _⟩ := h; rfl
  obtain ⟨a, ns, rfl, hS, hl, q⟩ := h
  refine ⟨_, (pss_cons (ps_set (i := 1) sc_law.nd rfl (Or.inl rfl) (k_Disk.pe0 hr))
    (pss_cons (ps_set (i := 2) sc_law.nd rfl (Or.inl rfl) (pe_disp (pps_cons pe_str pe_dnewK (pps_cons pe_str pe_bl (pps_cons pe_str (pe_un un_neg pe_int) (pps_cons pe_str pe_bl pps_nil)))) rfl rfl (by intro h; cases h) (by decide)))
    (pss_cons (ps_for PassesOwn.never rfl (pi_list (c_law_draws.pe hr (pa_cons (pv 0) (pa_cons pe_int (pa_cons pe_int pa_nil))))) (pg_name (i := 3) sc_law.nd rfl (Or.inl rfl)) (pss_cons (ps_set (i := 4) sc_law.nd rfl (Or.inl rfl) (pe_op op_mod (pv 3) pe_int))
    (pss_cons (ps_set (i := 5) sc_law.nd rfl (Or.inl rfl) (pe_op op_fdivW (pv 3) pe_int))
    (pss_cons (ps_set (i := 6) sc_law.nd rfl (Or.inl rfl) (pe_ix ix_lM (pe_lst (pa_cons pe_str (pa_cons pe_str (pa_cons pe_str (pa_cons pe_str pa_nil))))) (pe_op op_mod (pv 5) pe_int) (fun _ _ => rfl)))
    (C8.pss_cut (ps_set (i := 7) sc_law.nd rfl (Or.inl rfl) (pe_tup (pa_cons pe_str (pa_cons (pv 6) (pa_cons (pe_ix ix_lM (pe_lst (pa_cons (pe_op op_add_str pe_str (B.str_i (pa_cons (pe_op op_mod (pe_op op_fdivW (pv 5) pe_int) pe_int) pa_nil))) (pa_cons pe_str (pa_cons pe_str (pa_cons pe_str (pa_cons pe_str (pa_cons pe_str (pa_cons pe_str (pa_cons (pe_op op_mulS pe_str pe_int) pa_nil))))))))) (pe_op op_mod (pe_op op_fdivW (pv 5) pe_int) pe_int) (fun _ _ => rfl)) pa_nil)))))
    (C8.pss_cut (ps_if (pt_cmpR op_in_seq (pv 4) (pe_lst (pa_cons pe_int (pa_cons pe_int pa_nil))) (by rfl)) (pss_one (ps_set (i := 7) sc_law.nd rfl (Or.inl rfl) (pe_tup (pa_cons pe_str (pa_cons (pv 6) pa_nil))))) (pss_one (ps_if (pt_cmpR op_in_seq (pv 4) (pe_lst (pa_cons pe_int (pa_cons pe_int pa_nil))) (by rfl)) (pss_one (ps_set (i := 7) sc_law.nd rfl (Or.inl rfl) (pe_tup (pa_cons pe_str (pa_cons (pv 6) pa_nil))))) (pss_one (ps_if (pt_cmpR op_eq (pv 4) pe_int (nomark _)) (pss_one (ps_set (i := 7) sc_law.nd rfl (Or.inl rfl) (pe_tup (pa_cons pe_str pa_nil)))) (pss_one (ps_if (pt_cmpR op_eq (pv 4) pe_int (nomark _)) (pss_one (ps_set (i := 7) sc_law.nd rfl (Or.inl rfl) (pe_tup (pa_cons pe_str (pa_cons (pe_op op_mod (pv 5) pe_int) (pa_cons (pe_cmpR op_eq (pe_op op_mod (pe_op op_fdivW (pv 5) pe_int) pe_int) pe_int (nomark _)) pa_nil)))))) (pss_one (ps_if (pt_cmpR op_eq (pv 4) pe_int (nomark _)) (pss_one (ps_set (i := 7) sc_law.nd rfl (Or.inl rfl) (pe_tup (pa_cons pe_str pa_nil)))) (pss_one (ps_if (pt_cmpR op_eq (pv 4) pe_int (nomark _)) (pss_one (ps_set (i := 7) sc_law.nd rfl (Or.inl rfl) (pe_ix ix_lM (pe_lst (pa_cons (pe_tup (pa_cons pe_str (pa_cons pe_str (pa_cons pe_str pa_nil)))) (pa_cons (pe_tup (pa_cons pe_str (pa_cons pe_str (pa_cons pe_non pa_nil)))) (pa_cons (pe_tup (pa_cons pe_str (pa_cons pe_int (pa_cons pe_str pa_nil)))) (pa_cons (pe_tup (pa_cons pe_str (pa_cons pe_str pa_nil))) (pa_cons (pe_tup (pa_cons pe_str (pa_cons pe_str pa_nil))) pa_nil)))))) (pe_op op_mod (pv 5) pe_int) (fun _ _ => rfl)))) pss_nil)))))))))))
    (C8.pss_cut (ps_if (pt_cmpR (op_neD hr.units) (c_law_told.pe hr (pa_cons (pv 1) (pa_cons (pv 7) pa_nil))) (c_law_due.pe hr (pa_cons (pv 2) (pa_cons (pv 7) pa_nil))) (nomark _)) (pss_one (ps_ret pe_bl)) pss_nil)
    (pss_one (ps_if (pt_not (pt_val (pe_dget (hu_of hr) (pv 2) pe_str (fun _ _ => rfl)))) (pss_cons (ps_expr (pe_bm PySem.F.plainAttrs_list PySem.F.slot_list_append PySem.F.type_list_append mt_append (m_Disk_names.peL0 hr (pv 1)) (pa_cons pe_str pa_nil)))
    (pss_one (ps_if (pt_cmpR (op_neD hr.units) (m_Disk_names.peL0 hr (pv 1)) (pe_callB (call_sortedD rfl) rfl z1 (by decide +kernel) (pa_cons (pe_dget (hu_of hr) (pv 2) pe_str (fun _ _ => rfl)) pa_nil)) (nomark _)) (pss_one (ps_ret pe_bl)) pss_nil))) pss_nil)))))))))
    (pss_one (ps_ret pe_bl))))), ?_⟩
  walk_at "wq"
  intro o dx n1 n2 n3
  refine ⟨o, dx, rfl, upd_same, fun dm H1 hdm nom D1 k1 => ?_⟩
  have K1 := mk_kp n1 n2 n3 k1
  refine ⟨rfl, fun pm hpm tm htm => ?_⟩
  have npt : pm ≠ tm := ne_of_none upd_same htm
  have e1 : L2.upd (L2.upd H1 pm (.dK [])) tm (.dK []) pm = some (.dK []) := by rw [upd_ne npt]; exact upd_same
  refine ⟨e1, mdK tm ⟨[], false, none, false⟩, rfl, by show 4 ≤ 15; decide, ?_⟩
  rw [show mergeK [] (mdK tm ⟨[], false, none, false⟩) = mdK tm ⟨[], false, none, false⟩ from rfl]
  have K4 : Kp [] H1 (L2.upd (L2.upd (L2.upd H1 pm (.dK [])) tm (.dK [])) pm (.dK (mdK tm ⟨[], false, none, false⟩))) :=
    Kp.drop hpm (((Kp.new hpm _).trans (Kp.new htm _)).trans (Kp.dK e1 (List.mem_singleton.mpr rfl)))
  have htm1 : H1 tm = none := by rw [upd_ne npt.symm] at htm; exact htm
  have Z0 : S46 C o dm pm tm ⟨[], false, none, false⟩ (L2.upd (L2.upd (L2.upd H1 pm (.dK [])) tm (.dK [])) pm (.dK (mdK tm ⟨[], false, none, false⟩))) :=
    ⟨D1.kp0 K4, ⟨upd_same, by rw [upd_ne npt.symm]; exact upd_same, npt, (fun n h => nomatch h), List.nodup_nil⟩, ne_of_none D1.dc hpm, ne_of_none D1.dc htm1, fun p m => absurd m List.not_mem_nil⟩
  have K5 := K1.trans K4
  generalize L2.upd (L2.upd (L2.upd H1 pm (.dK [])) tm (.dK [])) pm (.dK (mdK tm ⟨[], false, none, false⟩)) = H4 at Z0 K5 ⊢
  clear K4 e1 htm hpm htm1 D1 K1
  refine ⟨_, rfl, a, ns, 0, 50, rfl, K5.seqL List.not_mem_nil hS, hl, fun ds L H5 hL eL hds hdl k5 => ⟨L, rfl, ⟨_, SqL.of eL⟩, ?_⟩⟩
  refine for_list (K := K) (a := L) (xs := ds.map V.int) (fun i σ H' => ∃ (s : Dst) (o3 o4 o5 o6 o7 : Option V), σ = [some (.ref a), some (.ref o), some (.ref pm), o3, o4, o5, o6, o7] ∧ S46 C o dm pm tm s H' ∧ H' L = some (.lst (ds.map V.int)) ∧ s.tx.length ≤ i)
    ⟨_, _, _, _, _, _, rfl, Z0.kp0 k5, eL, Nat.le_refl _⟩ (fun i σ H' _ ⟨_, _, _, _, _, _, _, _, e, _⟩ => SqL.of e) (fun i x σ H6 hi ⟨s, o3, o4, o5, o6, o7, hσ, Z, eL, lt⟩ => ?_) (fun σ H6 ⟨s, o3, o4, o5, o6, o7, hσ, Z, eL, lt⟩ => ?_)
  · subst hσ
    rw [List.getElem?_map] at hi
    obtain ⟨d, hz, rfl⟩ := Option.map_eq_some_iff.mp hi
    have li := (List.getElem?_eq_some_iff.mp hz).1
    obtain ⟨d0, d1⟩ := hds d (List.mem_of_getElem? hz)
    have lit : ∀ {j i : Int}, 0 < j → j < 2 ^ 200 → CDivW i j := fun h0 h1 => two200 h0 h1
    walk_at "wq"
    refine ⟨by decide, lit (by decide) (by decide), by decide, fun p1 hp1 => ⟨by decide, ?_⟩⟩
    have w0 := Int.emod_nonneg (d / 12) (show (4 : Int) ≠ 0 by decide)
    have w1 := Int.emod_lt_of_pos (d / 12) (show (0 : Int) < 4 by decide)
    obtain ⟨x, ex, mx⟩ := atI_memQ (xs := [V.str (Str.ofString "a"), V.str (Str.ofString "stamp"), V.str (Str.ofString "file.x/y"), V.str (Str.ofString "list.b")]) w0 w1
    obtain ⟨nm, rfl, hnm⟩ : ∃ nm, x = .str nm ∧ okT nm := by
      simp only [List.mem_cons, List.not_mem_nil, or_false] at mx
      rcases mx with rfl | rfl | rfl | rfl <;> exact ⟨_, rfl, by decide +kernel, by decide +kernel⟩
    refine ⟨_, ex, ?_⟩
    clear ex mx w0 w1
    have kp := Kp.new (S := []) hp1 (.lst [V.str (Str.ofString "a"), V.str (Str.ofString "stamp"), V.str (Str.ofString "file.x/y"), V.str (Str.ofString "list.b")])
    have Z := Z.kp0 kp
    have eL := kp.keep _ _ List.not_mem_nil eL
    generalize L2.upd H6 p1 (.lst [V.str (Str.ofString "a"), V.str (Str.ofString "stamp"), V.str (Str.ofString "file.x/y"), V.str (Str.ofString "list.b")]) = H7 at Z eL ⊢
    clear kp hp1
    refine ⟨fun σ' H' => ∃ (pd : Addr) (t : Str), σ' = [some (.ref a), some (.ref o), some (.ref pm), some (.int d), some (.int (d % 12)), some (.int (d / 12)), some (.str nm), some (.ref pd)] ∧ Kp [] H7 H' ∧ H' pd = some (.tup (Deed.put (.str nm) (.str t)).vs) ∧ okT t, ?_, ?_⟩
    · walk_at "wq"
      have u0 := Int.emod_nonneg (d / 12 / 32) (show (50 : Int) ≠ 0 by decide)
      have u1 := Int.emod_lt_of_pos (d / 12 / 32) (show (0 : Int) < 50 by decide)
      have tx : ∀ k : Nat, k < 50 → ((Str.ofString "t" ++ Str.ofString (toString (k : Int))).length ≤ 400 ∧ PyData.strOk (Str.ofString "t" ++ Str.ofString (toString (k : Int))) = true) ∧ (Str.ofString "t").length + (Str.ofString (toString (k : Int))).length ≤ 100 := by decide +kernel
      obtain ⟨k, hk⟩ : ∃ k : Nat, d / 12 / 32 % 50 = (k : Int) := ⟨(d / 12 / 32 % 50).toNat, by omega⟩
      rw [hk] at u0 u1 ⊢
      obtain ⟨t1, t2⟩ := tx k (by omega)
      have lim : sizeLine = 16777216 := sizeLine_eq
      refine ⟨lit (by decide) (by decide), by decide, log_small u0 (by omega), by omega, 120, by decide +kernel, by decide, by decide, by decide, fun p2 hp2 => ⟨lit (by decide) (by decide), by decide, ?_⟩⟩
      have v0 := Int.emod_nonneg (d / 12 / 4) (show (8 : Int) ≠ 0 by decide)
      have v1 := Int.emod_lt_of_pos (d / 12 / 4) (show (0 : Int) < 8 by decide)
      obtain ⟨x, ex, mx⟩ := atI_memQ (xs := [V.str (Str.ofString "t" ++ Str.ofString (toString (k : Int))), V.str (Str.ofString ""), V.str (Str.ofString " t"), V.str (Str.ofString "t "), V.str (Str.ofString "a\nb"), V.str (Str.ofString "t"), V.str (Str.ofString "t1"), V.str { cps := (List.replicate (Int.toNat 300) 120).toArray }]) v0 v1
      obtain ⟨t, rfl, ht⟩ : ∃ t, x = .str t ∧ okT t := by
        simp only [List.mem_cons, List.not_mem_nil, or_false] at mx
        rcases mx with rfl | rfl | rfl | rfl | rfl | rfl | rfl | rfl
        · exact ⟨_, rfl, t1⟩
        all_goals exact ⟨_, rfl, by decide +kernel, by decide +kernel⟩
      exact ⟨_, ex, by decide, fun p3 hp3 => ⟨(Kp.new hp2 _).trans (Kp.new hp3 _), t, rfl, ht⟩⟩
    rintro σ' H8 ⟨pd, t, rfl, k8, hpd, ht⟩
    have Z := Z.kp0 k8
    have eL := k8.keep _ _ List.not_mem_nil eL
    refine ⟨fun σ' H' => ∃ (pd : Addr) (dd : Deed), σ' = [some (.ref a), some (.ref o), some (.ref pm), some (.int d), some (.int (d % 12)), some (.int (d / 12)), some (.str nm), some (.ref pd)] ∧ Kp [] H8 H' ∧ H' pd = some (.tup dd.vs) ∧ deedOk dd, ?_, ?_⟩
    · walk_at "wq"
      have fin : ∀ (dd : Deed) (H' : Hp) (pd : Addr), Kp [] H8 H' → deedOk dd → H' pd = none → Kp [] H8 (L2.upd H' pd (.tup dd.vs)) ∧ ∃ x : Deed, dd.vs = x.vs ∧ deedOk x := fun dd H' pd k h hp => ⟨k.trans (Kp.new hp _), dd, rfl, h⟩
      refine ⟨by decide, fun p2 hp2 => ⟨p2, _, rfl, .inl (SqL.of upd_same), rfl, rfl, _, rfl, ite_dec (fun c => ⟨by decide, fun p3 hp3 => fin (.rem nm) _ p3 (Kp.new hp2 _) trivial hp3⟩) fun c => ⟨by decide, fun p3 hp3 => ?_⟩⟩⟩
      have k3 := (Kp.new (S := []) hp2 (.lst [V.int 4, V.int 5])).trans (Kp.new hp3 (.lst [V.int 6, V.int 7]))
      refine ⟨p3, _, rfl, .inl (SqL.of upd_same), rfl, rfl, _, rfl, ite_dec (fun c => ⟨by decide, fun p4 hp4 => fin (.read nm) _ p4 k3 trivial hp4⟩) fun c => ite_dec (fun c => ⟨by decide, fun p4 hp4 => fin .names _ p4 k3 trivial hp4⟩) fun c => ite_dec (fun c => ⟨by decide, lit (by decide) (by decide), by decide, by decide, fun p4 hp4 => fin (.arm _ _) _ p4 k3 (Int.emod_nonneg _ (by decide)) hp4⟩) fun c => ite_dec (fun c => ⟨by decide, fun p4 hp4 => fin .restart _ p4 k3 trivial hp4⟩) fun c => ite_dec (fun c => ?_) fun c => ?_⟩
      · refine ⟨by decide, fun q0 h0 => ⟨by decide, fun q1 h1 => ⟨by decide, fun q2 h2 => ⟨by decide, fun q3 h3 => ⟨by decide, fun q4 h4 => ⟨by decide, fun q5 h5 => ⟨by decide, ?_⟩⟩⟩⟩⟩⟩⟩
        have l0 := Kp.new (S := []) h0 (.tup [V.str (Str.ofString "put"), V.str (Str.ofString ""), V.str (Str.ofString "t")])
        have l1 := Kp.new (S := []) h1 (.tup [V.str (Str.ofString "put"), V.str (Str.ofString "a"), V.non])
        have l2 := Kp.new (S := []) h2 (.tup [V.str (Str.ofString "put"), V.int 5, V.str (Str.ofString "t")])
        have l3 := Kp.new (S := []) h3 (.tup [V.str (Str.ofString "remove"), V.str (Str.ofString "zz")])
        have l4 := Kp.new (S := []) h4 (.tup [V.str (Str.ofString "remove"), V.str (Str.ofString "")])
        have l5 := Kp.new (S := []) h5 (.lst [V.ref q0, V.ref q1, V.ref q2, V.ref q3, V.ref q4])
        have m5 := l5
        have m4 := l4.trans m5
        have m3 := l3.trans m4
        have m2 := l2.trans m3
        have m1 := l1.trans m2
        have m0 := l0.trans m1
        have s0 : okT (Str.ofString "") := ⟨by decide +kernel, by decide +kernel⟩
        have s1 : okT (Str.ofString "t") := ⟨by decide +kernel, by decide +kernel⟩
        have s2 : okT (Str.ofString "a") := ⟨by decide +kernel, by decide +kernel⟩
        have fs : ∀ z, flat (.str z) := fun z => ⟨_, fun _ => rfl⟩
        have w0 := Int.emod_nonneg (d / 12) (show (5 : Int) ≠ 0 by decide)
        have w1 := Int.emod_lt_of_pos (d / 12) (show (0 : Int) < 5 by decide)
        have : d / 12 % 5 = 0 ∨ d / 12 % 5 = 1 ∨ d / 12 % 5 = 2 ∨ d / 12 % 5 = 3 ∨ d / 12 % 5 = 4 := by omega
        rcases this with e | e | e | e | e <;> rw [e]
        · exact ⟨_, rfl, q0, rfl, k3.trans m0, .put (.str "") (.str "t"), m1.tup _ _ upd_same, (fun z e => by cases e; exact s0), (fun z e => by cases e; exact s1), fs _, fs _⟩
        · exact ⟨_, rfl, q1, rfl, k3.trans m0, .put (.str "a") .non, m2.tup _ _ upd_same, (fun z e => by cases e; exact s2), (fun z e => nomatch e), fs _, ⟨_, fun _ => rfl⟩⟩
        · exact ⟨_, rfl, q2, rfl, k3.trans m0, .put (.int 5) (.str "t"), m3.tup _ _ upd_same, (fun z e => nomatch e), (fun z e => by cases e; exact s1), ⟨_, fun _ => rfl⟩, fs _⟩
        · exact ⟨_, rfl, q3, rfl, k3.trans m0, .rem "zz", m4.tup _ _ upd_same, trivial⟩
        · exact ⟨_, rfl, q4, rfl, k3.trans m0, .rem "", m5.tup _ _ upd_same, trivial⟩
      · exact ⟨k3, .put (.str nm) (.str t), k3.tup _ _ hpd, (fun z e => by cases e; exact hnm), (fun z e => by cases e; exact ht), ⟨_, fun _ => rfl⟩, ⟨_, fun _ => rfl⟩⟩
    rintro σ' H9 ⟨pd, dd, rfl, k9, hpd, hdd⟩
    have Z := Z.kp0 k9
    have eL := k9.keep _ _ List.not_mem_nil eL
    refine ⟨fun σ' H' => ∃ (s' : Dst), σ' = [some (.ref a), some (.ref o), some (.ref pm), some (.int d), some (.int (d % 12)), some (.int (d / 12)), some (.str nm), some (.ref pd)] ∧ S46 C o dm pm tm s' H' ∧ H' L = some (.lst (ds.map V.int)) ∧ s'.tx.length ≤ i + 1, ?_, ?_⟩
    · walk_at "wq"
      obtain ⟨dxo, ho⟩ := Z.D.ob
      have no : ∀ {b : Addr} {u : HO}, H9 b = some u → (∀ c dx fs, u ≠ .ins c dx fs) → b ≠ o := fun e h z => by rw [z, ho] at e; exact h _ _ _ (Option.some.inj e).symm
      have tyk : ∀ H, tyOk H dd := fun H => by
        cases dd with
        | put a b => exact ⟨let ⟨t, h⟩ := hdd.2.2.1; ⟨t, h H⟩, let ⟨t, h⟩ := hdd.2.2.2; ⟨t, h H⟩⟩
        | _ => trivial
      have amk : armOk dd := by
        cases dd with
        | arm n k => exact hdd
        | _ => trivial
      refine ⟨o, dm, pd, s, dd, rfl, Z.D, hpd, tyk _, by omega, fun ys1 v1 HB hk1 kB DB r1 => ?_⟩
      have nl : ∀ {u : HO}, (∀ kvs, u ≠ .dK kvs) → (∀ c dx fs, u ≠ .ins c dx fs) → ∀ {b : Addr}, H9 b = some u → b ∉ [o, dm] := by
        intro u h1 h2 b e m
        simp only [List.mem_cons, List.not_mem_nil, or_false] at m
        rcases m with rfl | rfl
        · rw [ho] at e; exact h2 _ _ _ (Option.some.inj e).symm
        · rw [Z.D.dc] at e; exact h1 _ (Option.some.inj e).symm
      have MB : Mdl pm tm s HB := Z.M.kp kB (fun m => by
        simp only [List.mem_cons, List.not_mem_nil, or_false] at m
        exact m.elim (no Z.M.m (by intro c dx fs z; cases z)) Z.n1.symm) (fun m => by
        simp only [List.mem_cons, List.not_mem_nil, or_false] at m
        exact m.elim (no Z.M.t (by intro c dx fs z; cases z)) Z.n2.symm)
      have eLB := kB.keep _ _ (nl (by intro k z; cases z) (by intro c dx fs z; cases z) eL) eL
      refine ⟨pm, tm, pd, s, dd, rfl, MB, kB.tup _ _ hpd, tyk _, amk, by omega, fun ys2 v2 HC hk2 kC MC r2 => ?_⟩
      rw [act_same hk2 hk1] at MC r2
      have nC : ∀ b ∈ [pm, tm], ∃ kvs, HB b = some (.dK kvs) := fun b m => by
        simp only [List.mem_cons, List.not_mem_nil, or_false] at m
        rcases m with rfl | rfl
        · exact ⟨_, MB.m⟩
        · exact ⟨_, MB.t⟩
      have r1 := r1.off kC fun b m xs e => by
        obtain ⟨kvs, z⟩ := nC b m
        rw [z] at e; cases e
      have aok := act_ok (d := dd) (ys := ys1) Z.ok (by omega) hk1
      have sh := ok_shaped aok (by decide)
      refine ⟨_, _, r1.dp, r2.dp, sh, sh, _, rfl, ?_⟩
      rw [ok_eqv aok]
      refine if_no (by decide) ⟨(s.act dd ys1).2, ⟨DB.kp kC (fun m => ?_) (fun m => ?_), MC, Z.n1, Z.n2, ?_⟩, kC.keep _ _ (fun m => ?_) eLB, by have := (act_tx (s := s) (d := dd) (ys := ys1)).1; omega⟩
      · obtain ⟨kvs, z⟩ := nC o m
        obtain ⟨_, e⟩ := DB.ob
        rw [z] at e; cases e
      · simp only [List.mem_cons, List.not_mem_nil, or_false] at m
        exact m.elim Z.n1 Z.n2
      · intro p m
        rcases act_tx.2 p m with m | ⟨n, t, rfl, rfl⟩
        · exact Z.ok p m
        · obtain ⟨a1, a2⟩ := hdd.1 n rfl
          obtain ⟨b1, b2⟩ := hdd.2.1 t rfl
          exact ⟨a1, a2, b1, b2⟩
      · obtain ⟨kvs, z⟩ := nC L m
        rw [z] at eLB; cases eLB
    rintro σ' HA ⟨s', rfl, Z, eL, lt⟩
    walk_at "wq"
    refine ⟨_, DGet.k (k := Sum.inr (Str.ofString "down")) Z.M.m, _, rfl, ite_dec (fun c => ?_) fun c => ⟨s', Z, eL, lt⟩⟩
    have c : s'.down = false := c
    obtain ⟨dxo, ho⟩ := Z.D.ob
    have lim : sizeLine = 16777216 := sizeLine_eq
    refine ⟨dxo, _, ho, rfl, o, dm, s', rfl, Z.D, by omega, (fun h => by rw [c] at h; cases h), fun _ ys p ha hm hly hp => ?_⟩
    have ly : (ys.map V.str).length ≤ 100 := by rw [List.length_map]; omega
    have kB := (Kp.new (S := []) hp (.lst (ys.map V.str))).upd (ys := ys.map V.str ++ [V.str (Str.ofString "spoilt")]) hp upd_same
    have Z := Z.kp0 kB
    have eL := kB.keep _ _ List.not_mem_nil eL
    refine ⟨.inl ⟨rfl, _, SqL.of upd_same⟩, p, rfl, _, upd_same, by omega, ?_⟩
    generalize L2.upd (L2.upd HA p (.lst (ys.map V.str))) p (.lst (ys.map V.str ++ [V.str (Str.ofString "spoilt")])) = HB at Z eL ⊢
    clear kB
    obtain ⟨dxo, ho⟩ := Z.D.ob
    refine ⟨dxo, _, ho, rfl, o, dm, s', rfl, Z.D, by omega, (fun h => by rw [c] at h; cases h), fun _ zs p2 ha2 hm2 hlz hp2 => ?_⟩
    have kC := Kp.new (S := []) hp2 (.lst (zs.map V.str))
    have ez : L2.upd HB p2 (.lst (zs.map V.str)) p2 = some (.lst (zs.map V.str)) := upd_same
    have Z := Z.kp0 kC
    have eL := kC.keep _ _ List.not_mem_nil eL
    generalize L2.upd HB p2 (.lst (zs.map V.str)) = HC at Z eL ez ⊢
    clear kC
    refine ⟨_, DGet.k (k := Sum.inr (Str.ofString "texts")) Z.M.m, tm, rfl, _, .inl Z.M.t, s'.tx.map (·.1), txK_keys _, by rw [List.length_map]; omega, fun us p3 hpm hs hp3 => ?_⟩
    have kD := Kp.new (S := []) hp3 (.lst (us.map V.str))
    have eu : us = zs := asc_eq (asc_of hs (hpm.nodup_iff.mpr Z.M.nd)) ha2 fun z => hpm.mem_iff.trans (hm2 z).symm
    subst eu
    have sk := ok_strs Z.ok (by omega) hm2
    have sh := ok_shaped sk (by decide)
    refine ⟨_, _, (Rq.lst (kD.keep _ _ List.not_mem_nil ez) (rqa_str us)).dp, (Rq.lst upd_same (rqa_str us)).dp, sh, sh, _, rfl, ?_⟩
    rw [ok_eqv sk]
    exact if_no (by decide) ⟨s', Z.kp0 kD, kD.keep _ _ List.not_mem_nil eL, lt⟩
  · subst hσ
    walk_at "wq"
    exact q _
end

open PySem.Spec PyProof.Rows in
theorem all_mk {l : PySem.W.OpenLaw} {q : Program} {lo : List Str} {mean : ExcName → Option Value} {w : World} {K : PySem.W.Frag} {h : Heap} {mg mb : Str → Option Value} {fa : Addr} (T : Top q lo mean mg mb h) (X : K.In h) (G : h.Ns mainGlobals mg) (hfa : mg "law" = some (.ref fa))
    {C_Disk : Addr} (aC_Disk : PySem.W.nsIn K mainGlobals "Disk" = some (some (.ref C_Disk)))
    (pg_Disk : PySem.W.plainGet K C_Disk Str.empty = true)
    (hd_Disk : PySem.W.hasDictIn K C_Disk = true)
    (po_Disk : PySem.W.plainOver K C_Disk = true)
    (sa_Disk : PySem.W.findIn K (.ref C_Disk) "__setattr__" = some (some (.builtin "object.__setattr__")))
    (mk_Disk : PySem.W.makesIn K C_Disk = true)
    (kc_Disk : PySem.W.keepIn K (.ref C_Disk) = true)
    (na_texts_Disk : PySem.W.findIn K (.ref C_Disk) "_texts" = some none)
    (na_crashed_Disk : PySem.W.findIn K (.ref C_Disk) "_crashed" = some none)
    (na_left_Disk : PySem.W.findIn K (.ref C_Disk) "_left" = some none)
    (na_kept_Disk : PySem.W.findIn K (.ref C_Disk) "_kept" = some none)
    {oc0 kV0 doc0 pm0 cd0 ct0 : Value} {od0 an0 : Option Addr} {sl0 : Array (Option Value)} {f0 : Addr}
    (a0 : PySem.W.findIn K (.ref C_Disk) "__init__" = some (some (.ref f0))) (i0 : PySem.W.isFn K (.ref f0) = true)
    (l0 : K.lookup f0 = some ⟨oc0, od0, .func (PySem.W.fnOf "__init__" "Disk.__init__" (defArgs s_Disk___init) (defBody s_Disk___init) (defScope s_Disk___init) .none kV0 doc0 pm0 an0 cd0 ct0), sl0⟩) (cc0 : PySem.W.codeIn K cd0 "Disk.__init__" = true) (k0 : PySem.W.keepIn K (.ref f0) = true)
    {oc1 kV1 doc1 pm1 cd1 ct1 : Value} {od1 an1 : Option Addr} {sl1 : Array (Option Value)} {f1 : Addr}
    (a1 : PySem.W.findIn K (.ref C_Disk) "put" = some (some (.ref f1))) (i1 : PySem.W.isFn K (.ref f1) = true)
    (l1 : K.lookup f1 = some ⟨oc1, od1, .func (PySem.W.fnOf "put" "Disk.put" (defArgs s_Disk_put) (defBody s_Disk_put) (defScope s_Disk_put) .none kV1 doc1 pm1 an1 cd1 ct1), sl1⟩) (cc1 : PySem.W.codeIn K cd1 "Disk.put" = true) (k1 : PySem.W.keepIn K (.ref f1) = true)
    {oc2 kV2 doc2 pm2 cd2 ct2 : Value} {od2 an2 : Option Addr} {sl2 : Array (Option Value)} {f2 : Addr}
    (a2 : PySem.W.findIn K (.ref C_Disk) "remove" = some (some (.ref f2))) (i2 : PySem.W.isFn K (.ref f2) = true)
    (l2 : K.lookup f2 = some ⟨oc2, od2, .func (PySem.W.fnOf "remove" "Disk.remove" (defArgs s_Disk_remove) (defBody s_Disk_remove) (defScope s_Disk_remove) .none kV2 doc2 pm2 an2 cd2 ct2), sl2⟩) (cc2 : PySem.W.codeIn K cd2 "Disk.remove" = true) (k2 : PySem.W.keepIn K (.ref f2) = true)
    {oc3 kV3 doc3 pm3 cd3 ct3 : Value} {od3 an3 : Option Addr} {sl3 : Array (Option Value)} {f3 : Addr}
    (a3 : PySem.W.findIn K (.ref C_Disk) "read" = some (some (.ref f3))) (i3 : PySem.W.isFn K (.ref f3) = true)
    (l3 : K.lookup f3 = some ⟨oc3, od3, .func (PySem.W.fnOf "read" "Disk.read" (defArgs s_Disk_read) (defBody s_Disk_read) (defScope s_Disk_read) .none kV3 doc3 pm3 an3 cd3 ct3), sl3⟩) (cc3 : PySem.W.codeIn K cd3 "Disk.read" = true) (k3 : PySem.W.keepIn K (.ref f3) = true)
    {oc4 kV4 doc4 pm4 cd4 ct4 : Value} {od4 an4 : Option Addr} {sl4 : Array (Option Value)} {f4 : Addr}
    (a4 : PySem.W.findIn K (.ref C_Disk) "names" = some (some (.ref f4))) (i4 : PySem.W.isFn K (.ref f4) = true)
    (l4 : K.lookup f4 = some ⟨oc4, od4, .func (PySem.W.fnOf "names" "Disk.names" (defArgs s_Disk_names) (defBody s_Disk_names) (defScope s_Disk_names) .none kV4 doc4 pm4 an4 cd4 ct4), sl4⟩) (cc4 : PySem.W.codeIn K cd4 "Disk.names" = true) (k4 : PySem.W.keepIn K (.ref f4) = true)
    {oc5 kV5 doc5 pm5 cd5 ct5 : Value} {od5 an5 : Option Addr} {sl5 : Array (Option Value)} {f5 : Addr}
    (a5 : PySem.W.findIn K (.ref C_Disk) "arm" = some (some (.ref f5))) (i5 : PySem.W.isFn K (.ref f5) = true)
    (l5 : K.lookup f5 = some ⟨oc5, od5, .func (PySem.W.fnOf "arm" "Disk.arm" (defArgs s_Disk_arm) (defBody s_Disk_arm) (defScope s_Disk_arm) .none kV5 doc5 pm5 an5 cd5 ct5), sl5⟩) (cc5 : PySem.W.codeIn K cd5 "Disk.arm" = true) (k5 : PySem.W.keepIn K (.ref f5) = true)
    {oc6 kV6 doc6 pm6 cd6 ct6 : Value} {od6 an6 : Option Addr} {sl6 : Array (Option Value)} {f6 : Addr}
    (a6 : PySem.W.findIn K (.ref C_Disk) "restart" = some (some (.ref f6))) (i6 : PySem.W.isFn K (.ref f6) = true)
    (l6 : K.lookup f6 = some ⟨oc6, od6, .func (PySem.W.fnOf "restart" "Disk.restart" (defArgs s_Disk_restart) (defBody s_Disk_restart) (defScope s_Disk_restart) .none kV6 doc6 pm6 an6 cd6 ct6), sl6⟩) (cc6 : PySem.W.codeIn K cd6 "Disk.restart" = true) (k6 : PySem.W.keepIn K (.ref f6) = true)
    {oc7 kV7 doc7 pm7 cd7 ct7 : Value} {od7 an7 : Option Addr} {sl7 : Array (Option Value)} {f7 : Addr}
    (a7 : PySem.W.findIn K (.ref C_Disk) "_has" = some (some (.ref f7))) (i7 : PySem.W.isFn K (.ref f7) = true)
    (l7 : K.lookup f7 = some ⟨oc7, od7, .func (PySem.W.fnOf "_has" "Disk._has" (defArgs s_Disk__has) (defBody s_Disk__has) (defScope s_Disk__has) .none kV7 doc7 pm7 an7 cd7 ct7), sl7⟩) (cc7 : PySem.W.codeIn K cd7 "Disk._has" = true) (k7 : PySem.W.keepIn K (.ref f7) = true)
    {oc8 kV8 doc8 pm8 cd8 ct8 : Value} {od8 an8 : Option Addr} {sl8 : Array (Option Value)} {f8 : Addr}
    (a8 : PySem.W.findIn K (.ref C_Disk) "_require_running" = some (some (.ref f8))) (i8 : PySem.W.isFn K (.ref f8) = true)
    (l8 : K.lookup f8 = some ⟨oc8, od8, .func (PySem.W.fnOf "_require_running" "Disk._require_running" (defArgs s_Disk__require_running) (defBody s_Disk__require_running) (defScope s_Disk__require_running) .none kV8 doc8 pm8 an8 cd8 ct8), sl8⟩) (cc8 : PySem.W.codeIn K cd8 "Disk._require_running" = true) (k8 : PySem.W.keepIn K (.ref f8) = true)
    {oc9 kV9 doc9 pm9 cd9 ct9 : Value} {od9 an9 : Option Addr} {sl9 : Array (Option Value)} {f9 : Addr}
    (a9 : PySem.W.findIn K (.ref C_Disk) "_takes_effect" = some (some (.ref f9))) (i9 : PySem.W.isFn K (.ref f9) = true)
    (l9 : K.lookup f9 = some ⟨oc9, od9, .func (PySem.W.fnOf "_takes_effect" "Disk._takes_effect" (defArgs s_Disk__takes_effect) (defBody s_Disk__takes_effect) (defScope s_Disk__takes_effect) .none kV9 doc9 pm9 an9 cd9 ct9), sl9⟩) (cc9 : PySem.W.codeIn K cd9 "Disk._takes_effect" = true) (k9 : PySem.W.keepIn K (.ref f9) = true)
    {oc10 kV10 doc10 pm10 cd10 ct10 : Value} {od10 an10 : Option Addr} {sl10 : Array (Option Value)} {f10 : Addr}
    (a10 : PySem.W.nsIn K mainGlobals "_law_draws" = some (some (.ref f10)))
    (l10 : K.lookup f10 = some ⟨oc10, od10, .func (PySem.W.fnOf "_law_draws" "_law_draws" (defArgs s_law_draws) (defBody s_law_draws) (defScope s_law_draws) .none kV10 doc10 pm10 an10 cd10 ct10), sl10⟩) (cc10 : PySem.W.codeIn K cd10 "_law_draws" = true) (k10 : PySem.W.keepIn K (.ref f10) = true)
    {oc11 kV11 doc11 pm11 cd11 ct11 : Value} {od11 an11 : Option Addr} {sl11 : Array (Option Value)} {f11 : Addr}
    (a11 : PySem.W.nsIn K mainGlobals "_law_told" = some (some (.ref f11)))
    (l11 : K.lookup f11 = some ⟨oc11, od11, .func (PySem.W.fnOf "_law_told" "_law_told" (defArgs s_law_told) (defBody s_law_told) (defScope s_law_told) .none kV11 doc11 pm11 an11 cd11 ct11), sl11⟩) (cc11 : PySem.W.codeIn K cd11 "_law_told" = true) (k11 : PySem.W.keepIn K (.ref f11) = true)
    {oc12 kV12 doc12 pm12 cd12 ct12 : Value} {od12 an12 : Option Addr} {sl12 : Array (Option Value)} {f12 : Addr}
    (a12 : PySem.W.nsIn K mainGlobals "_law_due" = some (some (.ref f12)))
    (l12 : K.lookup f12 = some ⟨oc12, od12, .func (PySem.W.fnOf "_law_due" "_law_due" (defArgs s_law_due) (defBody s_law_due) (defScope s_law_due) .none kV12 doc12 pm12 an12 cd12 ct12), sl12⟩) (cc12 : PySem.W.codeIn K cd12 "_law_due" = true) (k12 : PySem.W.keepIn K (.ref f12) = true)
    {oc13 kV13 doc13 pm13 cd13 ct13 : Value} {od13 an13 : Option Addr} {sl13 : Array (Option Value)} {f13 : Addr}
    (a13 : PySem.W.nsIn K mainGlobals "law" = some (some (.ref f13)))
    (l13 : K.lookup f13 = some ⟨oc13, od13, .func (PySem.W.fnOf "law" "law" (defArgs s_law) (defBody s_law) (defScope s_law) .none kV13 doc13 pm13 an13 cd13 ct13), sl13⟩) (cc13 : PySem.W.codeIn K cd13 "law" = true) (k13 : PySem.W.keepIn K (.ref f13) = true)
    (z_len : PySem.W.nsIn K mainGlobals "len" = some none)
    (z_int : PySem.W.nsIn K mainGlobals "int" = some none)
    (z_str : PySem.W.nsIn K mainGlobals "str" = some none)
    (z_bool : PySem.W.nsIn K mainGlobals "bool" = some none)
    (z_list : PySem.W.nsIn K mainGlobals "list" = some none)
    (z_tuple : PySem.W.nsIn K mainGlobals "tuple" = some none)
    (z_range : PySem.W.nsIn K mainGlobals "range" = some none)
    (z_isinstance : PySem.W.nsIn K mainGlobals "isinstance" = some none)
    (z_ord : PySem.W.nsIn K mainGlobals "ord" = some none)
    (z_all : PySem.W.nsIn K mainGlobals "all" = some none)
    {C_DiskError : Addr} (g_DiskError : PySem.W.nsIn K mainGlobals "DiskError" = some (some (.ref C_DiskError))) (e_DiskError : PySem.W.excIn K C_DiskError [.type "ValueError", .type "Exception", .type "BaseException", .type "object"] "ValueError.__new__" = true) (ke_DiskError : PySem.W.keepIn K (.ref C_DiskError) = true) (be_DiskError : PySem.W.subIn K (.ref C_DiskError) (.type "BaseException") = some true) (te_DiskError : PySem.W.typeIn K (.ref C_DiskError) = some (.type "type")) (ie_DiskError : PySem.W.isClsIn K C_DiskError = true) (se_DiskError : PySem.W.subIn K (.ref C_DiskError) (.ref C_DiskError) = some true)
    {C_DiskCrashed : Addr} (g_DiskCrashed : PySem.W.nsIn K mainGlobals "DiskCrashed" = some (some (.ref C_DiskCrashed))) (e_DiskCrashed : PySem.W.excIn K C_DiskCrashed [.type "ValueError", .type "Exception", .type "BaseException", .type "object"] "ValueError.__new__" = true) (ke_DiskCrashed : PySem.W.keepIn K (.ref C_DiskCrashed) = true) (be_DiskCrashed : PySem.W.subIn K (.ref C_DiskCrashed) (.type "BaseException") = some true) (te_DiskCrashed : PySem.W.typeIn K (.ref C_DiskCrashed) = some (.type "type")) (ie_DiskCrashed : PySem.W.isClsIn K C_DiskCrashed = true) (se_DiskCrashed : PySem.W.subIn K (.ref C_DiskCrashed) (.ref C_DiskCrashed) = some true)
    (z_sorted : PySem.W.nsIn K mainGlobals "sorted" = some none) (z_abs : PySem.W.nsIn K mainGlobals "abs" = some none) (xk1 : PySem.W.kitOne K (.ref C_DiskCrashed) (.ref C_DiskError) = some false) (xx1 : PySem.W.exmOne K (.ref C_DiskError) (.ref C_DiskCrashed) = some false) (xeC : ExcC K C_DiskCrashed) :
    LamX.LawAtS l w K CX0 4 63 "script" mg fa h := by
  have e := hfa.symm.trans (PySem.W.mg_of X G a13)
  cases e
  have F0 := fun_mk (st := s_Disk___init) l0 cc0 k0
  have b0 := F0.binds (ps := ["self"]) fun _ _ _ _ _ _ us hl => match us, hl with | [_], _ => rfl
  have F1 := fun_mk (st := s_Disk_put) l1 cc1 k1
  have b1 := F1.binds (ps := ["self", "name", "text"]) fun _ _ _ _ _ _ us hl => match us, hl with | [_, _, _], _ => rfl
  have F2 := fun_mk (st := s_Disk_remove) l2 cc2 k2
  have b2 := F2.binds (ps := ["self", "name"]) fun _ _ _ _ _ _ us hl => match us, hl with | [_, _], _ => rfl
  have F3 := fun_mk (st := s_Disk_read) l3 cc3 k3
  have b3 := F3.binds (ps := ["self", "name"]) fun _ _ _ _ _ _ us hl => match us, hl with | [_, _], _ => rfl
  have F4 := fun_mk (st := s_Disk_names) l4 cc4 k4
  have b4 := F4.binds (ps := ["self"]) fun _ _ _ _ _ _ us hl => match us, hl with | [_], _ => rfl
  have F5 := fun_mk (st := s_Disk_arm) l5 cc5 k5
  have b5 := F5.binds (ps := ["self", "count", "kept"]) fun _ _ _ _ _ _ us hl => match us, hl with | [_, _, _], _ => rfl
  have F6 := fun_mk (st := s_Disk_restart) l6 cc6 k6
  have b6 := F6.binds (ps := ["self"]) fun _ _ _ _ _ _ us hl => match us, hl with | [_], _ => rfl
  have F7 := fun_mk (st := s_Disk__has) l7 cc7 k7
  have b7 := F7.binds (ps := ["self", "name"]) fun _ _ _ _ _ _ us hl => match us, hl with | [_, _], _ => rfl
  have F8 := fun_mk (st := s_Disk__require_running) l8 cc8 k8
  have b8 := F8.binds (ps := ["self"]) fun _ _ _ _ _ _ us hl => match us, hl with | [_], _ => rfl
  have F9 := fun_mk (st := s_Disk__takes_effect) l9 cc9 k9
  have b9 := F9.binds (ps := ["self"]) fun _ _ _ _ _ _ us hl => match us, hl with | [_], _ => rfl
  have F10 := fun_mk (st := s_law_draws) l10 cc10 k10
  have b10 := F10.binds (ps := ["script", "start", "most"]) fun _ _ _ _ _ _ us hl => match us, hl with | [_, _, _], _ => rfl
  have F11 := fun_mk (st := s_law_told) l11 cc11 k11
  have b11 := F11.binds (ps := ["disk", "deed"]) fun _ _ _ _ _ _ us hl => match us, hl with | [_, _], _ => rfl
  have F12 := fun_mk (st := s_law_due) l12 cc12 k12
  have b12 := F12.binds (ps := ["m", "deed"]) fun _ _ _ _ _ _ us hl => match us, hl with | [_, _], _ => rfl
  have F13 := fun_mk (st := s_law) l13 cc13 k13
  have b13 := F13.binds (ps := ["script"]) fun _ _ _ _ _ _ us hl => match us, hl with | [_], _ => rfl
  have B : Blt mg := ⟨PySem.W.mg_none_of X G z_len, PySem.W.mg_none_of X G z_int, PySem.W.mg_none_of X G z_str, PySem.W.mg_none_of X G z_bool, PySem.W.mg_none_of X G z_list, PySem.W.mg_none_of X G z_tuple, PySem.W.mg_none_of X G z_range, PySem.W.mg_none_of X G z_isinstance, PySem.W.mg_none_of X G z_ord, PySem.W.mg_none_of X G z_all⟩
  have cl_Disk : Cls K C_Disk := ⟨pg_Disk, hd_Disk, po_Disk, sa_Disk⟩
  have E_DiskError : Err K mg "DiskError" C_DiskError := ⟨PySem.W.mg_of X G g_DiskError, e_DiskError, ke_DiskError, be_DiskError, te_DiskError, ie_DiskError, se_DiskError⟩
  have E_DiskCrashed : Err K mg "DiskCrashed" C_DiskCrashed := ⟨PySem.W.mg_of X G g_DiskCrashed, e_DiskCrashed, ke_DiskCrashed, be_DiskCrashed, te_DiskCrashed, ie_DiskCrashed, se_DiskCrashed⟩
  refine ⟨PySem.W.fnOf "law" "law" (defArgs s_law) (defBody s_law) (defScope s_law) .none kV13 doc13 pm13 an13 cd13 ct13, [], spLaw K, fun p hp => absurd hp List.not_mem_nil, fun p hp => absurd hp List.not_mem_nil, fun p hp => absurd hp List.not_mem_nil, fun s v => .of_eq rfl, fun H a ns hl hb ht hS => ?_, fun base KB GB TBs => ?_⟩
  · exact ⟨a, ns, rfl, hS, hl, fun _ => rfl⟩
  have DK : DkC K mg C_Disk C_DiskCrashed C_DiskError := ⟨cl_Disk, na_texts_Disk, na_crashed_Disk, na_left_Disk, na_kept_Disk, E_DiskCrashed, E_DiskError⟩
  have k_Disk : CalK l.prog w K mg base CX0 (1) C_Disk "Disk" (spDInit C_Disk) := ⟨⟨f0, _, _, ok_dinit F0 DK, ⟨mk_Disk, a0, i0, kc_Disk⟩, b0⟩, PySem.W.mg_of X G aC_Disk⟩
  have m_Disk_require_running : CalM l.prog w K mg base (L2.CX l.prog w) (1) C_Disk "_require_running" (spDReq C_Disk C_DiskCrashed) := ⟨⟨f8, _, _, ok_dreq F8 DK, ⟨a8, i8, k8⟩, b8⟩, cl_Disk⟩
  have m_Disk_takes_effect : CalM l.prog w K mg base CX0 (1) C_Disk "_takes_effect" (spDEff C_Disk) := ⟨⟨f9, _, _, ok_deff F9 DK, ⟨a9, i9, k9⟩, b9⟩, cl_Disk⟩
  have m_Disk_has : CalM l.prog w K mg base CX0 (1) C_Disk "_has" (spDHas C_Disk) := ⟨⟨f7, _, _, ok_dhas F7 B DK, ⟨a7, i7, k7⟩, b7⟩, cl_Disk⟩
  have m_Disk_put : CalM l.prog w K mg base (L2.CX l.prog w) (2) C_Disk "put" (spDPut C_Disk C_DiskCrashed C_DiskError) := ⟨⟨f1, _, _, ok_dput F1 B DK m_Disk_require_running m_Disk_takes_effect, ⟨a1, i1, k1⟩, b1⟩, cl_Disk⟩
  have m_Disk_remove : CalM l.prog w K mg base (L2.CX l.prog w) (2) C_Disk "remove" (spDDrop C_Disk C_DiskCrashed C_DiskError) := ⟨⟨f2, _, _, ok_ddrop F2 B DK m_Disk_require_running m_Disk_takes_effect m_Disk_has, ⟨a2, i2, k2⟩, b2⟩, cl_Disk⟩
  have m_Disk_read : CalM l.prog w K mg base (L2.CX l.prog w) (2) C_Disk "read" (spDRead C_Disk C_DiskCrashed) := ⟨⟨f3, _, _, ok_dread F3 B DK m_Disk_require_running m_Disk_has, ⟨a3, i3, k3⟩, b3⟩, cl_Disk⟩
  have m_Disk_names : CalM l.prog w K mg base (L2.CX l.prog w) (2) C_Disk "names" (spDNames C_Disk C_DiskCrashed) := ⟨⟨f4, _, _, ok_dnames F4 B (PySem.W.mg_none_of X G z_sorted) DK m_Disk_require_running, ⟨a4, i4, k4⟩, b4⟩, cl_Disk⟩
  have m_Disk_arm : CalM l.prog w K mg base CX0 (1) C_Disk "arm" (spDArm C_Disk) := ⟨⟨f5, _, _, ok_darm F5 DK, ⟨a5, i5, k5⟩, b5⟩, cl_Disk⟩
  have m_Disk_restart : CalM l.prog w K mg base CX0 (1) C_Disk "restart" (spDRestart C_Disk) := ⟨⟨f6, _, _, ok_drestart F6 DK, ⟨a6, i6, k6⟩, b6⟩, cl_Disk⟩
  have c_law_draws : Cal l.prog w K mg base CX0 (1) "_law_draws" (spDraws K) := ⟨⟨f10, _, _, ok_draws F10 B (PySem.W.mg_none_of X G z_abs), PySem.W.mg_of X G a10, k10, b10⟩⟩
  have c_law_told : Cal l.prog w K mg base CX0 (3) "_law_told" (spTold C_Disk) := ⟨⟨f11, _, _, ok_told F11 B DK xeC xk1 xx1 m_Disk_put m_Disk_remove m_Disk_read m_Disk_names m_Disk_arm m_Disk_restart, PySem.W.mg_of X G a11, k11, b11⟩⟩
  have c_law_due : Cal l.prog w K mg base CX0 (1) "_law_due" (spDue) := ⟨⟨f12, _, _, ok_due F12 B (PySem.W.mg_none_of X G z_sorted), PySem.W.mg_of X G a12, k12, b12⟩⟩
  exact ok_law F13 B (PySem.W.mg_none_of X G z_sorted) c_law_draws c_law_told c_law_due k_Disk m_Disk_names
end SC
open PySem PySem.W PyProof.Rows
set_option maxRecDepth 100000 in
set_option maxHeartbeats 0 in
theorem PySem.Challenge.cw_sealchart_k46_disk_that_crashes_holds : PySem.Challenge.rw_sealchart_k46_disk_that_crashes.Holds := by
  w_on; o_law; k_head; (case hw => w_witness2)
  k_fill
  refine SC.walk_tab (l := PySem.Challenge.rw_sealchart_k46_disk_that_crashes) (CX := fun _ => L2.CX0) (k := 4) (n := 63) (x := "script") rfl (by decide) rfl ⟨rfl, by decide, by decide⟩ (fun w h Y => PySem.W.kIn_of Y) (fun _ _ _ _ _ z => z) ?F
  case F =>
    intro w mg mb lo mean fa h T KX G hmg
    refine' SC.all_mk T KX G hmg ?aC_Disk ?pg_Disk ?hd_Disk ?po_Disk ?sa_Disk ?mk_Disk ?kc_Disk ?na_texts_Disk ?na_crashed_Disk ?na_left_Disk ?na_kept_Disk ?a0 ?i0 ?l0 ?cc0 ?k0 ?a1 ?i1 ?l1 ?cc1 ?k1 ?a2 ?i2 ?l2 ?cc2 ?k2 ?a3 ?i3 ?l3 ?cc3 ?k3 ?a4 ?i4 ?l4 ?cc4 ?k4 ?a5 ?i5 ?l5 ?cc5 ?k5 ?a6 ?i6 ?l6 ?cc6 ?k6 ?a7 ?i7 ?l7 ?cc7 ?k7 ?a8 ?i8 ?l8 ?cc8 ?k8 ?a9 ?i9 ?l9 ?cc9 ?k9 ?a10 ?l10 ?cc10 ?k10 ?a11 ?l11 ?cc11 ?k11 ?a12 ?l12 ?cc12 ?k12 ?a13 ?l13 ?cc13 ?k13 ?z_len ?z_int ?z_str ?z_bool ?z_list ?z_tuple ?z_range ?z_isinstance ?z_ord ?z_all ?g_DiskError ?e_DiskError ?ke_DiskError ?be_DiskError ?te_DiskError ?ie_DiskError ?se_DiskError ?g_DiskCrashed ?e_DiskCrashed ?ke_DiskCrashed ?be_DiskCrashed ?te_DiskCrashed ?ie_DiskCrashed ?se_DiskCrashed ?z_sorted ?z_abs ?xk1 ?xx1 ?xeC
    (case aC_Disk => k_is)
    (case pg_Disk => k_is)
    (case hd_Disk => k_is)
    (case po_Disk => k_is)
    (case sa_Disk => k_is)
    (case mk_Disk => k_is)
    (case kc_Disk => k_is)
    (case na_texts_Disk => k_is)
    (case na_crashed_Disk => k_is)
    (case na_left_Disk => k_is)
    (case na_kept_Disk => k_is)
    (case a0 => k_is)
    (case i0 => k_is)
    (case l0 => k_is)
    (case cc0 => k_is)
    (case k0 => k_is)
    (case a1 => k_is)
    (case i1 => k_is)
    (case l1 => k_is)
    (case cc1 => k_is)
    (case k1 => k_is)
    (case a2 => k_is)
    (case i2 => k_is)
    (case l2 => k_is)
    (case cc2 => k_is)
    (case k2 => k_is)
    (case a3 => k_is)
    (case i3 => k_is)
    (case l3 => k_is)
    (case cc3 => k_is)
    (case k3 => k_is)
    (case a4 => k_is)
    (case i4 => k_is)
    (case l4 => k_is)
    (case cc4 => k_is)
    (case k4 => k_is)
    (case a5 => k_is)
    (case i5 => k_is)
    (case l5 => k_is)
    (case cc5 => k_is)
    (case k5 => k_is)
    (case a6 => k_is)
    (case i6 => k_is)
    (case l6 => k_is)
    (case cc6 => k_is)
    (case k6 => k_is)
    (case a7 => k_is)
    (case i7 => k_is)
    (case l7 => k_is)
    (case cc7 => k_is)
    (case k7 => k_is)
    (case a8 => k_is)
    (case i8 => k_is)
    (case l8 => k_is)
    (case cc8 => k_is)
    (case k8 => k_is)
    (case a9 => k_is)
    (case i9 => k_is)
    (case l9 => k_is)
    (case cc9 => k_is)
    (case k9 => k_is)
    (case a10 => k_is)
    (case l10 => k_is)
    (case cc10 => k_is)
    (case k10 => k_is)
    (case a11 => k_is)
    (case l11 => k_is)
    (case cc11 => k_is)
    (case k11 => k_is)
    (case a12 => k_is)
    (case l12 => k_is)
    (case cc12 => k_is)
    (case k12 => k_is)
    (case a13 => k_is)
    (case l13 => k_is)
    (case cc13 => k_is)
    (case k13 => k_is)
    (case z_len => k_is)
    (case z_int => k_is)
    (case z_str => k_is)
    (case z_bool => k_is)
    (case z_list => k_is)
    (case z_tuple => k_is)
    (case z_range => k_is)
    (case z_isinstance => k_is)
    (case z_ord => k_is)
    (case z_all => k_is)
    (case g_DiskError => k_is)
    (case e_DiskError => first | k_is | kernel_rfl | rfl)
    (case ke_DiskError => k_is)
    (case be_DiskError => first | k_is | kernel_rfl | rfl)
    (case te_DiskError => first | k_is | kernel_rfl | rfl)
    (case ie_DiskError => first | k_is | kernel_rfl | rfl)
    (case se_DiskError => first | k_is | kernel_rfl | rfl)
    (case g_DiskCrashed => k_is)
    (case e_DiskCrashed => first | k_is | kernel_rfl | rfl)
    (case ke_DiskCrashed => k_is)
    (case be_DiskCrashed => first | k_is | kernel_rfl | rfl)
    (case te_DiskCrashed => first | k_is | kernel_rfl | rfl)
    (case ie_DiskCrashed => first | k_is | kernel_rfl | rfl)
    (case se_DiskCrashed => first | k_is | kernel_rfl | rfl)
    (case z_sorted => k_is)
    (case z_abs => k_is)
    (case xk1 => first | k_is | kernel_rfl | rfl)
    (case xx1 => first | k_is | kernel_rfl | rfl)
    (case xeC => refine ⟨?_, ?_, ?_, ?_, ?_, ?_, ?_, ?_⟩ <;> first | k_is | kernel_rfl | rfl)
--END
