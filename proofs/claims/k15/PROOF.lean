import PyProof.Rows.All
import Wide.All
import OpenK.AllK
import Wide.FinOn
import HandS.ForMost
import HandS.ForExc
import HandS.Wide
import HandS.IsInst
import HandS.AnyAll
import HandS.EndTab
import HandS.TupAny
import HandS.TupMul
import HandS.FStr
import HandS.StrMore
import HandS.WideBits
import KE.KxField
import HandS.Walk
import HandS.Replace
import HandS.Style
import HandS.Codes
import KE.KRevSl
import HandS.GenList
import HandS.TupLen
import HandS.Deep
import HandS.ExcIs
import HandS.ExcOwn
import HandS.Set
import HandS.SetFor
import HandS.SetTxt0
import HandS.Strs
import PyProof.Rows.SortShellAny
import PyProof.SumWalk
import PySem.Challenge.RW_sealchart_k15_what_seal_refuses
set_option Elab.async false
set_option linter.all false
set_option maxRecDepth 100000
set_option maxHeartbeats 2000000
namespace SC
open PySem L2

/-- the built-in names are the built-ins -/
structure Blt (mg : Str → Option Value) : Prop where
  len : mg "len" = none
  int : mg "int" = none
  str : mg "str" = none
  bool : mg "bool" = none
  list : mg "list" = none
  tuple : mg "tuple" = none
  range : mg "range" = none
  isinstance : mg "isinstance" = none
  ord : mg "ord" = none
  all : mg "all" = none
section
variable {X : Cx} {p p2 pos : Pos} {e : Expr} {es : List Expr} {t : TA}
theorem Blt.len_s (B : Blt X.mg) (ha : PA X (e :: es) t) (hg : Gl X "len" := by rfl) (he : starEach (e :: es) X.env = (false, eval e X.env) :: starEach es X.env := by rfl) (hpl : (backTo pos (starEach es X.env)).any (·.1) = false := by rfl) :
    PE X (.Call (.Name "len" p) (e :: es) [] pos) (tCB (fun xs H Q => ∃ z, xs = [.str z] ∧ z.length ≤ sizeLine ∧ Q (.int z.length) H) t) := pe_callB call_len_str hg B.len PySem.boot_len ha (he := he) (hpl := hpl)
theorem Blt.len_q (B : Blt X.mg) (ha : PA X (e :: es) t) (hg : Gl X "len" := by rfl) (he : starEach (e :: es) X.env = (false, eval e X.env) :: starEach es X.env := by rfl) (hpl : (backTo pos (starEach es X.env)).any (·.1) = false := by rfl) :
    PE X (.Call (.Name "len" p) (e :: es) [] pos) (tCB (fun xs H Q => ∃ p ys, xs = [.ref p] ∧ (SqL X.K H p ys ∨ SqT X.K H p ys) ∧ Q (.int ys.length) H) t) := pe_callB call_len_seq hg B.len PySem.boot_len ha (he := he) (hpl := hpl)
theorem call_intI : CallR X (.type "int") (fun xs H Q => ∃ i, xs = [.int i] ∧ Q (.int i) H) := fun pins s σ H xs us Q I r h => call_int1 pins s σ H xs us Q I r (.inl h)
theorem Blt.int_i (B : Blt X.mg) (ha : PA X (e :: es) t) (hg : Gl X "int" := by rfl) (he : starEach (e :: es) X.env = (false, eval e X.env) :: starEach es X.env := by rfl) (hpl : (backTo pos (starEach es X.env)).any (·.1) = false := by rfl) :
    PE X (.Call (.Name "int" p) (e :: es) [] pos) (tCB (fun xs H Q => ∃ i, xs = [.int i] ∧ Q (.int i) H) t) :=
  pe_callTy call_intI hg B.int (by decide +kernel) ha (he := he) (hpl := hpl)
theorem Blt.int_s (B : Blt X.mg) (ha : PA X (e :: es) t) (hg : Gl X "int" := by rfl) (he : starEach (e :: es) X.env = (false, eval e X.env) :: starEach es X.env := by rfl) (hpl : (backTo pos (starEach es X.env)).any (·.1) = false := by rfl) :
    PE X (.Call (.Name "int" p) (e :: es) [] pos) (tCB (fun xs H Q => ∃ a n, xs = [.str a] ∧ PySem.intText? a = some n ∧ a.length ≤ 640 ∧ Q (.int n) H) t) :=
  pe_callTy call_int_str hg B.int (by decide +kernel) ha (he := he) (hpl := hpl)
theorem Blt.str_i (B : Blt X.mg) (ha : PA X (e :: es) t) (hg : Gl X "str" := by rfl) (he : starEach (e :: es) X.env = (false, eval e X.env) :: starEach es X.env := by rfl) (hpl : (backTo pos (starEach es X.env)).any (·.1) = false := by rfl) :
    PE X (.Call (.Name "str" p) (e :: es) [] pos) (tCB (fun xs H Q => ∃ i, xs = [.int i] ∧ i.natAbs.log2 < 1920 ∧ Q (.str (toString i)) H) t) :=
  pe_callTy call_str_int hg B.str (by decide +kernel) ha (he := he) (hpl := hpl)
theorem Blt.isi (B : Blt X.mg) (ha : PA X (e :: es) t) (hg : Gl X "isinstance" := by rfl) (he : starEach (e :: es) X.env = (false, eval e X.env) :: starEach es X.env := by rfl) (hpl : (backTo pos (starEach es X.env)).any (·.1) = false := by rfl) :
    PE X (.Call (.Name "isinstance" p) (e :: es) [] pos) (tCB (rIsi X.K) t) := pe_callB call_isi hg B.isinstance (by decide +kernel) ha (he := he) (hpl := hpl)
theorem Blt.ord_ (B : Blt X.mg) (ha : PA X (e :: es) t) (hg : Gl X "ord" := by rfl) (he : starEach (e :: es) X.env = (false, eval e X.env) :: starEach es X.env := by rfl) (hpl : (backTo pos (starEach es X.env)).any (·.1) = false := by rfl) :
    PE X (.Call (.Name "ord" p) (e :: es) [] pos) (tCB (fun xs H Q => ∃ x, xs = [.str x] ∧ x.length = 1 ∧ Q (.int (x.cps.getD 0 0 : Nat)) H) t) :=
  pe_callB call_ord hg B.ord (by decide +kernel) ha (he := he) (hpl := hpl)
theorem Blt.tuple_l (B : Blt X.mg) (ha : PA X (e :: es) t) (hg : Gl X "tuple" := by rfl) (he : starEach (e :: es) X.env = (false, eval e X.env) :: starEach es X.env := by rfl) (hpl : (backTo pos (starEach es X.env)).any (·.1) = false := by rfl) :
    PE X (.Call (.Name "tuple" p) (e :: es) [] pos) (tCB (fun xs H Q => ∃ p ys, xs = [.ref p] ∧ ((SqL X.K H p ys ∧ ∀ l, H l = none → Q (.ref l) (upd H l (.tup ys))) ∨ (SqT X.K H p ys ∧ Q (.ref p) H))) t) :=
  pe_callTy call_tuple_of hg B.tuple (by decide +kernel) ha (he := he) (hpl := hpl)
theorem Blt.list_q (B : Blt X.mg) (ha : PA X (e :: es) t) (hg : Gl X "list" := by rfl) (he : starEach (e :: es) X.env = (false, eval e X.env) :: starEach es X.env := by rfl) (hpl : (backTo pos (starEach es X.env)).any (·.1) = false := by rfl) :
    PE X (.Call (.Name "list" p) (e :: es) [] pos) (tCB (fun xs H Q => ∃ p ys, xs = [.ref p] ∧ (SqL X.K H p ys ∨ SqT X.K H p ys) ∧ ∀ l, H l = none → Q (.ref l) (upd H l (.lst ys))) t) :=
  pe_callTy call_list_of hg B.list (by decide +kernel) ha (he := he) (hpl := hpl)
theorem Blt.v_int (B : Blt X.mg) (hg : Gl X "int" := by rfl) : PE X (.Name "int" p) (tC (.ty "int")) := pe_bltn hg B.int (by decide +kernel) rfl
theorem Blt.v_str (B : Blt X.mg) (hg : Gl X "str" := by rfl) : PE X (.Name "str" p) (tC (.ty "str")) := pe_bltn hg B.str (by decide +kernel) rfl
theorem Blt.v_bool (B : Blt X.mg) (hg : Gl X "bool" := by rfl) : PE X (.Name "bool" p) (tC (.ty "bool")) := pe_bltn hg B.bool (by decide +kernel) rfl
theorem Blt.v_list (B : Blt X.mg) (hg : Gl X "list" := by rfl) : PE X (.Name "list" p) (tC (.ty "list")) := pe_bltn hg B.list (by decide +kernel) rfl
theorem Blt.v_tuple (B : Blt X.mg) (hg : Gl X "tuple" := by rfl) : PE X (.Name "tuple" p) (tC (.ty "tuple")) := pe_bltn hg B.tuple (by decide +kernel) rfl
theorem Blt.range1 (B : Blt X.mg) {tg : Expr} (ha : PA X [e] t) (hg : Gl X "range" := by rfl) (hs : starEach [e] X.env = [(false, eval e X.env)] := by rfl) : PI X tg (.Call (.Name "range" p) [e] [] pos) (iRng1 t) := pi_range1 hg B.range ha hs
end

section
variable {X : Cx}
/-- the same rules for what is tracked: the item list is told by the heap -/
theorem ix_lM : IxR X (fun x y H Q => ∃ p xs i v, x = .ref p ∧ H p = some (.lst xs) ∧ y = .int i ∧ atI xs i = some v ∧ Q v H) := by
  intro value slice pins s σ H x y v u Q I rx ry h hs
  obtain ⟨p, xs, i, z, e1, hp, e2, he, q⟩ := h
  exact ix_list value slice pins s σ H x y v u Q I rx ry ⟨p, xs, i, z, e1, e2, SqL.of hp, he, q⟩ hs
theorem ix_tM : IxR X (fun x y H Q => ∃ p xs i v, x = .ref p ∧ H p = some (.tup xs) ∧ y = .int i ∧ atI xs i = some v ∧ Q v H) := by
  intro value slice pins s σ H x y v u Q I rx ry h hs
  obtain ⟨p, xs, i, z, e1, hp, e2, he, q⟩ := h
  exact ix_tup value slice pins s σ H x y v u Q I rx ry ⟨p, xs, i, z, e1, e2, SqT.of hp, he, q⟩ hs
end
/-- a def of the text that keeps its promise, by its name -/
structure Cal (P : Program) (w : World) (K : PySem.W.Frag) (mg : Str → Option Value) (base : Heap) (CX : CXT) (k : Nat) (x : Str) (sp : Sp) : Prop where
  ex : ∃ f fd ps, FnOk P w K mg base CX k f fd ps sp ∧ mg x = some (.ref f) ∧ PySem.W.keepIn K (.ref f) = true ∧ Binds K fd ps []
section
variable {P : Program} {w : World} {K : PySem.W.Frag} {mg : Str → Option Value} {base : Heap} {CX : CXT} {x qual : Str} {sp : Sp}
theorem Cal.mono {j k : Nat} (c : Cal P w K mg base CX j x sp) (h : j ≤ k) : Cal P w K mg base CX k x sp :=
  let ⟨f, fd, ps, F, m, kp, b⟩ := c.ex
  ⟨f, fd, ps, F.mono h, m, kp, b⟩
theorem Cal.imp {k : Nat} {sp' : Sp} (c : Cal P w K mg base CX k x sp) (h : ∀ vs H Q E, sp' vs H Q E → sp vs H Q E) : Cal P w K mg base CX k x sp' :=
  let ⟨f, fd, ps, F, m, kp, b⟩ := c.ex
  ⟨f, fd, ps, F.imp h, m, kp, b⟩
end
section
variable {X : Cx} {x : Str} {p pos : Pos} {e : Expr} {es : List Expr} {t : TA} {sp : Sp} {j k : Nat} {CX : CXT} {E : XK}
/-- its call, what it raises passes as hx says -/
theorem Cal.pex (c : Cal X.prog X.w X.K X.mg X.base CX j x sp) (hr : Room k X.A) (hx : Passes CX X E) (ha : PA X (e :: es) t) (hjk : j ≤ k := by first | decide | omega) (hg : Gl X x := by rfl) (hdb : (x == ("__debug__" : Str)) = false := by decide)
    (he : starEach (e :: es) X.env = (false, eval e X.env) :: starEach es X.env := by rfl) (hpl : (backTo pos (starEach es X.env)).any (·.1) = false := by rfl) :
    PE X (.Call (.Name x p) (e :: es) [] pos) (tCall sp [] E t) :=
  let ⟨_, _, _, F, m, kp, b⟩ := c.ex
  pe_call F (hr.mono hjk) hg m kp b .nil hx ha hdb he hpl
theorem Cal.pe (c : Cal X.prog X.w X.K X.mg X.base CX0 j x sp) (hr : Room k X.A) (ha : PA X (e :: es) t) (hjk : j ≤ k := by first | decide | omega) (hg : Gl X x := by rfl) (hdb : (x == ("__debug__" : Str)) = false := by decide)
    (he : starEach (e :: es) X.env = (false, eval e X.env) :: starEach es X.env := by rfl) (hpl : (backTo pos (starEach es X.env)).any (·.1) = false := by rfl) :
    PE X (.Call (.Name x p) (e :: es) [] pos) (tCall sp [] E0 t) := c.pex hr pass0 ha hjk hg hdb he hpl
theorem Cal.pe0 (c : Cal X.prog X.w X.K X.mg X.base CX0 j x sp) (hr : Room k X.A) (hjk : j ≤ k := by first | decide | omega) (hg : Gl X x := by rfl) (hdb : (x == ("__debug__" : Str)) = false := by decide) :
    PE X (.Call (.Name x p) [] [] pos) (tCall sp [] E0 tNil) :=
  let ⟨_, _, _, F, m, kp, b⟩ := c.ex
  pe_call0 F (hr.mono hjk) hg m kp b .nil pass0 hdb
/-- of a def that may raise, where it does not -/
theorem Cal.peL (c : Cal X.prog X.w X.K X.mg X.base (L2.CX X.prog X.w) j x sp) (hr : Room k X.A) (ha : PA X (e :: es) t) (hjk : j ≤ k := by first | decide | omega) (hg : Gl X x := by rfl) (hdb : (x == ("__debug__" : Str)) = false := by decide)
    (he : starEach (e :: es) X.env = (false, eval e X.env) :: starEach es X.env := by rfl) (hpl : (backTo pos (starEach es X.env)).any (·.1) = false := by rfl) :
    PE X (.Call (.Name x p) (e :: es) [] pos) (tCall sp [] E0 t) := c.pex hr passL ha hjk hg hdb he hpl
end

/-- what was tracked outside S is as it was; tuples stand -/
structure Kp (S : List Addr) (H H' : Hp) : Prop where
  keep : ∀ b o, b ∉ S → H b = some o → H' b = some o
  tup : ∀ b xs, H b = some (.tup xs) → H' b = some (.tup xs)
theorem Kp.refl (S : List Addr) (H : Hp) : Kp S H H := ⟨fun _ _ _ h => h, fun _ _ h => h⟩
theorem Kp.trans {S : List Addr} {H H1 H2 : Hp} (a : Kp S H H1) (b : Kp S H1 H2) : Kp S H H2 := ⟨fun c o n h => b.keep c o n (a.keep c o n h), fun c xs h => b.tup c xs (a.tup c xs h)⟩
theorem Kp.new {S : List Addr} {H : Hp} {p : Addr} (h : H p = none) (o : HO) : Kp S H (upd H p o) :=
  ⟨fun b u _ q => by rw [upd_ne (ne_of_none q h)]; exact q, fun b u q => by rw [upd_ne (ne_of_none q h)]; exact q⟩
theorem Kp.lst {S : List Addr} {H : Hp} {p : Addr} {xs ys : List V} (h : H p = some (.lst xs)) (m : p ∈ S) : Kp S H (upd H p (.lst ys)) :=
  ⟨fun b u n q => by rw [upd_ne (fun z => n (by rw [z]; exact m))]; exact q, fun b u q => by rw [upd_ne (ne_of q h (by intro z; cases z))]; exact q⟩
theorem Kp.mono {S S' : List Addr} {H H' : Hp} (a : Kp S H H') (h : ∀ b ∈ S, b ∈ S') : Kp S' H H' := ⟨fun b o n q => a.keep b o (fun z => n (h b z)) q, a.tup⟩
/-- what was not there may change -/
theorem Kp.drop {S : List Addr} {H H' : Hp} {p : Addr} (h : H p = none) (a : Kp (p :: S) H H') : Kp S H H' :=
  ⟨fun b o n q => a.keep b o (fun z => by
    rcases List.mem_cons.mp z with z | z
    · rw [z, h] at q; cases q
    · exact n z) q, a.tup⟩
theorem Kp.upd {S : List Addr} {H H' : Hp} {p : Addr} {xs ys : List V} (a : Kp S H H') (h : H p = none) (e : H' p = some (.lst xs)) : Kp S H (upd H' p (.lst ys)) :=
  Kp.drop h ((a.mono fun b hb => List.mem_cons_of_mem _ hb).trans (Kp.lst e List.mem_cons_self))
theorem Kp.seqL {K : PySem.W.Frag} {S : List Addr} {H H' : Hp} {a : Addr} {xs : List V} (e : Kp S H H') (n : a ∉ S) (h : SqL K H a xs) : SqL K H' a xs := by
  rcases h with (h | ⟨o, h⟩) | h
  · exact .inl (.inl (e.keep _ _ n h))
  · exact .inl (.inr ⟨o, e.keep _ _ n h⟩)
  · exact .inr h
theorem Kp.tab {P : Addr} {S : List Addr} {H H' : Hp} (hG : GxR.TabG H P) (t : GxR.Tabbed P H H') (m : P ∈ S) : Kp S H H' := by
  obtain ⟨ps, e, _⟩ := hG
  refine ⟨fun b o n q => ?_, fun b xs q => ?_⟩
  · rw [t.2 b (fun z => n (by rw [z]; exact m))]; exact q
  · rw [t.2 b (ne_of q e (by intro z; cases z))]; exact q
/-- a stream of the law's: a list of two ints -/
def Strm (H : Hp) (s : Addr) : Prop := ∃ a b : Int, H s = some (.lst [.int a, .int b])
theorem Strm.mk {H : Hp} {s : Addr} {a b : Int} : Strm (upd H s (.lst [.int a, .int b])) s := ⟨a, b, upd_same⟩
theorem Strm.nT {H : Hp} {s P : Addr} (h : Strm H s) (g : GxR.TabG H P) : s ≠ P := by
  obtain ⟨a, b, e⟩ := h
  obtain ⟨ps, q, _⟩ := g
  exact ne_of e q (by intro z; cases z)
theorem Strm.kp {H H' : Hp} {s : Addr} {S : List Addr} (h : Strm H s) (k : Kp S H H') (n : s ∉ S) : Strm H' s := let ⟨a, b, e⟩ := h; ⟨a, b, k.keep _ _ n e⟩
theorem tabG_kp {H H' : Hp} {P : Addr} {S : List Addr} (h : GxR.TabG H P) (k : Kp S H H') (n : P ∉ S) : GxR.TabG H' P := let ⟨a, e, q⟩ := h; ⟨a, k.keep _ _ n e, q⟩

/-- the built-in type of a value, by the tracked heap -/
def tyN (H : Hp) : V → Option String
  | .non => some "NoneType" | .bl _ => some "bool" | .int _ => some "int" | .str _ => some "str"
  | .ref p => match H p with
    | some (.lst _) => some "list"
    | some (.tup _) => some "tuple"
    | some (.dK _) => some "dict"
    | _ => none
  | _ => none
theorem tyN_ok {K : PySem.W.Frag} {H : Hp} {v : V} {t : String} (h : tyN H v = some t) : TyX K H v (.type t) := by
  cases v with
  | non => cases h; exact .base .non
  | bl b => cases h; exact .base (.bl b)
  | int i => cases h; exact .base (.int i)
  | str z => cases h; exact .base (.str z)
  | ref p =>
    unfold tyN at h
    simp only at h
    split at h
    · rename_i xs e; cases h; exact .base (.lst e)
    · rename_i xs e; cases h; exact .base (.tup e)
    · rename_i xs e; cases h; exact .base (.dK e)
    · cases h
  | _ => cases h
theorem tyN_lst {H : Hp} {p : Addr} {xs : List V} (h : H p = some (.lst xs)) : tyN H (.ref p) = some "list" := by unfold tyN; simp only [h]
theorem tyN_tup {H : Hp} {p : Addr} {xs : List V} (h : H p = some (.tup xs)) : tyN H (.ref p) = some "tuple" := by unfold tyN; simp only [h]
theorem tyN_dK {H : Hp} {p : Addr} {xs : List (Key × V)} (h : H p = some (.dK xs)) : tyN H (.ref p) = some "dict" := by unfold tyN; simp only [h]
/-- whether the first type is one of the second -/
def isaB (t c : String) : Bool := t == c || (t == "bool" && c == "int")
theorem kit_isaB {t c : String} (ht : t ∈ ["NoneType", "bool", "int", "str", "list", "tuple", "dict"]) (hc : c ∈ ["bool", "int", "str", "list", "tuple"]) : kitB t c = some (isaB t c) := by
  simp only [List.mem_cons, List.not_mem_nil, or_false] at ht hc
  rcases ht with rfl | rfl | rfl | rfl | rfl | rfl | rfl <;> rcases hc with rfl | rfl | rfl | rfl | rfl <;> decide +kernel
theorem tyN_in {H : Hp} {v : V} {t : String} (h : tyN H v = some t) : t ∈ ["NoneType", "bool", "int", "str", "list", "tuple", "dict"] := by
  unfold tyN at h
  split at h
  · cases h; decide
  · cases h; decide
  · cases h; decide
  · cases h; decide
  · split at h
    · cases h; decide
    · cases h; decide
    · cases h; decide
    · cases h
  · cases h
section
variable {X : Cx} {p pos : Pos} {e : Expr} {es : List Expr} {t : TA}
/-- len of a tracked tuple, of a tracked list -/
theorem Blt.len_t (B : Blt X.mg) (ha : PA X (e :: es) t) (hg : Gl X "len" := by rfl) (he : starEach (e :: es) X.env = (false, eval e X.env) :: starEach es X.env := by rfl) (hpl : (backTo pos (starEach es X.env)).any (·.1) = false := by rfl) :
    PE X (.Call (.Name "len" p) (e :: es) [] pos) (tCB (fun xs H Q => ∃ p ys, xs = [.ref p] ∧ H p = some (.tup ys) ∧ Q (.int ys.length) H) t) :=
  pe_callB (fun pins s σ H xs us Q I r ⟨p, ys, e1, e2, q⟩ => call_len_seq pins s σ H xs us Q I r ⟨p, ys, e1, .inr (SqT.of e2), q⟩) hg B.len PySem.boot_len ha (he := he) (hpl := hpl)
theorem Blt.len_l (B : Blt X.mg) (ha : PA X (e :: es) t) (hg : Gl X "len" := by rfl) (he : starEach (e :: es) X.env = (false, eval e X.env) :: starEach es X.env := by rfl) (hpl : (backTo pos (starEach es X.env)).any (·.1) = false := by rfl) :
    PE X (.Call (.Name "len" p) (e :: es) [] pos) (tCB (fun xs H Q => ∃ p ys, xs = [.ref p] ∧ H p = some (.lst ys) ∧ Q (.int ys.length) H) t) :=
  pe_callB (fun pins s σ H xs us Q I r ⟨p, ys, e1, e2, q⟩ => call_len_seq pins s σ H xs us Q I r ⟨p, ys, e1, .inl (SqL.of e2), q⟩) hg B.len PySem.boot_len ha (he := he) (hpl := hpl)
end
section
variable {X : Cx} {p p2 pos : Pos} {e : Expr} {te : TE} {c : Str} {cs : String}
/-- a reading that may be weakened -/
def tMono (te : TE) : TE := fun σ H Q => ∃ Q0 : VK, te σ H Q0 ∧ ∀ x H1, Q0 x H1 → Q x H1
theorem pe_mono (he : PE X e te) : PE X e (tMono te) := ⟨fun pins s σ H Q I ⟨Q0, q, m⟩ => thn (he.run pins s σ H Q0 I q) fun u s1 ⟨v, H1, J, r, z⟩ => ⟨v, H1, J, r, m v H1 z⟩⟩
/-- isinstance(e, T), T a built-in type's name: told by the tracked heap -/
def tIsT (c : String) (te : TE) : TE := fun σ H Q => te σ H fun x H1 => ∃ t, tyN H1 x = some t ∧ Q (.bl (isaB t c)) H1
theorem Blt.isT (B : Blt X.mg) (he : PE X e te) (hc : PE X (.Name c p2) (tC (.ty cs))) (hm : cs ∈ ["bool", "int", "str", "list", "tuple"] := by decide) (hg : Gl X "isinstance" := by rfl) (hs : starEach [e, .Name c p2] X.env = (false, eval e X.env) :: starEach [.Name c p2] X.env := by rfl)
    (hs2 : starEach [.Name c p2] X.env = (false, eval (.Name c p2) X.env) :: starEach [] X.env := by rfl) (hpl : (backTo pos (starEach [.Name c p2] X.env)).any (·.1) = false := by rfl) :
    PE X (.Call (.Name "isinstance" p) [e, .Name c p2] [] pos) (tIsT cs te) := by
  have h := Blt.isi (p := p) (pos := pos) B (pa_cons (pe_mono he) (pa_cons hc pa_nil hs2) hs) hg hs hpl
  exact ⟨fun pins s σ H Q I q => h.run pins s σ H Q I ⟨_, q, fun x H1 ⟨t, h1, h2⟩ => ⟨x, .ty cs, .type t, .type cs, isaB t cs, rfl, .ty cs, tyN_ok h1, kit_ty (kit_isaB (tyN_in h1) hm), h2⟩⟩⟩
end

theorem tyN_ref {H : Hp} {p : Addr} {t : String} (h : tyN H (.ref p) = some t) : t = "list" ∨ t = "tuple" ∨ t = "dict" := by
  unfold tyN at h
  simp only at h
  split at h
  · cases h; exact .inl rfl
  · cases h; exact .inr (.inl rfl)
  · cases h; exact .inr (.inr rfl)
  · cases h
theorem isa_str {H : Hp} {v : V} {t : String} (h : tyN H v = some t) (q : isaB t "str" = true) : ∃ z, v = .str z := by
  cases v with
  | str z => exact ⟨z, rfl⟩
  | ref p => rcases tyN_ref h with rfl | rfl | rfl <;> exact absurd q (by decide)
  | _ => cases h <;> exact absurd q (by decide)
theorem isa_int {H : Hp} {v : V} {t : String} (h : tyN H v = some t) (q : isaB t "int" = true) : (∃ z, v = .int z) ∨ ∃ b, v = .bl b := by
  cases v with
  | int z => exact .inl ⟨z, rfl⟩
  | bl b => exact .inr ⟨b, rfl⟩
  | ref p => rcases tyN_ref h with rfl | rfl | rfl <;> exact absurd q (by decide)
  | _ => cases h <;> exact absurd q (by decide)
theorem isa_bool {H : Hp} {v : V} {t : String} (h : tyN H v = some t) (q : isaB t "bool" = true) : ∃ b, v = .bl b := by
  cases v with
  | bl b => exact ⟨b, rfl⟩
  | ref p => rcases tyN_ref h with rfl | rfl | rfl <;> exact absurd q (by decide)
  | _ => cases h <;> exact absurd q (by decide)
theorem isa_tuple {H : Hp} {v : V} {t : String} (h : tyN H v = some t) (q : isaB t "tuple" = true) : ∃ p xs, v = .ref p ∧ H p = some (.tup xs) := by
  cases v with
  | ref p =>
    unfold tyN at h
    simp only at h
    split at h
    · cases h; exact absurd q (by decide)
    · rename_i xs e; exact ⟨p, xs, rfl, e⟩
    · cases h; exact absurd q (by decide)
    · cases h
  | _ => cases h <;> exact absurd q (by decide)
theorem isaB_all : isaB "NoneType" "bool" = false ∧ isaB "NoneType" "int" = false ∧ isaB "NoneType" "str" = false ∧ isaB "NoneType" "list" = false ∧ isaB "NoneType" "tuple" = false ∧
  isaB "bool" "bool" = true ∧ isaB "bool" "int" = true ∧ isaB "bool" "str" = false ∧ isaB "bool" "list" = false ∧ isaB "bool" "tuple" = false ∧
  isaB "int" "bool" = false ∧ isaB "int" "int" = true ∧ isaB "int" "str" = false ∧ isaB "int" "list" = false ∧ isaB "int" "tuple" = false ∧
  isaB "str" "bool" = false ∧ isaB "str" "int" = false ∧ isaB "str" "str" = true ∧ isaB "str" "list" = false ∧ isaB "str" "tuple" = false ∧
  isaB "list" "bool" = false ∧ isaB "list" "int" = false ∧ isaB "list" "str" = false ∧ isaB "list" "list" = true ∧ isaB "list" "tuple" = false ∧
  isaB "tuple" "bool" = false ∧ isaB "tuple" "int" = false ∧ isaB "tuple" "str" = false ∧ isaB "tuple" "list" = false ∧ isaB "tuple" "tuple" = true ∧
  isaB "dict" "bool" = false ∧ isaB "dict" "int" = false ∧ isaB "dict" "str" = false ∧ isaB "dict" "list" = false ∧ isaB "dict" "tuple" = false := by decide
theorem tyN_non {H : Hp} : tyN H .non = some "NoneType" := rfl
theorem tyN_bl {H : Hp} {b : Bool} : tyN H (.bl b) = some "bool" := rfl
theorem tyN_int {H : Hp} {b : Int} : tyN H (.int b) = some "int" := rfl
theorem tyN_str {H : Hp} {b : Str} : tyN H (.str b) = some "str" := rfl
theorem ixN_20 : ixN 2 0 = some 0 := rfl
theorem ixN_21 : ixN 2 1 = some 1 := rfl
theorem ixN_10 : ixN 1 0 = some 0 := rfl
theorem at0 {α : Type} {a : α} {l : List α} : atI (a :: l) 0 = some a := atI_nat (j := 0) rfl
theorem at1 {α : Type} {a b : α} {l : List α} : atI (a :: b :: l) 1 = some b := atI_nat (j := 1) rfl
theorem if_dec {p : Prop} [Decidable p] {A B : Prop} (h1 : p → A) (h2 : ¬ p → B) : if decide p = true then A else B := by
  by_cases c : p
  · rw [decide_eq_true c]; exact iteT (h1 c)
  · rw [decide_eq_false c]; exact iteF (h2 c)
theorem gsOf {env : Env} {scope : Scope} {x : Str} (h : (match scope.kind with | .function => true | _ => false) && !scope.isCoroutine && (scope.names.all fun y => match y.2 with | .cell => false | .free => false | _ => true) && (match scope.names.lookup (".0" : Str) with | some .local => true | _ => false) = true)
    (hx : (match scope.names.lookup x with | some .local => true | _ => false) = true) : GxR.GenS env scope x := by
  simp only [Bool.and_eq_true, List.all_eq_true] at h
  obtain ⟨⟨⟨h1, h2⟩, h3⟩, h4⟩ := h
  refine ⟨?_, by simpa using h2, fun y hy e => ?_, ?_, ?_, fun y hy e => ?_⟩
  · split at h1
    · assumption
    · cases h1
  · have := h3 y hy; rw [e] at this; cases this
  · split at h4
    · assumption
    · cases h4
  · split at hx
    · assumption
    · cases hx
  · have := h3 y hy; rw [e] at this; cases this
/-- the empty text joins -/
theorem joinL_nil : ∀ l : List (List Nat), TL.joinL [] l = l.flatten
  | [] => rfl
  | [p] => by simp [TL.joinL]
  | p :: q :: r => by
    show p ++ ([] ++ TL.joinL [] (q :: r)) = _
    rw [joinL_nil (q :: r)]
    simp
theorem tl_joinE (ys : List Str) : TL.tl (Txt.join (Str.ofString "") ys) = (ys.map TL.tl).flatten := by
  rw [TL.join_eq, TL.tl_join]
  exact joinL_nil _
/-- one-sign texts -/
def sgs (cs : List Nat) : List Str := cs.map fun c => (⟨#[c]⟩ : Str)
theorem tl_sgs (cs : List Nat) : TL.tl (Txt.join (Str.ofString "") (sgs cs)) = cs := by
  rw [tl_joinE]
  unfold sgs
  rw [List.map_map]
  induction cs with
  | nil => rfl
  | cons c r ih => rw [List.map_cons, List.flatten_cons, ih]; rfl
theorem sgs_sum (cs : List Nat) : ((sgs cs).map (·.length)).sum = cs.length := by
  unfold sgs
  rw [List.map_map]
  induction cs with
  | nil => rfl
  | cons c r ih => rw [List.map_cons, List.sum_cons, ih]; show 1 + r.length = r.length + 1; omega
theorem sgs_len (cs : List Nat) : (sgs cs).length = cs.length := List.length_map _
theorem sgs_add (cs : List Nat) (c : Nat) : (sgs cs).map V.str ++ [.str ⟨#[c]⟩] = (sgs (cs ++ [c])).map V.str := by unfold sgs; simp
end SC

/-! all(test for mark in text), the test one that reads built-ins and globals too -/
namespace SC
open PySem PySem.Spec PyProof.Rows L2
open GxR (TabB TabG Tabbed Ready GenS keeps_tok trF trF_some all_signs inv_tab sh_eta)
/-- what the element may lean on: the module's names, the built-ins -/
structure Names2 (h : Heap) (mg : Str → Option Value) : Prop where
  glob : h.Ns mainGlobals mg
  blt : ∃ mb, h.Ns builtinsNs mb ∧ ∀ x : Str, x ≠ "__name__" → mb x = bootBuiltins x
def EltX (prog : Program) (w : World) (mg : Str → Option Value) (scope : Scope) (x : Str) (elt : Expr) (pb : Nat → Bool) : Prop :=
  ∀ (ce : Env) (A' : Around) (E' : Value → Shared → Prop) (c : Nat) (t : Tok) (s2 : Shared) (m2 : Str → Option Value), ce.scope = scope → ce.globals = mainGlobals → ce.builtins = builtinsNs → Names2 s2.heap mg →
    s2.heap.Ns ce.locals m2 → m2 x = some (.str ⟨#[c]⟩ t) → wpAny (model prog w) A' (eval elt ce) (fun y s3 => y = .bool (pb c) ∧ Keeps s2 s3) E' s2
section
variable {X : Cx} {pins : List (Addr × Obj)} {σ : L2.St} {H : Hp} {s : Shared}
theorem gen_mk {c P : Addr} {elt iter : Expr} {x : Str} {px gpos : Pos} {scope : Scope} {pb : Nat → Bool} {te : TE} {k : Nat} {Q' : Value → Shared → Prop} {R : Str → Hp → Prop}
    (hr : Room k X.A) (TB : TabB X.base X.mg c P) (hcode : X.env.code = .ref c) (S : GenS X.env scope x) (hi : PE X iter te) (hel : EltX X.prog X.w X.mg scope x elt pb)
    (hs : ∀ v, genFold iter X.env v = pure v) (I : Inv X pins σ H s) (h : te σ H fun v H1 => ∃ a : Str, v = .str a ∧ TabG H1 P ∧ R a H1)
    (hQ : ∀ a H1 g s5, R a H1 → Ready X pins σ H1 P a pb g s5 → Q' (.ref g) s5) :
    wpAny (model X.prog X.w) X.A (eval (.GeneratorExp elt [⟨.Name x px, iter, [], 0⟩] scope gpos) X.env) Q' X.xe s := by
  refine wpAny_GeneratorExp_walksQ hr.hd S.co (closure_ok S.free) S.cell S.dot S.loc S.kind (by have := hr.dp; omega) ?_ hs
  refine thn (hi.run pins s σ H _ I h) fun xv t1 ⟨v, H1, J, rv, a, ev, ⟨ps, hP, htr⟩, hR⟩ => ?_
  subst ev
  obtain ⟨tk1, rfl⟩ := rv
  refine wpAny_pyIter_str fun o St W hst => ?_
  have hPs : t1.heap.get? P = some { cls := .none, data := .fields ps } := J.hok P _ hP
  have hPlt := Heap.lt_size hPs
  have up : ∀ b u, t1.heap.get? b = some u → (t1.heap.push o).get? b = some u := fun b u e => Heap.get?_push_of_some _ e
  have cd : PySem.W.CodeHd (t1.heap.push o) c P := TB.code.keeps fun b u e => up b u (J.bk b u e)
  have lim : (t1.heap.push o).NoLimit := J.nolimit.push o
  have hclt : cStatics < t1.heap.objs.size := let ⟨_, hn, _⟩ := J.nolimit; hn.lt
  have hsz1 : (t1.heap.push o).objs.size = t1.heap.objs.size + 1 := Heap.size_push ..
  refine ⟨lim, ?_⟩
  have go : ∀ (code : Value) (h3 : Heap) (tk : Nat) (qs : Array Value), Heap.ExtBut P (t1.heap.push o) h3 → (t1.heap.push o).objs.size ≤ h3.objs.size → h3.get? P = some { cls := .none, data := .fields qs } →
      (∃ more, qs = ps ++ more) → TriplesOk qs.toList →
      wpAny (model X.prog X.w) X.A (builtinsFor X.env.globals X.env.builtins) (fun bi s4 =>
        ∃ Ia fp wr n0 Pf St0 pz F, Value.ref t1.heap.objs.size = .ref Ia ∧ (∀ A' : Around, A'.handled = none → Walks X.prog X.w A' Ia fp wr n0 Pf St0) ∧ St0 0 s4.heap ∧ (∀ b ∈ fp, b < s4.heap.objs.size) ∧ s4.heap.NoLimit ∧ cStatics ∉ wr ∧
          (∀ href : Heap, (∀ b o, s4.heap.get? b = some o → href.get? b = some o) →
            QuietGen X.prog X.w (genEnv scope (cloFrom X.env.cells scope.names []) s4.heap.objs.size code bi X.env) x [] elt (List.range s4.heap.objs.size) wr Pf pz F href) ∧
          (∀ g h5 tk5 gs, gs.bare = true → s4.heap.objs.size < g → h5.objs.size = g + 1 → (∀ b o, s4.heap.get? b = some o → h5.get? b = some o) →
            WalksS X.prog X.w X.A.in4 g (g :: s4.heap.objs.size :: List.range s4.heap.objs.size) (s4.heap.objs.size :: wr) (GenOnlyQ s4.gens.size) (passing pz n0 0).length
              (fun j y => ∃ i, (passing pz n0 0)[j]? = some i ∧ F i y) (GenAt X.prog X.w X.A.in4 g s4.gens.size s4.heap.objs.size (List.range s4.heap.objs.size) wr pz n0 F) →
            GenAt X.prog X.w X.A.in4 g s4.gens.size s4.heap.objs.size (List.range s4.heap.objs.size) wr pz n0 F 0 { s4 with gens := s4.gens.push gs, toks := tk5, heap := h5 } →
            Q' (.ref g) { s4 with gens := s4.gens.push gs, toks := tk5, heap := h5 })) X.xe { t1 with heap := h3, toks := tk } := by
    intro code h3 tk qs hx hsz hP3 hmore htq
    obtain ⟨bm, ob, e1, e2, e3, e4, e5, e6, e7, e8⟩ := TB.bm
    have ncP : cStatics ≠ P := fun e => by
      obtain ⟨_, hns, _⟩ := J.nolimit
      obtain ⟨o', es, ep, ho, hd, _⟩ := hns
      rw [e, hPs] at ho
      cases ho; cases hd
    have nbP : (builtinsNs : Addr) ≠ P := fun e => by
      obtain ⟨mb, hns, _⟩ := J.mod.blt
      obtain ⟨o', es, ep, ho, hd, _⟩ := hns
      have ho := J.bk _ _ ho
      rw [e, hPs] at ho
      cases ho; cases hd
    have k3 : ∀ b u, b ≠ P → t1.heap.get? b = some u → h3.get? b = some u := fun b u hb e => hx b u hb (up b u e)
    refine wpAny_builtinsFor (m := X.mg) (by rw [J.ok.glob]; exact ((J.mod.glob.keeps J.bk).push o).extBut hx TB.gP) e1 e2 (k3 _ _ e4 (J.bk _ _ e5)) e6 e7 e8 ?_
    refine ⟨t1.heap.objs.size, [t1.heap.objs.size], [t1.heap.objs.size], a.cps.size, SignAt a, St, (fun _ => true), (fun i y => ∃ cc, a.cps[i]? = some cc ∧ y = .bool (pb cc)), rfl, W, ?_, ?_, lim.extBut hx ncP, ?_, ?_, ?_⟩
    · refine (W X.A hr.hd).frame _ _ _ hst fun b hb u e => hx b u (fun z => ?_) e
      rcases List.mem_cons.mp hb with y | y
      · exact Nat.ne_of_lt hPlt (z.symm.trans y)
      · cases y
    · intro b hb
      rcases List.mem_cons.mp hb with z | z
      · rw [z]
        show t1.heap.objs.size < h3.objs.size
        omega
      · cases z
    · intro z
      rcases List.mem_cons.mp z with z | z
      · exact Nat.ne_of_lt hclt z
      · cases z
    · intro href hh
      refine ⟨fun A' E' i v s2 m2 hA hv hn hm hk => ?_, fun A' E' i v s2 m2 hA hv hp hn hm hk => ?_⟩
      · simp only [List.forIn_nil]
        exact wpAny_pure ⟨rfl, GxR.keeps_refl _⟩
      · obtain ⟨cc, u, hcc, rfl⟩ := hv
        have old : ∀ L, L ≠ P → ∀ q, X.base.get? L = some q → s2.heap.get? L = some q := fun L nL q e => by
          have e1 := J.bk _ _ e
          have l1 := Heap.lt_size e1
          have e2 := k3 L q nL e1
          refine hk L (List.mem_range.mpr (Heap.lt_size e2)) (fun z => ?_) q (hh L q e2)
          rcases List.mem_cons.mp z with z | z
          · rw [z] at l1; exact Nat.lt_irrefl _ l1
          · cases z
        have nm : Names2 s2.heap X.mg := ⟨J.mod.glob.at (old mainGlobals TB.gP), let ⟨mb, q1, q2⟩ := J.mod.blt; ⟨mb, q1.at (old builtinsNs nbP), q2⟩⟩
        exact wpAny_mono (hel (genEnv scope (cloFrom X.env.cells scope.names []) h3.objs.size code builtinsNs X.env) A' E' cc u s2 m2 rfl J.ok.glob rfl nm hn hm) (fun y s3 r => ⟨⟨cc, hcc, r.1⟩, r.2⟩) fun _ _ e => e
    · intro g h5 tk5 gs hgb hag hsz5 hk5 W5 hat
      simp only [GxR.passing_true, List.length_range] at W5
      refine hQ a H1 g _ hR ⟨_, _, _, _, _, W5.in4_1, hat, ?_, fun s' hm => ?_⟩
      · intro j y sj Qj Ej hy hQj
        obtain ⟨i, hij, cc, hcc, rfl⟩ := hy
        obtain ⟨hj, ej⟩ := List.getElem?_eq_some_iff.mp hij
        rw [List.getElem_range] at ej
        subst ej
        have e9 : a.cps.toList[j]? = some cc := by rw [Array.getElem?_toList]; exact hcc
        have hQ2 : Qj (trF pb a.cps.toList j) sj := hQj
        rw [trF_some e9] at hQ2
        exact wpAny_truthy_bool hQ2
      · obtain ⟨more, em⟩ := hmore
        have nwr : ∀ b u, t1.heap.get? b = some u → b ∉ h3.objs.size :: [t1.heap.objs.size] := fun b u e hb => by
          have hl : b < t1.heap.objs.size := Heap.lt_size e
          rcases List.mem_cons.mp hb with z | z
          · rw [z] at hl
            exact absurd hl (Nat.not_lt.mpr (show t1.heap.objs.size ≤ h3.objs.size by omega))
          · rcases List.mem_cons.mp z with z | z
            · rw [z] at hl
              exact Nat.lt_irrefl _ hl
            · cases z
        have J2 := inv_tab (more := more) (h' := s'.heap) (g' := s'.gens) (d' := s'.drawn) (t' := s'.toks) J hP (fun b u hb e => hm.heap b u (nwr b u e) (hk5 b u (k3 b u hb e)))
          (by rw [← em]; exact hm.heap P _ (nwr P _ hPs) (hk5 P _ hP3)) (AllBare.movedS (J.bare.push hgb) hm)
        rw [sh_eta t1 s' hm.os] at J2
        refine ⟨upd H1 P (.tbl (ps ++ more)), ⟨⟨ps ++ more, upd_same, by rw [← em]; exact htq⟩, fun b hb => upd_ne hb⟩, J2⟩
  cases hf : codeAmong gpos ps.toList with
  | none =>
    refine wpAny_genexprCodeX hcode (cd.code (up _ _ hPs) htr) (cd.tab (up _ _ hPs)) hf fun c' h' tk hx hge hlt hco' _ htab' _ => ?_
    obtain ⟨o1, vs, f1, tf, fl, tg, inF, tx, tt, op, _, _, _, _, _, _, _, _, _, hz, _⟩ := hco'
    exact go _ h' tk _ hx (Nat.le_trans hge (Nat.le_of_lt hlt)) htab'.2 ⟨_, rfl⟩ hz
  | some cv =>
    refine wpAny_genexprCode_hit hcode (cd.code (up _ _ hPs) htr) hf ?_
    exact go cv (t1.heap.push o) t1.toks ps (Heap.ExtBut.refl _ _) (Nat.le_refl _) (up _ _ hPs) ⟨#[], by simp⟩ htr

theorem pe_allX {c P : Addr} {elt iter : Expr} {x : Str} {px p pos gpos : Pos} {scope : Scope} {pb : Nat → Bool} {te : TE} {k : Nat}
    (hr : Room k X.A) (B : Blt X.mg) (TB : TabB X.base X.mg c P) (hcode : X.env.code = .ref c) (S : GenS X.env scope x) (hi : PE X iter te) (hel : EltX X.prog X.w X.mg scope x elt pb)
    (hs : ∀ v, genFold iter X.env v = pure v) (hg : Gl X "all" := by rfl)
    (he : starEach [.GeneratorExp elt [⟨.Name x px, iter, [], 0⟩] scope gpos] X.env = (false, eval (.GeneratorExp elt [⟨.Name x px, iter, [], 0⟩] scope gpos) X.env) :: starEach [] X.env := by rfl) :
    PE X (.Call (.Name "all" p) [.GeneratorExp elt [⟨.Name x px, iter, [], 0⟩] scope gpos] [] pos) (GxR.tAllS P pb te) := by
  refine ⟨fun pins s σ H Q I h => ?_⟩
  refine wpAny_Call_Name_kw (ld_blt I hg B.all (show bootBuiltins "all" = some (.builtin "all") by decide +kernel) ?_)
  refine PyProof.Rows.callWith_builtin1 ?_ he (by rfl)
  rw [he]
  show wpAny _ _ (spliced ((false, eval (.GeneratorExp elt [⟨.Name x px, iter, [], 0⟩] scope gpos) X.env) :: backTo pos (starEach [] X.env))) _ _ s
  refine Calls.spliced_cons (gen_mk (R := fun a H1 => ∀ H2, Tabbed P H1 H2 → Q (.bl (a.cps.toList.all pb)) H2) hr TB hcode S hi hel hs I h fun a H1 g t5 hR hG => ?_)
  obtain ⟨fp, wr, G, F, St, W, hst, htr, hI⟩ := hG
  refine Calls.spliced_nil (call_all_walkS (W.self 0 _ _ _ hst ⟨g, fp, wr, G, _, F, St, _, rfl, W, hst, htr, fun s' hmv => ?_⟩))
  obtain ⟨H2, hT, J⟩ := hI s' hmv
  refine ⟨.bl _, H2, J, rfl, ?_⟩
  rw [all_signs a pb]
  exact hR H2 hT
end

/-- a sign that the document calls printable -/
def prc (c : Nat) : Bool := decide (32 ≤ c) && decide (c ≤ 126) && !decide (c = 37)
def prn (z : Str) : Bool := z.cps.toList.all prc
theorem prn_app (x y : Str) : prn (x ++ y) = (prn x && prn y) := by
  unfold prn
  rw [show (x ++ y).cps.toList = TL.tl x ++ TL.tl y from TL.tl_append x y, List.all_append]
theorem prn_cut {z : Str} (h : prn z = true) (lo hi : Option Int) : prn (cutS z lo hi) = true := by
  unfold prn at h ⊢
  rw [List.all_eq_true] at h ⊢
  intro c hc
  exact h c (List.mem_of_mem_drop (List.mem_of_mem_take (show c ∈ (z.cps.toList.drop _).take _ from hc)))
theorem prn_no {z : Str} {c : Nat} (h : c ∈ TL.tl z) (hc : prc c = false) : prn z = false := by
  unfold prn
  cases e : z.cps.toList.all prc with
  | false => rfl
  | true => rw [List.all_eq_true] at e; rw [e c h] at hc; cases hc
theorem one_lt {a b : Nat} : ([a] < [b]) ↔ a < b := by
  constructor
  · intro h
    cases h with
    | rel h => exact h
    | cons h => cases h
  · intro h
    exact List.Lex.rel h
theorem elt_prn {prog : Program} {w : World} {mg : Str → Option Value} {scope : Scope} {j1 j2 : Nat} {q1 q2 q3 q4 q5 q6 q7 q8 q9 q10 : Pos} {t37 : Tok} (B : Blt mg) (h37 : mg "_BARRED_CODE" = some (.int 37 t37))
    (hk : scope.kind = .function) (hl : scope.names.lookup ("mark" : Str) = some .local) (h1 : scope.names.lookup ("ord" : Str) = some .globalImplicit) (h2 : scope.names.lookup ("_BARRED_CODE" : Str) = some .globalImplicit) :
    EltX prog w mg scope "mark" (.BoolOp .And [.Compare (.Constant (.str " ") j1 q1) [.LtE, .LtE] [.Name "mark" q2, .Constant (.str "~") j2 q3] q4,
      .Compare (.Call (.Name "ord" q5) [.Name "mark" q6] [] q7) [.NotEq] [.Name "_BARRED_CODE" q8] q9] q10) prc := by
  intro ce A' E' c t s2 m2 hs hg hb nm hn hm
  have ld : ∀ {Q : Value → Shared → Prop} {p : Pos} {s3 : Shared}, (∃ tk, s3 = { s2 with toks := tk }) → Q (.str ⟨#[c]⟩ t) s3 → wpAny (model prog w) A' (eval (.Name "mark" p) ce) Q E' s3 := by
    rintro Q p s3 ⟨tk, rfl⟩ h
    exact wpAny_Name (wpAny_loadName_local (by rw [hs]; exact hk) (show ce.scope.names.lookup ("mark" : Str) = some .local by rw [hs]; exact hl) hn hm h) (by decide)
  have fin : ∀ {b : Bool} {tk : Nat}, b = prc c → (fun y s3 => y = Value.bool (prc c) ∧ Keeps s2 s3) (.bool b) { s2 with toks := tk } := fun e => ⟨by rw [e], keeps_tok _ _⟩
  refine BoolOp_and ?_
  refine Compare_chain (Calls.Constant_str (chain_link (ld ⟨_, rfl⟩ (PySem.P.le_str ?_))))
  have e1 : (!decide ((⟨#[c]⟩ : Str).cps.toList < (Str.ofString " ").cps.toList)) = decide (32 ≤ c) := by
    show (!decide ([c] < [32])) = _
    rw [decide_eq_decide.mpr (one_lt (a := c) (b := 32))]
    by_cases h : c < 32
    · rw [decide_eq_true h, decide_eq_false (by omega)]; rfl
    · rw [decide_eq_false h, decide_eq_true (by omega)]; rfl
  rw [e1]
  refine wpAny_truthy_bool ?_
  by_cases c1 : 32 ≤ c
  · rw [decide_eq_true c1]
    refine ite_tt (chain_last (Calls.Constant_str (PySem.P.le_str ?_)))
    have e2 : (!decide ((Str.ofString "~").cps.toList < (⟨#[c]⟩ : Str).cps.toList)) = decide (c ≤ 126) := by
      show (!decide ([126] < [c])) = _
      rw [decide_eq_decide.mpr (one_lt (a := 126) (b := c))]
      by_cases h : c ≤ 126
      · rw [decide_eq_true h, decide_eq_false (by omega)]; rfl
      · rw [decide_eq_false h, decide_eq_true (by omega)]; rfl
    rw [e2]
    refine wpAny_truthy_bool ?_
    by_cases c2 : c ≤ 126
    · rw [decide_eq_true c2]
      refine ite_tt (BoolOp_one (wpAny_Compare1 ?_))
      obtain ⟨mb, n1, n2⟩ := nm.blt
      refine wpAny_Call_Name_kw (Calls.Name_function_global (by rw [hs]; exact hk) (show ce.scope.names.lookup ("ord" : Str) = some .globalImplicit by rw [hs]; exact h1) (Calls.loadGlobal_builtin (by rw [hg]; exact nm.glob) B.ord (by rw [hb]; exact n1) ((n2 "ord" (by decide)).trans (show bootBuiltins "ord" = some (.builtin "ord") by decide +kernel)) ?_) (by decide))
      refine PyProof.Rows.callWith_builtin1 ?_ (by rfl) (by rfl)
      refine Calls.spliced_cons (ld ⟨_, rfl⟩ (Calls.spliced_nil (PyProof.Rows.ord_of_one rfl ?_)))
      refine Calls.Name_function_global (by rw [hs]; exact hk) (show ce.scope.names.lookup ("_BARRED_CODE" : Str) = some .globalImplicit by rw [hs]; exact h2) (Calls.loadGlobal_global (by rw [hg]; exact nm.glob) h37 ?_) (by decide)
      refine ne_int (fin ?_)
      show (((c : Int)) != 37) = (decide (32 ≤ c) && decide (c ≤ 126) && !decide (c = 37))
      rw [decide_eq_true c1, decide_eq_true c2]
      by_cases c3 : c = 37
      · subst c3; rfl
      · rw [decide_eq_false c3]
        have : ((c : Int) != 37) = true := bne_iff_ne.mpr (by omega)
        rw [this]; rfl
    · rw [decide_eq_false c2]
      refine ite_ff (fin ?_)
      simp [prc, c2]
  · rw [decide_eq_false c1]
    refine ite_ff (wpAny_truthy_bool (ite_ff (fin ?_)))
    simp [prc, c1]
end SC

/-! the end of a law's row whose text holds generator expressions: the tables out of the top -/
namespace SC
open PySem PySem.Spec PyProof.Rows L2 LamX
theorem walk_tab {l : PySem.W.OpenLaw} {n k : Nat} {q : Program} {loose : List Str} {XP : (Str → Option Value) → Heap → Prop} {YP : World → Heap → Prop} {d : DefRec} {K : Params → PySem.W.Frag} {CX : World → CXT} {x : Str}
    (hn : l.most = some n) (hn2 : n ≤ sizeLine) (hdf : d.params.defaults = []) (hr : Room k callerA) (hY : ∀ (w : World) (h : Heap), YP w h → (K w.params).In h)
    (hCX : ∀ (w : World) (H : Hp) (s : Shared) (e : Value) (s' : Shared), CX w [] H s (fun _ _ _ => False) e s' → False)
    (F : ∀ (w : World) (mg mb : Str → Option Value) (lo : List Str) (mean : ExcName → Option Value) (fa : Addr) (h : Heap), Top q lo mean mg mb h → (K w.params).In h → h.Ns mainGlobals mg → mg d.name = some (.ref fa) → LawAtS l w (K w.params) (CX w) k n x mg fa h) :
    PySem.W.WalkO q loose XP YP l.row.toRowW d [] (fun f vs => PySem.call f vs) := by
  refine Att.attach_callB hn hdf fun w s0 s1 mg mb fa o pm cd doc a vs ns G Y ho hd hcd hmg hobj hints hlen hbits hg => ?_
  have KX := hY w _ Y
  obtain ⟨fd, cs, sp, hT, nT, C, hb, hsp, hF⟩ := F w mg mb _ _ fa _ G.T KX G.T.g hmg
  exact law_callTs KX G.T.g G.T.b G.T.builtins G.T.nolimit hg hT nT C G.T.bmain hobj hints (Nat.le_trans hlen hn2) hr hF hb (fun H hH hS => hsp H a ns hlen hbits hH hS) fun H e s' => hCX w H s1 e s'
theorem tab_mk {q : Program} {lo : List Str} {mean : ExcName → Option Value} {mg mb : Str → Option Value} {h : Heap} {K : PySem.W.Frag} {d : DefRec} {x : Str} {f c P : Addr} {fd : FuncData} {oc cc : Value} {od dc : Option Addr} {sl sc : Array (Option Value)} {vs : Array Value}
    (T : Top q lo mean mg mb h) (X : K.In h) (hr : (recsOf q).find? (fun e => e.name == x) = some d) (a : PySem.W.nsIn K mainGlobals x = some (some (.ref f))) (l : K.lookup f = some ⟨oc, od, .func fd, sl⟩) (hc : fd.code = .ref c)
    (lc : K.lookup c = some ⟨cc, dc, .fields vs, sc⟩) (hv : vs[11]? = some (.ref P)) : PySem.W.CodeHd h c P ∧ h.get? P = some (PySem.W.tabObj #[]) := by
  refine PySem.W.tab_of T X hr ?_
  unfold PySem.W.tabIn
  rw [a]
  simp only [l, hc, lc, hv]
/-- a law's state: the table may have grown, the stream stands, all else that was there is as it was -/
structure LS (Pt st : Addr) (H0 H : Hp) : Prop where
  k : Kp [Pt] H0 H
  g : GxR.TabG H Pt
  s : Strm H st
  g0 : GxR.TabG H0 Pt
  fr : H0 st = none
section
variable {Pt st p : Addr} {H0 H H' : Hp} {K : PySem.W.Frag}
theorem LS.ne (L : LS Pt st H0 H) : st ≠ Pt := L.s.nT L.g
theorem LS.first (g0 : GxR.TabG H0 Pt) (h : H0 st = none) {a b : Int} : LS Pt st H0 (upd H0 st (.lst [.int a, .int b])) :=
  ⟨Kp.new h _, tabG_kp g0 (Kp.new h _ : Kp [] _ _) (by simp), Strm.mk, g0, h⟩
theorem LS.take (L : LS Pt st H0 H) (k : Kp [st] H H') (s : Strm H' st) : LS Pt st H0 H' :=
  ⟨Kp.drop L.fr ((L.k.mono fun b hb => List.mem_cons_of_mem _ hb).trans (k.mono fun b hb => by rw [List.mem_singleton.mp hb]; exact List.mem_cons_self)), tabG_kp L.g k (by simpa using L.ne.symm), s, L.g0, L.fr⟩
theorem LS.prn (L : LS Pt st H0 H) (k : Kp [Pt] H H') (g : GxR.TabG H' Pt) : LS Pt st H0 H' := ⟨L.k.trans k, g, L.s.kp k (by simpa using L.ne), L.g0, L.fr⟩
theorem LS.new (L : LS Pt st H0 H) (h : H p = none) (o : HO) : LS Pt st H0 (upd H p o) :=
  ⟨L.k.trans (Kp.new h o), tabG_kp L.g (Kp.new h o : Kp [] _ _) (by simp), L.s.kp (Kp.new h o : Kp [] _ _) (by simp), L.g0, L.fr⟩
theorem LS.kp0 (L : LS Pt st H0 H) (k : Kp [] H H') : LS Pt st H0 H' := ⟨L.k.trans (k.mono fun b hb => absurd hb (by simp)), tabG_kp L.g k (by simp), L.s.kp k (by simp), L.g0, L.fr⟩
theorem seq_tab {a : Addr} {xs : List V} (k : Kp [Pt] H0 H) (g0 : GxR.TabG H0 Pt) (h : SqL K H0 a xs) : SqL K H a xs := by
  obtain ⟨ps, e, _⟩ := g0
  rcases h with (h | ⟨o, h⟩) | h
  · exact .inl (.inl (k.keep _ _ (by simpa using ne_of h e (by intro z; cases z)) h))
  · exact .inl (.inr ⟨o, k.keep _ _ (by simpa using ne_of h e (by intro z; cases z)) h⟩)
  · exact .inr h
theorem LS.seq {a : Addr} {xs : List V} (L : LS Pt st H0 H) (h : SqL K H0 a xs) : SqL K H a xs := seq_tab L.k L.g0 h
theorem Kp.get1 {b : Addr} {o : HO} (k : Kp [Pt] H H') (g : GxR.TabG H Pt) (h : H b = some o) (no : ∀ ps, o ≠ .tbl ps := by intro ps z; cases z) : H' b = some o := by
  obtain ⟨ps, e, _⟩ := g
  exact k.keep b o (by simpa using ne_of h e (no ps)) h
theorem tyN_kp {v : V} {t : String} (k : Kp [Pt] H H') (g : GxR.TabG H Pt) (h : tyN H v = some t) : tyN H' v = some t := by
  cases v with
  | ref p =>
    unfold tyN at h
    simp only at h
    split at h
    · rename_i xs q; cases h; exact tyN_lst (k.get1 g q)
    · rename_i xs q; cases h; exact tyN_tup (k.get1 g q)
    · rename_i xs q; cases h; exact tyN_dK (k.get1 g q)
    · cases h
  | _ => exact h
end
end SC

/-! canonical texts: the values as trees, what encode writes, what decode reads: plain Lean -/
namespace SC
open PySem L2
/-- a value as a tree; oth: what is neither an int nor a text nor a tuple -/
inductive Tr where
  | int (n : Int) | str (z : Str) | tup (ts : List Tr) | oth (v : V)
mutual
inductive Rep (H : Hp) : V → Tr → Prop
  | int (i : Int) : Rep H (.int i) (.int i)
  | str (z : Str) : Rep H (.str z) (.str z)
  | tup {a : Addr} {xs : List V} {ts : List Tr} : H a = some (.tup xs) → RepAll H xs ts → Rep H (.ref a) (.tup ts)
  | oth {v : V} {t : String} : tyN H v = some t → t ≠ "int" → t ≠ "str" → t ≠ "tuple" → Rep H v (.oth v)
inductive RepAll (H : Hp) : List V → List Tr → Prop
  | nil : RepAll H [] []
  | cons {v : V} {vs : List V} {t : Tr} {ts : List Tr} : Rep H v t → RepAll H vs ts → RepAll H (v :: vs) (t :: ts)
end
theorem Rep.ty {H : Hp} {v : V} {t : Tr} (h : Rep H v t) : ∃ s, tyN H v = some s := by
  cases h with
  | int => exact ⟨_, rfl⟩
  | str => exact ⟨_, rfl⟩
  | tup e _ => exact ⟨_, tyN_tup e⟩
  | oth e _ _ _ => exact ⟨_, e⟩
theorem RepAll.len {H : Hp} : ∀ {xs : List V} {ts : List Tr}, RepAll H xs ts → xs.length = ts.length
  | _, _, .nil => rfl
  | _, _, .cons _ h => congrArg (· + 1) h.len
theorem RepAll.app {H : Hp} : ∀ {xs ys : List V} {ts us : List Tr}, RepAll H xs ts → RepAll H ys us → RepAll H (xs ++ ys) (ts ++ us)
  | _, _, _, _, .nil, h => h
  | _, _, _, _, .cons a b, h => .cons a (b.app h)
theorem RepAll.get {H : Hp} : ∀ {xs : List V} {ts : List Tr} {i : Nat} {x : V}, RepAll H xs ts → xs[i]? = some x → ∃ t, ts[i]? = some t ∧ Rep H x t
  | _, _, _, _, .nil, h => by simp at h
  | _, _, 0, _, .cons a _, h => by
    have e := Option.some.inj h
    subst e
    exact ⟨_, rfl, a⟩
  | _, _, i + 1, _, .cons _ b, h => b.get (i := i) h
mutual
theorem Rep.kp {Pt : Addr} {H H' : Hp} (k : Kp [Pt] H H') (g : GxR.TabG H Pt) : ∀ {v : V} {t : Tr}, Rep H v t → Rep H' v t
  | _, _, .int i => .int i
  | _, _, .str z => .str z
  | _, _, .tup e h => .tup (k.tup _ _ e) (h.kp k g)
  | v, _, .oth e a b c => .oth (tyN_kp k g e) a b c
theorem RepAll.kp {Pt : Addr} {H H' : Hp} (k : Kp [Pt] H H') (g : GxR.TabG H Pt) : ∀ {vs : List V} {ts : List Tr}, RepAll H vs ts → RepAll H' vs ts
  | _, _, .nil => .nil
  | _, _, .cons a b => .cons (a.kp k g) (b.kp k g)
end
/-- the digits of a number -/
abbrev dig (n : Nat) : List Nat := TL.numL n
mutual
/-- the canonical text, its codes -/
def txt : Tr → List Nat
  | .int n => dig n.toNat ++ [46]
  | .str z => dig z.length ++ 58 :: TL.tl z
  | .tup ts => 91 :: (txts ts ++ [93])
  | .oth _ => []
def txts : List Tr → List Nat
  | [] => []
  | t :: ts => txt t ++ txts ts
end
mutual
/-- plain, tuples nested at most n deep -/
def pl (n : Nat) : Tr → Bool
  | .int i => decide (0 ≤ i) && decide (i ≤ 99999999999999999999)
  | .str z => prn z
  | .tup ts => match n with
    | 0 => false
    | m + 1 => pls m ts
  | .oth _ => false
def pls (n : Nat) : List Tr → Bool
  | [] => true
  | t :: ts => pl n t && pls n ts
end
mutual
/-- no tuple's text within is too long -/
def fit : Tr → Bool
  | .tup ts => fits ts && decide ((txts ts).length + 2 ≤ 100000)
  | _ => true
def fits : List Tr → Bool
  | [] => true
  | t :: ts => fit t && fits ts
end
mutual
/-- texts of a size that Python's may have -/
def sml : Tr → Bool
  | .str z => decide (z.length ≤ 10000000)
  | .tup ts => smls ts && decide (ts.length ≤ 1000000)
  | _ => true
def smls : List Tr → Bool
  | [] => true
  | t :: ts => sml t && smls ts
end
theorem txts_app : ∀ (ts us : List Tr), txts (ts ++ us) = txts ts ++ txts us
  | [], _ => rfl
  | t :: ts, us => by
    show txt t ++ txts (ts ++ us) = (txt t ++ txts ts) ++ txts us
    rw [txts_app ts us, List.append_assoc]
theorem pls_app (n : Nat) : ∀ (ts us : List Tr), pls n (ts ++ us) = (pls n ts && pls n us)
  | [], us => by simp [pls]
  | t :: ts, us => by
    show (pl n t && pls n (ts ++ us)) = ((pl n t && pls n ts) && pls n us)
    rw [pls_app n ts us, Bool.and_assoc]
theorem fits_app : ∀ (ts us : List Tr), fits (ts ++ us) = (fits ts && fits us)
  | [], us => by simp [fits]
  | t :: ts, us => by
    show (fit t && fits (ts ++ us)) = ((fit t && fits ts) && fits us)
    rw [fits_app ts us, Bool.and_assoc]
theorem smls_app : ∀ (ts us : List Tr), smls (ts ++ us) = (smls ts && smls us)
  | [], us => by simp [smls]
  | t :: ts, us => by
    show (sml t && smls (ts ++ us)) = ((sml t && smls ts) && smls us)
    rw [smls_app ts us, Bool.and_assoc]
theorem mem_len : ∀ {t : Tr} {ts : List Tr}, t ∈ ts → (txt t).length ≤ (txts ts).length
  | t, u :: ts, h => by
    show _ ≤ (txt u ++ txts ts).length
    rw [List.length_append]
    rcases List.mem_cons.mp h with rfl | h
    · omega
    · have := mem_len h; omega
mutual
theorem fit_of : ∀ (t : Tr), (txt t).length ≤ 100000 → fit t = true
  | .int _, _ => rfl
  | .str _, _ => rfl
  | .oth _, _ => rfl
  | .tup ts, h => by
    have h : (91 :: (txts ts ++ [93])).length ≤ 100000 := h
    rw [List.length_cons, List.length_append] at h
    have h : (txts ts).length + 1 + 1 ≤ 100000 := h
    show (fits ts && decide ((txts ts).length + 2 ≤ 100000)) = true
    rw [fits_of ts (by omega), decide_eq_true (by omega)]
    rfl
theorem fits_of : ∀ (ts : List Tr), (txts ts).length ≤ 100000 → fits ts = true
  | [], _ => rfl
  | t :: ts, h => by
    have h : (txt t ++ txts ts).length ≤ 100000 := h
    rw [List.length_append] at h
    show (fit t && fits ts) = true
    rw [fit_of t (by omega), fits_of ts (by omega)]
    rfl
end

/-! ### reading -/
def isD (c : Nat) : Bool := decide (48 ≤ c) && decide (c ≤ 57)
def val (l : List Nat) : Nat := NumText.digitsVal l
/-- a number's digits that decode takes -/
def goodD (d : List Nat) : Bool := !d.isEmpty && decide (d.length ≤ 20) && !(d.head? == some 48 && !(d == [48]))
/-- a number or a text at the head of l -/
def leaf (l : List Nat) : Option (Tr × List Nat) :=
  if goodD (l.takeWhile isD) = true then
    match l.dropWhile isD with
    | 46 :: r => some (.int (val (l.takeWhile isD)), r)
    | 58 :: r => if val (l.takeWhile isD) ≤ r.length then some (.str ⟨(r.take (val (l.takeWhile isD))).toArray⟩, r.drop (val (l.takeWhile isD))) else none
    | _ => none
  else none
/-- items up to the closing bracket -/
def items (p : List Nat → Option (Tr × List Nat)) : Nat → List Nat → Option (List Tr × List Nat)
  | 0, _ => none
  | f + 1, l => match l with
    | 93 :: r => some ([], r)
    | l => match p l with
      | none => none
      | some (t, r) => match items p f r with
        | none => none
        | some (ts, r2) => some (t :: ts, r2)
/-- a value at the head of l, tuples nested at most n deep -/
def pval : Nat → List Nat → Option (Tr × List Nat)
  | 0, l => match l with
    | 91 :: _ => none
    | l => leaf l
  | n + 1, l => match l with
    | 91 :: r => match items (pval n) (r.length + 1) r with
      | none => none
      | some (ts, r2) => some (.tup ts, r2)
    | l => leaf l

/-! ### digits -/
theorem isD_iff {c : Nat} : isD c = true ↔ 48 ≤ c ∧ c ≤ 57 := by unfold isD; simp
theorem val_app (l : List Nat) (c : Nat) : val (l ++ [c]) = val l * 10 + (c - 48) := by
  unfold val NumText.digitsVal
  rw [List.foldl_append]
  rfl
theorem dig_isD (n : Nat) : ∀ c ∈ dig n, isD c = true := fun c hc => by
  have := TL.numL_digits n c hc
  exact isD_iff.mpr ⟨by omega, by omega⟩
theorem dig_zero : dig 0 = [48] := TL.numL_lt (by decide)
theorem val_dig (n : Nat) : val (dig n) = n := TL.numL_val n
theorem dig_val : ∀ (k : Nat) (d : List Nat), d.length = k → d ≠ [] → (∀ c ∈ d, isD c = true) → (d.head? ≠ some 48 ∨ d = [48]) → dig (val d) = d
  | 0, d, hk, h, _, _ => absurd (List.length_eq_zero_iff.mp hk) h
  | k + 1, d, hk, h, hd, h0 => by
    obtain ⟨e, c, rfl⟩ : ∃ e c, d = e ++ [c] := ⟨d.dropLast, d.getLast h, (List.dropLast_concat_getLast h).symm⟩
    have hc := isD_iff.mp (hd c (List.mem_append_right _ (List.mem_singleton.mpr rfl)))
    rw [val_app]
    by_cases he : e = []
    · subst he
      show dig (val [] * 10 + (c - 48)) = [c]
      have z : val [] = 0 := rfl
      rw [z, Nat.zero_mul, Nat.zero_add]
      have q := TL.numL_lt (n := c - 48) (by omega)
      rw [show 48 + (c - 48) = c by omega] at q
      exact q
    · have hl : e.length = k := by rw [List.length_append] at hk; simpa using hk
      obtain ⟨a, e', rfl⟩ := List.exists_cons_of_ne_nil he
      have ha : a ≠ 48 := by
        intro z
        subst z
        rcases h0 with q | q
        · exact q rfl
        · have := congrArg List.length q
          simp at this
      have ih := dig_val k (a :: e') hl he (fun c hc => hd c (List.mem_append_left _ hc)) (.inl (by simpa using ha))
      have pos : 1 ≤ val (a :: e') := by
        by_cases q : val (a :: e') = 0
        · rw [q, dig_zero] at ih
          injection ih with z1 _
          exact absurd z1.symm ha
        · omega
      have st := TL.numL_step (n := val (a :: e') * 10 + (c - 48)) (by omega)
      show TL.numL _ = _
      rw [st, show (val (a :: e') * 10 + (c - 48)) / 10 = val (a :: e') by omega, show 48 + (val (a :: e') * 10 + (c - 48)) % 10 = c by omega]
      rw [show TL.numL (val (a :: e')) = a :: e' from ih]
theorem dig_head : ∀ (n : Nat), (dig n).head? = some 48 → dig n = [48] := by
  intro n
  induction n using Nat.strongRecOn with
  | _ n ih =>
    intro h
    by_cases c : n < 10
    · have e := TL.numL_lt c
      have h : (TL.numL n).head? = some 48 := h
      rw [e] at h
      have : 48 + n = 48 := by simpa using h
      have : n = 0 := by omega
      subst this
      exact dig_zero
    · have e := TL.numL_step (n := n) (by omega)
      have h : (TL.numL n).head? = some 48 := h
      rw [e] at h
      have h2 : (dig (n / 10)).head? = some 48 := by
        have ne := TL.numL_ne (n / 10)
        obtain ⟨a, r, q⟩ := List.exists_cons_of_ne_nil ne
        rw [q] at h
        show (TL.numL (n / 10)).head? = _
        rw [q]
        simpa using h
      have z := ih (n / 10) (by omega) h2
      have v := val_dig (n / 10)
      rw [z] at v
      have : n / 10 = 0 := v.symm
      omega
theorem goodD_dig {n : Nat} (h : n < 10 ^ 20) : goodD (dig n) = true := by
  have ne := TL.numL_ne n
  have len : (dig n).length ≤ 20 := TL.numL_len (by decide) h
  unfold goodD
  rw [show (dig n).isEmpty = false by rw [List.isEmpty_eq_false_iff]; exact ne, decide_eq_true len]
  cases e : ((dig n).head? == some 48) with
  | false => rfl
  | true =>
    have := dig_head n (by simpa using e)
    rw [this]
    rfl
theorem take_dig {n c : Nat} (r : List Nat) (hc : isD c = false) : (dig n ++ c :: r).takeWhile isD = dig n ∧ (dig n ++ c :: r).dropWhile isD = c :: r := by
  have key : ∀ (d : List Nat), (∀ x ∈ d, isD x = true) → (d ++ c :: r).takeWhile isD = d ∧ (d ++ c :: r).dropWhile isD = c :: r := by
    intro d
    induction d with
    | nil => intro _; simp [List.takeWhile, List.dropWhile, hc]
    | cons x d ih =>
      intro h
      have hx := h x List.mem_cons_self
      obtain ⟨i1, i2⟩ := ih fun y hy => h y (List.mem_cons_of_mem _ hy)
      simp [List.takeWhile, List.dropWhile, hx, i1, i2]
  exact key _ (dig_isD n)
theorem leaf_int {n : Nat} (h : n < 10 ^ 20) (r : List Nat) : leaf (dig n ++ 46 :: r) = some (.int n, r) := by
  obtain ⟨t1, t2⟩ := take_dig (n := n) (c := 46) r (by decide)
  unfold leaf
  rw [t1, t2, if_pos (goodD_dig h), val_dig]
  rfl
theorem leaf_str {z : Str} (h : z.length < 10 ^ 20) (r : List Nat) : leaf (dig z.length ++ 58 :: (TL.tl z ++ r)) = some (.str z, r) := by
  obtain ⟨t1, t2⟩ := take_dig (n := z.length) (c := 58) (TL.tl z ++ r) (by decide)
  unfold leaf
  have hl : (TL.tl z).length = z.length := (TL.len_tl z).symm
  rw [t1, t2, if_pos (goodD_dig h), val_dig]
  simp only
  rw [if_pos (by rw [List.length_append]; omega), ← hl, List.take_left, List.drop_left, TL.mk_tl]
theorem dig_first (n : Nat) : ∃ a r, dig n = a :: r ∧ 48 ≤ a ∧ a ≤ 57 := by
  obtain ⟨a, r, e⟩ := List.exists_cons_of_ne_nil (TL.numL_ne n)
  have := isD_iff.mp (dig_isD n a (by rw [show dig n = a :: r from e]; exact List.mem_cons_self))
  exact ⟨a, r, e, this.1, this.2⟩
/-- a text's first sign -/
theorem txt_first {n : Nat} : ∀ {t : Tr}, pl n t = true → ∃ a r, txt t = a :: r ∧ (a = 91 ∨ (48 ≤ a ∧ a ≤ 57))
  | .int i, _ => by
    obtain ⟨a, r, e, h1, h2⟩ := dig_first i.toNat
    exact ⟨a, r ++ [46], by show dig i.toNat ++ [46] = _; rw [e]; rfl, .inr ⟨h1, h2⟩⟩
  | .str z, _ => by
    obtain ⟨a, r, e, h1, h2⟩ := dig_first z.length
    exact ⟨a, r ++ 58 :: TL.tl z, by show dig z.length ++ 58 :: TL.tl z = _; rw [e]; rfl, .inr ⟨h1, h2⟩⟩
  | .tup ts, _ => ⟨91, _, rfl, .inl rfl⟩
  | .oth _, h => by cases h
theorem pval_leaf {n : Nat} {l : List Nat} (h : ∀ r, l ≠ 91 :: r) : pval n l = leaf l := by
  cases n with
  | zero =>
    unfold pval
    split
    · rename_i r; exact absurd rfl (h r)
    · rfl
  | succ n =>
    unfold pval
    split
    · rename_i r; exact absurd rfl (h r)
    · rfl
theorem sml_str {z : Str} (h : sml (.str z) = true) : z.length < 10 ^ 20 := by
  have : z.length ≤ 10000000 := of_decide_eq_true h
  omega
mutual
/-- what encode wrote is read back -/
theorem pval_txt : ∀ (n : Nat) (t : Tr) (r : List Nat), pl n t = true → sml t = true → pval n (txt t ++ r) = some (t, r)
  | n, .int i, r, h, _ => by
    have h : (decide (0 ≤ i) && decide (i ≤ 99999999999999999999)) = true := h
    rw [Bool.and_eq_true, decide_eq_true_eq, decide_eq_true_eq] at h
    obtain ⟨a, q, e, h1, h2⟩ := dig_first i.toNat
    have e2 : txt (.int i) ++ r = dig i.toNat ++ 46 :: r := by show (dig i.toNat ++ [46]) ++ r = _; rw [List.append_assoc]; rfl
    rw [e2, pval_leaf (fun r' z => by rw [e] at z; injection z with z _; omega), leaf_int (by omega)]
    rw [show ((i.toNat : Nat) : Int) = i by omega]
  | n, .str z, r, _, hs => by
    obtain ⟨a, q, e, h1, h2⟩ := dig_first z.length
    have e2 : txt (.str z) ++ r = dig z.length ++ 58 :: (TL.tl z ++ r) := by show (dig z.length ++ 58 :: TL.tl z) ++ r = _; rw [List.append_assoc]; rfl
    rw [e2, pval_leaf (fun r' z => by rw [e] at z; injection z with z _; omega), leaf_str (sml_str hs)]
  | 0, .tup ts, _, h, _ => by cases h
  | n + 1, .tup ts, r, h, hs => by
    have h : pls n ts = true := h
    have hs : (smls ts && decide (ts.length ≤ 1000000)) = true := hs
    rw [Bool.and_eq_true] at hs
    have e2 : txt (.tup ts) ++ r = 91 :: (txts ts ++ 93 :: r) := by show 91 :: ((txts ts ++ [93]) ++ r) = _; rw [List.append_assoc]; rfl
    rw [e2]
    unfold pval
    simp only
    rw [items_txts n ts r ((txts ts ++ 93 :: r).length + 1) h hs.1 (by omega)]
  | _, .oth _, _, h, _ => by cases h
theorem items_txts : ∀ (n : Nat) (ts : List Tr) (r : List Nat) (f : Nat), pls n ts = true → smls ts = true → (txts ts ++ 93 :: r).length < f → items (pval n) f (txts ts ++ 93 :: r) = some (ts, r)
  | n, [], r, f, _, _, hf => by
    cases f with
    | zero => omega
    | succ f => rfl
  | n, t :: ts, r, f, h, hs, hf => by
    have h : (pl n t && pls n ts) = true := h
    have hs : (sml t && smls ts) = true := hs
    rw [Bool.and_eq_true] at h hs
    obtain ⟨a, q, e, ha⟩ := txt_first h.1
    have e2 : txts (t :: ts) ++ 93 :: r = txt t ++ (txts ts ++ 93 :: r) := by show (txt t ++ txts ts) ++ _ = _; rw [List.append_assoc]
    rw [e2] at hf ⊢
    rw [List.length_append, e, List.length_cons] at hf
    cases f with
    | zero => omega
    | succ f =>
      have p1 := pval_txt n t (txts ts ++ 93 :: r) h.1 hs.1
      have p2 := items_txts n ts r f h.2 hs.2 (by omega)
      unfold items
      rw [e] at p1 ⊢
      have ne : a ≠ 93 := by omega
      show (match a :: (q ++ (txts ts ++ 93 :: r)) with
        | 93 :: r => some ([], r)
        | l => match pval n l with
          | none => none
          | some (t, r) => match items (pval n) f r with
            | none => none
            | some (ts, r2) => some (t :: ts, r2)) = _
      split
      · rename_i z; injection z with z _; exact absurd z ne
      · have p1 : pval n (a :: (q ++ (txts ts ++ 93 :: r))) = some (t, txts ts ++ 93 :: r) := p1
        rw [p1]
        simp only
        rw [p2]
end

theorem val_lt : ∀ (d : List Nat), (∀ c ∈ d, isD c = true) → val d < 10 ^ d.length := by
  have key : ∀ (k : Nat) (d : List Nat), d.length = k → (∀ c ∈ d, isD c = true) → val d < 10 ^ k := by
    intro k
    induction k with
    | zero => intro d h _; rw [List.length_eq_zero_iff.mp h]; decide
    | succ k ih =>
      intro d h hd
      have ne : d ≠ [] := fun z => by rw [z] at h; cases h
      have e := (List.dropLast_concat_getLast ne).symm
      generalize d.dropLast = a at e
      generalize d.getLast ne = c at e
      subst e
      have hc := isD_iff.mp (hd c (List.mem_append_right _ (List.mem_singleton.mpr rfl)))
      have := ih a (by rw [List.length_append] at h; simpa using h) fun c hc => hd c (List.mem_append_left _ hc)
      rw [val_app, Nat.pow_succ]
      omega
  exact fun d h => key _ d rfl h
theorem goodD_iff {d : List Nat} (h : goodD d = true) : d ≠ [] ∧ d.length ≤ 20 ∧ (d.head? ≠ some 48 ∨ d = [48]) := by
  unfold goodD at h
  rw [Bool.and_eq_true, Bool.and_eq_true, decide_eq_true_eq] at h
  obtain ⟨⟨h1, h2⟩, h3⟩ := h
  refine ⟨fun z => (by rw [z] at h1; cases h1), h2, ?_⟩
  by_cases e : d = [48]
  · exact .inr e
  · left
    intro z
    rw [z] at h3
    have : (d == [48]) = false := by simpa using e
    rw [this] at h3
    cases h3
theorem takeD (l : List Nat) : ∀ c ∈ l.takeWhile isD, isD c = true := by
  induction l with
  | nil => intro c h; cases h
  | cons a l ih =>
    intro c h
    rw [List.takeWhile_cons] at h
    split at h
    · rename_i ha
      rcases List.mem_cons.mp h with rfl | h
      · exact ha
      · exact ih c h
    · cases h
/-- what leaf read, written -/
theorem leaf_back {n : Nat} {l r : List Nat} {t : Tr} (h : leaf l = some (t, r)) : l = txt t ++ r ∧ ((∀ c ∈ l, prc c = true) → pl n t = true) := by
  unfold leaf at h
  by_cases g : goodD (l.takeWhile isD) = true
  · rw [if_pos g] at h
    obtain ⟨g1, g2, g3⟩ := goodD_iff g
    have ad := takeD l
    have dv := dig_val _ _ rfl g1 ad g3
    have lt := val_lt _ ad
    have el : l = l.takeWhile isD ++ l.dropWhile isD := List.takeWhile_append_dropWhile.symm
    generalize hv : val (l.takeWhile isD) = v at h dv lt
    split at h
    · rename_i r' e
      cases h
      have lt2 : v < 10 ^ 20 := Nat.lt_of_lt_of_le lt (Nat.pow_le_pow_right (by decide) g2)
      refine ⟨?_, fun _ => ?_⟩
      · show l = (dig (v : Int).toNat ++ [46]) ++ r
        rw [Int.toNat_natCast, dv, List.append_assoc]
        rw [e] at el
        exact el
      · show (decide (0 ≤ (v : Int)) && decide ((v : Int) ≤ 99999999999999999999)) = true
        rw [decide_eq_true (by omega), decide_eq_true (by omega)]
        rfl
    · rename_i r' e
      split at h
      · rename_i hle
        cases h
        have ez : (⟨(r'.take v).toArray⟩ : Str).length = v := by
          show (r'.take v).toArray.size = v
          rw [List.size_toArray, List.length_take]
          omega
        refine ⟨?_, fun hp => ?_⟩
        · show l = (dig (⟨(r'.take v).toArray⟩ : Str).length ++ 58 :: r'.take v) ++ r'.drop v
          rw [ez, dv, List.append_assoc, List.cons_append, List.take_append_drop]
          rw [e] at el
          exact el
        · show prn ⟨(r'.take v).toArray⟩ = true
          unfold prn
          rw [List.all_eq_true]
          intro c hc
          refine hp c ?_
          rw [el, e]
          exact List.mem_append_right _ (List.mem_cons_of_mem _ (List.mem_of_mem_take hc))
      · cases h
    · cases h
  · rw [if_neg g] at h
    cases h
mutual
/-- what decode read is what encode writes -/
theorem pval_back : ∀ (n : Nat) (l r : List Nat) (t : Tr), pval n l = some (t, r) → l = txt t ++ r ∧ ((∀ c ∈ l, prc c = true) → pl n t = true)
  | 0, l, r, t, h => by
    unfold pval at h
    split at h
    · cases h
    · exact leaf_back h
  | n + 1, l, r, t, h => by
    unfold pval at h
    split at h
    · rename_i r'
      cases e : items (pval n) (r'.length + 1) r' with
      | none => rw [e] at h; cases h
      | some x =>
        obtain ⟨ts, r2⟩ := x
        rw [e] at h
        cases h
        obtain ⟨q1, q2⟩ := items_back n (r'.length + 1) r' r ts e
        refine ⟨?_, fun hp => q2 fun c hc => hp c (List.mem_cons_of_mem _ hc)⟩
        show 91 :: r' = 91 :: (txts ts ++ [93]) ++ r
        rw [q1, List.cons_append, List.append_assoc]
        rfl
    · exact leaf_back h
theorem items_back : ∀ (n f : Nat) (l r : List Nat) (ts : List Tr), items (pval n) f l = some (ts, r) → l = txts ts ++ 93 :: r ∧ ((∀ c ∈ l, prc c = true) → pls n ts = true)
  | _, 0, _, _, _, h => by cases h
  | n, f + 1, l, r, ts, h => by
    unfold items at h
    split at h
    · rename_i r'
      cases h
      exact ⟨rfl, fun _ => rfl⟩
    · cases e : pval n l with
      | none => rw [e] at h; cases h
      | some x =>
        obtain ⟨t, r1⟩ := x
        rw [e] at h
        simp only at h
        cases e2 : items (pval n) f r1 with
        | none => rw [e2] at h; cases h
        | some y =>
          obtain ⟨us, r2⟩ := y
          rw [e2] at h
          cases h
          obtain ⟨p1, p2⟩ := pval_back n l r1 t e
          obtain ⟨q1, q2⟩ := items_back n f r1 r us e2
          refine ⟨?_, fun hp => ?_⟩
          · show l = (txt t ++ txts us) ++ 93 :: r
            rw [p1, q1, List.append_assoc]
          · show (pl n t && pls n us) = true
            rw [p2 hp, q2 fun c hc => hp c (by rw [p1]; exact List.mem_append_right _ hc)]
            rfl
end
end SC

/-! own errors of the text -/
namespace SC
open PySem L2
/-- an own error class over ValueError without an __init__ -/
structure Err (K : PySem.W.Frag) (mg : Str → Option Value) (x : Str) (C : Addr) : Prop where
  g : mg x = some (.ref C)
  e : PySem.W.excIn K C [.type "ValueError", .type "Exception", .type "BaseException", .type "object"] "ValueError.__new__" = true
  k : PySem.W.keepIn K (.ref C) = true
  b : PySem.W.subIn K (.ref C) (.type "BaseException") = some true
  t : PySem.W.typeIn K (.ref C) = some (.type "type")
  i : PySem.W.isClsIn K C = true
  s : PySem.W.subIn K (.ref C) (.ref C) = some true
def tErr (C : Addr) (W : WX) : TS := fun _ σ H => W (.ref C) none σ H
theorem Err.raise {X : Cx} {W : WX} {x m : Str} {C : Addr} {j : Nat} {p p2 pos pos2 : Pos} (T : Err X.K X.mg x C) (tk : Takes X W) (hc : X.calm = true := by rfl) (hg : Gl X x := by rfl) (hdb : (x == ("__debug__" : Str)) = false := by decide) :
    PS X (.Raise (some (.Call (.Name x p) [.Constant (.str m) j p2] [] pos)) none pos2) (tErr C W) :=
  ps_raise hc tk (pmk_own PySem.F.excBase_ValueError T.e T.g T.k (raises_own T.b T.t) hg hdb)
theorem Err.em {K : PySem.W.Frag} {mg : Str → Option Value} {x : Str} {C : Addr} (T : Err K mg x C) : PySem.W.exmOne K (.ref C) (.ref C) = some true := by
  have e1 : (PySem.W.subIn K (.ref C) (.type "BaseException") == some true) = true := by rw [T.b]; rfl
  have e2 : ((PySem.W.clsIn K C).isSome && PySem.W.typeIn K (.ref C) == some (.type "type")) = true := by
    rw [show (PySem.W.clsIn K C).isSome = true from T.i, T.t]; rfl
  have e3 : PySem.W.kitCls K (.ref C) (.ref C) = some true := by
    show (if ((PySem.W.clsIn K C).isSome && PySem.W.typeIn K (.ref C) == some (.type "type")) = true then PySem.W.subIn K (.ref C) (.ref C) else none) = some true
    rw [if_pos e2]; exact T.s
  show (if (PySem.W.subIn K (.ref C) (.type "BaseException") == some true) = true then PySem.W.kitCls K (.ref C) (.ref C) else none) = some true
  rw [if_pos e1]; exact e3
/-- what a raising def's callees let out, handed on -/
theorem passX {X : Cx} {E : XK} {W : WX} (tk : Takes X W) (h : ∀ cls d σ H, E cls d H → W cls d σ H) : Passes (L2.CX X.prog X.w) X E := passes_call tk h
/-- a module's constant int -/
theorem pe_cI {X : Cx} {x : Str} {n : Int} {t : Tok} {p : Pos} (h : X.mg x = some (.int n t)) (hg : Gl X x := by rfl) (hd : (x == ("__debug__" : Str)) = false := by decide) : PE X (.Name x p) (tC (.int n)) :=
  pe_glob (v := .int n) hg h ⟨t, rfl⟩ hd
/-- c * n, c one sign -/
theorem op_mulS {X : Cx} : OpR X (binaryOp .Mult) (fun x y H Q => ∃ (c : Nat) (n : Int), x = .str ⟨#[c]⟩ ∧ y = .int n ∧ (0 ≤ n ∧ n ≤ 16000000) ∧ Q (.str ⟨(List.replicate n.toNat c).toArray⟩) H) := by
  intro pins s σ H x y v u Q I rx ry h
  obtain ⟨c, n, rfl, rfl, ⟨n0, n1⟩, q⟩ := h
  obtain ⟨t, rfl⟩ := rx
  obtain ⟨t', rfl⟩ := ry
  have lim : sizeLine = 16777216 := sizeLine_eq
  have fold : ∀ (k : Nat) (a : Array Nat), ((List.replicate k (#[c] : Array Nat)).foldl (· ++ ·) a).toList = a.toList ++ List.replicate k c := by
    intro k
    induction k with
    | zero => intro a; simp
    | succ k ih => intro a; rw [List.replicate_succ, List.foldl_cons, ih, Array.toList_append, List.replicate_succ]; simp
  have e : Txt.mul (⟨#[c]⟩ : Str) n = ⟨(List.replicate n.toNat c).toArray⟩ := by
    unfold Txt.mul
    by_cases h1 : n < 1
    · rw [if_pos h1]
      have : n.toNat = 0 := by omega
      rw [this]; rfl
    · rw [if_neg h1]
      by_cases h2 : n = 1
      · subst h2; rfl
      · have h3 : (n == 1 || (⟨#[c]⟩ : Str).length == 0) = false := by
          have : (n == 1) = false := by simpa using h2
          rw [this]; rfl
        rw [h3, if_neg Bool.false_ne_true]
        refine TL.ext_tl ?_
        show ((List.replicate n.toNat (#[c] : Array Nat)).foldl (· ++ ·) #[]).toList = _
        rw [fold]
        simp [TL.tl]
  refine PySem.SB.mul ⟨?_, fun h1 h2 => ?_, fun h1 h2 => ?_⟩ fun t' k => ?_
  · rw [decide_eq_false (by omega), decide_eq_false (by omega)]; rfl
  · show ¬ ((1 : Int) > (2 ^ 63 - 1) / n)
    have : (1 : Int) ≤ (2 ^ 63 - 1) / n := by
      rw [Int.le_ediv_iff_mul_le (by omega)]
      omega
    omega
  · show PySem.Builtin.Str.tooLong (1 * n.toNat) = false
    rw [Nat.one_mul]
    unfold PySem.Builtin.Str.tooLong
    simp only [decide_eq_false_iff_not]
    omega
  · rw [e]
    exact ⟨.str _, H, I.tok _, ⟨_, rfl⟩, q⟩
theorem dig_len {n : Nat} (h : n < 10 ^ 20) : (dig n).length ≤ 20 := TL.numL_len (by decide) h
theorem txt_size {n : Nat} : ∀ {t : Tr}, pl n t = true → fit t = true → sml t = true → (txt t).length ≤ 10000100
  | .int i, h, _, _ => by
    have h : (decide (0 ≤ i) && decide (i ≤ 99999999999999999999)) = true := h
    rw [Bool.and_eq_true, decide_eq_true_eq, decide_eq_true_eq] at h
    have := dig_len (n := i.toNat) (by omega)
    show (dig i.toNat ++ [46]).length ≤ _
    rw [List.length_append]
    show _ + 1 ≤ _
    omega
  | .str z, _, _, hs => by
    have h : z.length ≤ 10000000 := of_decide_eq_true hs
    have := dig_len (n := z.length) (by omega)
    show (dig z.length ++ 58 :: TL.tl z).length ≤ _
    rw [List.length_append, List.length_cons, ← TL.len_tl]
    omega
  | .tup ts, _, h, _ => by
    have h : (fits ts && decide ((txts ts).length + 2 ≤ 100000)) = true := h
    rw [Bool.and_eq_true, decide_eq_true_eq] at h
    show (91 :: (txts ts ++ [93])).length ≤ _
    rw [List.length_cons, List.length_append]
    show _ + 1 + 1 ≤ _
    omega
  | .oth _, h, _, _ => by cases h
theorem S_len (l : List Nat) : (⟨l.toArray⟩ : Str).length = l.length := by
  show l.toArray.size = _
  rw [List.size_toArray]
/-- str(n) -/
theorem toString_S (n : Nat) : Str.ofString (toString ((n : Nat) : Int)) = ⟨(dig n).toArray⟩ := TL.ext_tl (TL.tl_num n)
theorem app_S (a b : List Nat) : (⟨a.toArray⟩ : Str) ++ (⟨b.toArray⟩ : Str) = ⟨(a ++ b).toArray⟩ := TL.ext_tl (by rw [TL.tl_append])
theorem S_of (z : Str) : z = ⟨(TL.tl z).toArray⟩ := (TL.mk_tl z).symm
theorem log_small {i : Int} (h0 : 0 ≤ i) (h : i ≤ 99999999999999999999) : i.natAbs.log2 < 1920 := by
  by_cases z : i.natAbs = 0
  · rw [z]; decide
  · have := (Nat.log2_lt (k := 70) z).mpr (by omega)
    omega
theorem pls_mem {n : Nat} {t : Tr} : ∀ {ts : List Tr}, pls n ts = true → t ∈ ts → pl n t = true
  | u :: ts, h, m => by
    have h : (pl n u && pls n ts) = true := h
    rw [Bool.and_eq_true] at h
    rcases List.mem_cons.mp m with rfl | m
    · exact h.1
    · exact pls_mem h.2 m
theorem fits_mem {t : Tr} : ∀ {ts : List Tr}, fits ts = true → t ∈ ts → fit t = true
  | u :: ts, h, m => by
    have h : (fit u && fits ts) = true := h
    rw [Bool.and_eq_true] at h
    rcases List.mem_cons.mp m with rfl | m
    · exact h.1
    · exact fits_mem h.2 m
theorem smls_mem {t : Tr} : ∀ {ts : List Tr}, smls ts = true → t ∈ ts → sml t = true
  | u :: ts, h, m => by
    have h : (sml u && smls ts) = true := h
    rw [Bool.and_eq_true] at h
    rcases List.mem_cons.mp m with rfl | m
    · exact h.1
    · exact smls_mem h.2 m
theorem take_one {α : Type} {l : List α} {i : Nat} {x : α} (h : l[i]? = some x) : l.take (i + 1) = l.take i ++ [x] := by
  rw [List.take_add_one, h]; rfl
/-- the texts of items, as Python's texts -/
def tys (ts : List Tr) : List Str := ts.map fun t => (⟨(txt t).toArray⟩ : Str)
theorem tys_app (ts us : List Tr) : tys (ts ++ us) = tys ts ++ tys us := List.map_append
theorem tl_tys : ∀ ts : List Tr, TL.tl (Txt.join (Str.ofString "") (tys ts)) = txts ts := by
  intro ts
  rw [tl_joinE]
  induction ts with
  | nil => rfl
  | cons t ts ih =>
    show txt t ++ ((tys ts).map TL.tl).flatten = txt t ++ txts ts
    rw [ih]
theorem tys_sum : ∀ ts : List Tr, ((tys ts).map (·.length)).sum = (txts ts).length
  | [] => rfl
  | t :: ts => by
    show (⟨(txt t).toArray⟩ : Str).length + ((tys ts).map (·.length)).sum = (txt t ++ txts ts).length
    rw [tys_sum ts, S_len, List.length_append]
theorem take_le : ∀ (ts : List Tr) (i : Nat), (txts (ts.take i)).length ≤ (txts ts).length
  | [], i => by rw [List.take_nil]; exact Nat.le_refl _
  | t :: ts, 0 => Nat.zero_le _
  | t :: ts, i + 1 => by
    show (txt t ++ txts (ts.take i)).length ≤ (txt t ++ txts ts).length
    have := take_le ts i
    rw [List.length_append, List.length_append]
    omega
theorem TabG.ne_lst {Pt p : Addr} {H : Hp} {xs : List V} (g : GxR.TabG H Pt) (h : H p = some (.lst xs)) : p ≠ Pt := by
  obtain ⟨ps, e, _⟩ := g
  exact ne_of h e (by intro z; cases z)
theorem TabG.upd {Pt p : Addr} {H : Hp} {o : HO} (g : GxR.TabG H Pt) (n : p ≠ Pt) : GxR.TabG (upd H p o) Pt := by
  obtain ⟨ps, e, q⟩ := g
  exact ⟨ps, by rw [upd_ne (Ne.symm n)]; exact e, q⟩
end SC

/-! decode: what its readings want -/
namespace SC
open PySem L2
theorem no_oth : ∀ {n : Nat} {l r : List Nat} {v : V}, pval n l ≠ some (.oth v, r) := by
  have lf : ∀ {l r : List Nat} {v : V}, leaf l ≠ some (.oth v, r) := fun {l r v} h => by
    unfold leaf at h
    split at h
    · split at h
      · cases h
      · split at h <;> cases h
      · cases h
    · cases h
  intro n l r v h
  cases n with
  | zero =>
    unfold pval at h
    split at h
    · cases h
    · exact lf h
  | succ n =>
    unfold pval at h
    split at h
    · split at h <;> cases h
    · exact lf h
theorem pval_dec {n : Nat} {l r : List Nat} {t : Tr} (h : pval n l = some (t, r)) : r.length < l.length := by
  have e := (pval_back n l r t h).1
  have pos : 0 < (txt t).length := by
    cases t with
    | int i => show 0 < (dig i.toNat ++ [46]).length; rw [List.length_append]; show 0 < _ + 1; omega
    | str z => show 0 < (dig z.length ++ 58 :: TL.tl z).length; rw [List.length_append, List.length_cons]; omega
    | tup ts => show 0 < (91 :: (txts ts ++ [93])).length; rw [List.length_cons]; omega
    | oth v => exact absurd h no_oth
  rw [e, List.length_append]
  omega
theorem items_fuel {n : Nat} : ∀ (k : Nat) (l : List Nat) (f g : Nat), l.length = k → l.length < f → l.length < g → items (pval n) f l = items (pval n) g l := by
  intro k
  induction k using Nat.strongRecOn with
  | _ k ih =>
    intro l f g hk hf hg
    cases f with
    | zero => omega
    | succ f =>
      cases g with
      | zero => omega
      | succ g =>
        unfold items
        split
        · rfl
        · cases e : pval n l with
          | none => rfl
          | some x =>
            obtain ⟨t, r⟩ := x
            have := pval_dec e
            simp only
            rw [ih r.length (by omega) r f g rfl (by omega) (by omega)]
def itm (n : Nat) (l : List Nat) : Option (List Tr × List Nat) := items (pval n) (l.length + 1) l
theorem itm_close (n : Nat) (r : List Nat) : itm n (93 :: r) = some ([], r) := rfl
theorem itm_step {n : Nat} {l : List Nat} (h : l.head? ≠ some 93) : itm n l = match pval n l with
    | none => none
    | some (t, r) => (itm n r).map fun x => (t :: x.1, x.2) := by
  unfold itm
  cases l with
  | nil =>
    unfold items
    simp only
    cases e : pval n [] with
    | none => rfl
    | some x => obtain ⟨t, r⟩ := x; exact absurd (pval_dec e) (by simp)
  | cons a l =>
    have ha : a ≠ 93 := fun z => h (by rw [z]; rfl)
    rw [show items (pval n) ((a :: l).length + 1) (a :: l) = match pval n (a :: l) with
      | none => none
      | some (t, r) => match items (pval n) (a :: l).length r with
        | none => none
        | some (ts, r2) => some (t :: ts, r2) from by
      conv => lhs; unfold items
      split
      · rename_i z; injection z with z _; exact absurd z ha
      · rfl]
    cases e : pval n (a :: l) with
    | none => rfl
    | some x =>
      obtain ⟨t, r⟩ := x
      have := pval_dec e
      simp only
      rw [items_fuel r.length r (a :: l).length (r.length + 1) rfl (by omega) (by omega)]
      cases items (pval n) (r.length + 1) r with
      | none => rfl
      | some y => rfl
theorem pval_br (n : Nat) (r : List Nat) : pval (n + 1) (91 :: r) = (itm n r).map fun x => (.tup x.1, x.2) := by
  unfold pval itm
  simp only
  cases items (pval n) (r.length + 1) r with
  | none => rfl
  | some x => rfl
/-- a slice of a text by natural bounds -/
theorem cut_nat (z : Str) {a b : Nat} (h : a ≤ b) : TL.tl (cutS z (some (a : Int)) (some (b : Int))) = ((TL.tl z).drop a).take (b - a) := by
  show (z.cps.toList.drop (HT.sIx z.length 0 (some (a : Int)))).take (HT.sIx z.length z.length (some (b : Int)) - HT.sIx z.length 0 (some (a : Int))) = _
  have sx : ∀ (k d : Nat), HT.sIx z.length d (some (k : Int)) = min k z.length := fun k d => by
    show (if (k : Int) < 0 then ((k : Int) + (z.length : Int)).toNat else min (k : Int).toNat z.length) = _
    rw [if_neg (by omega), Int.toNat_natCast]
  rw [sx, sx]
  have el : z.cps.toList.length = z.length := (TL.len_tl z).symm
  by_cases ha : a ≤ z.length
  · rw [Nat.min_eq_left ha]
    by_cases hb : b ≤ z.length
    · rw [Nat.min_eq_left hb]
    · rw [Nat.min_eq_right (by omega), List.take_of_length_le (by rw [List.length_drop]; omega), List.take_of_length_le (by rw [List.length_drop, show (TL.tl z).length = z.length from el]; omega)]
  · rw [Nat.min_eq_right (by omega), Nat.min_eq_right (by omega), Nat.sub_self, List.take_zero]
    rw [List.drop_eq_nil_of_le (by rw [show (TL.tl z).length = z.length from el]; omega), List.take_nil]
theorem cut_one (z : Str) (a : Nat) : TL.tl (cutS z (some (a : Int)) (some ((a : Int) + 1))) = ((TL.tl z).drop a).take 1 := by
  have h := cut_nat z (a := a) (b := a + 1) (Nat.le_succ a)
  rw [show a + 1 - a = 1 by omega] at h
  exact h
/-- a one-sign slice compared with a sign -/
theorem one_sign_eq {x : Str} {d : List Nat} {c : Nat} (h : TL.tl x = d.take 1) : x = ⟨#[c]⟩ ↔ d.head? = some c := by
  constructor
  · intro e
    have e2 : TL.tl x = [c] := by rw [e]
    rw [h] at e2
    cases d with
    | nil => cases e2
    | cons a d => injection e2 with e2 _; rw [e2]; rfl
  · intro e
    cases d with
    | nil => cases e
    | cons a d =>
      have : a = c := Option.some.inj e
      subst this
      exact TL.ext_tl (by rw [h]; rfl)
section
variable {H H' : Hp}
theorem tyN_kp0 {v : V} {t : String} (k : Kp [] H H') (h : tyN H v = some t) : tyN H' v = some t := by
  cases v with
  | ref p =>
    unfold tyN at h
    simp only at h
    split at h
    · rename_i xs q; cases h; exact tyN_lst (k.keep _ _ (by simp) q)
    · rename_i xs q; cases h; exact tyN_tup (k.keep _ _ (by simp) q)
    · rename_i xs q; cases h; exact tyN_dK (k.keep _ _ (by simp) q)
    · cases h
  | _ => exact h
mutual
theorem Rep.kp0 (k : Kp [] H H') : ∀ {v : V} {t : Tr}, Rep H v t → Rep H' v t
  | _, _, .int i => .int i
  | _, _, .str z => .str z
  | _, _, .tup e h => .tup (k.tup _ _ e) (h.kp0 k)
  | _, _, .oth e a b c => .oth (tyN_kp0 k e) a b c
theorem RepAll.kp0 (k : Kp [] H H') : ∀ {vs : List V} {ts : List Tr}, RepAll H vs ts → RepAll H' vs ts
  | _, _, .nil => .nil
  | _, _, .cons a b => .cons (a.kp0 k) (b.kp0 k)
end
end
theorem takeWhile_take (l : List Nat) : l.take (l.takeWhile isD).length = l.takeWhile isD ∧ l.drop (l.takeWhile isD).length = l.dropWhile isD := by
  induction l with
  | nil => exact ⟨rfl, rfl⟩
  | cons a l ih =>
    cases h : isD a with
    | true => simp [List.takeWhile, List.dropWhile, h, ih.1, ih.2]
    | false => simp [List.takeWhile, List.dropWhile, h]
theorem tw_next : ∀ (D : List Nat) (k : Nat), k ≤ (D.takeWhile isD).length → (∃ c r, D.drop k = c :: r ∧ isD c = true ∧ k < (D.takeWhile isD).length) ∨ (k = (D.takeWhile isD).length ∧ (D.drop k = [] ∨ ∃ c r, D.drop k = c :: r ∧ isD c = false))
  | [], k, h => by
    have : k = 0 := Nat.le_zero.mp h
    subst this
    exact .inr ⟨rfl, .inl rfl⟩
  | a :: D, 0, h => by
    cases ha : isD a with
    | true => exact .inl ⟨a, D, rfl, ha, by simp [List.takeWhile, ha]⟩
    | false => exact .inr ⟨by simp [List.takeWhile, ha], .inr ⟨a, D, rfl, ha⟩⟩
  | a :: D, k + 1, h => by
    cases ha : isD a with
    | true =>
      have e : (a :: D).takeWhile isD = a :: D.takeWhile isD := by simp [List.takeWhile, ha]
      rw [e] at h ⊢
      have h : k + 1 ≤ (D.takeWhile isD).length + 1 := h
      rcases tw_next D k (by omega) with ⟨c, r, q1, q2, q3⟩ | ⟨q1, q2⟩
      · exact .inl ⟨c, r, q1, q2, by show k + 1 < _ + 1; omega⟩
      · exact .inr ⟨by show k + 1 = _ + 1; omega, q2⟩
    | false =>
      have e : (a :: D).takeWhile isD = [] := by simp [List.takeWhile, ha]
      rw [e] at h
      exact absurd h (by simp)
theorem lt48 {x : Str} {d : List Nat} (h : TL.tl x = d.take 1) : (x.cps.toList < (Str.ofString "0").cps.toList) ↔ (d = [] ∨ ∃ c r, d = c :: r ∧ c < 48) := by
  have e : (Str.ofString "0").cps.toList = [48] := by decide +kernel
  rw [e, show x.cps.toList = d.take 1 from h]
  cases d with
  | nil => exact ⟨fun _ => .inl rfl, fun _ => List.Lex.nil⟩
  | cons c r =>
    show ([c] < [48]) ↔ _
    rw [one_lt]
    constructor
    · intro q; exact .inr ⟨c, r, rfl, q⟩
    · rintro (q | ⟨c', r', q, q2⟩)
      · cases q
      · injection q with q _; rw [q]; exact q2
theorem lt57 {x : Str} {c : Nat} {r : List Nat} (h : TL.tl x = (c :: r).take 1) : ((Str.ofString "9").cps.toList < x.cps.toList) ↔ 57 < c := by
  have e : (Str.ofString "9").cps.toList = [57] := by decide +kernel
  rw [e, show x.cps.toList = [c] from h]
  exact one_lt
section
variable {H : Hp} {p : Addr} {xs ys : List V}
theorem tyN_updL (h : H p = some (.lst xs)) {v : V} {t : String} (e : tyN H v = some t) : tyN (upd H p (.lst ys)) v = some t := by
  cases v with
  | ref a =>
    by_cases c : a = p
    · subst c
      rw [tyN_lst h] at e
      rw [tyN_lst upd_same]
      exact e
    · unfold tyN at e ⊢
      simp only at e ⊢
      rw [upd_ne c]
      exact e
  | _ => exact e
mutual
theorem Rep.updL (h : H p = some (.lst xs)) : ∀ {v : V} {t : Tr}, Rep H v t → Rep (upd H p (.lst ys)) v t
  | _, _, .int i => .int i
  | _, _, .str z => .str z
  | _, _, .tup e q => .tup (by rw [upd_ne (ne_of e h (by intro z; cases z))]; exact e) (q.updL h)
  | _, _, .oth e a b c => .oth (tyN_updL h e) a b c
theorem RepAll.updL (h : H p = some (.lst xs)) : ∀ {vs : List V} {ts : List Tr}, RepAll H vs ts → RepAll (upd H p (.lst ys)) vs ts
  | _, _, .nil => .nil
  | _, _, .cons a b => .cons (a.updL h) (b.updL h)
end
end
end SC

/-! values that a law draws: their bounds -/
namespace SC
open PySem L2
theorem ok_never {P : Program} {w : World} {K : PySem.W.Frag} {mg : Str → Option Value} {base : Heap} {CX : CXT} {k : Nat} {f : Addr} {fd : FuncData} {ps : List Str} : FnOk P w K mg base CX k f fd ps (fun _ _ _ _ => False) :=
  ⟨fun _ _ _ _ h => h.elim, fun _ _ _ _ _ _ _ _ _ _ _ _ _ h => h.elim⟩
mutual
/-- how many tuples -/
def nT : Tr → Nat
  | .tup ts => 1 + nTs ts
  | _ => 0
def nTs : List Tr → Nat
  | [] => 0
  | t :: ts => nT t + nTs ts
end
mutual
/-- drawn: small leaves, at most three items, at most n deep -/
def gd (n : Nat) : Tr → Bool
  | .int i => decide (0 ≤ i) && decide (i ≤ 99999999999999999999)
  | .str z => decide (z.length ≤ 105) && prn z
  | .tup ts => match n with
    | 0 => false
    | m + 1 => decide (ts.length ≤ 3) && gds m ts
  | .oth _ => false
def gds (n : Nat) : List Tr → Bool
  | [] => true
  | t :: ts => gd n t && gds n ts
end
theorem gds_app (n : Nat) : ∀ (ts us : List Tr), gds n (ts ++ us) = (gds n ts && gds n us)
  | [], us => by simp [gds]
  | t :: ts, us => by
    show (gd n t && gds n (ts ++ us)) = ((gd n t && gds n ts) && gds n us)
    rw [gds_app n ts us, Bool.and_assoc]
theorem nTs_app : ∀ (ts us : List Tr), nTs (ts ++ us) = nTs ts + nTs us
  | [], us => by simp [nTs]
  | t :: ts, us => by
    show nT t + nTs (ts ++ us) = (nT t + nTs ts) + nTs us
    rw [nTs_app ts us, Nat.add_assoc]
mutual
theorem gd_pl : ∀ (n : Nat) (t : Tr), gd n t = true → pl n t = true ∧ sml t = true
  | n, .int i, h => ⟨h, rfl⟩
  | n, .str z, h => by
    have h : (decide (z.length ≤ 105) && prn z) = true := h
    rw [Bool.and_eq_true, decide_eq_true_eq] at h
    exact ⟨h.2, by show decide (z.length ≤ 10000000) = true; rw [decide_eq_true (by omega)]⟩
  | 0, .tup ts, h => by cases h
  | n + 1, .tup ts, h => by
    have h : (decide (ts.length ≤ 3) && gds n ts) = true := h
    rw [Bool.and_eq_true, decide_eq_true_eq] at h
    obtain ⟨q1, q2⟩ := gds_pl n ts h.2
    exact ⟨q1, by show (smls ts && decide (ts.length ≤ 1000000)) = true; rw [q2, decide_eq_true (by omega)]; rfl⟩
  | _, .oth _, h => by cases h
theorem gds_pl : ∀ (n : Nat) (ts : List Tr), gds n ts = true → pls n ts = true ∧ smls ts = true
  | _, [], _ => ⟨rfl, rfl⟩
  | n, t :: ts, h => by
    have h : (gd n t && gds n ts) = true := h
    rw [Bool.and_eq_true] at h
    obtain ⟨a1, a2⟩ := gd_pl n t h.1
    obtain ⟨b1, b2⟩ := gds_pl n ts h.2
    exact ⟨by show (pl n t && pls n ts) = true; rw [a1, b1]; rfl, by show (sml t && smls ts) = true; rw [a2, b2]; rfl⟩
end
mutual
theorem gd_len : ∀ (n : Nat) (t : Tr), gd n t = true → (txt t).length ≤ 130 + 400 * nT t
  | n, .int i, h => by
    have h : (decide (0 ≤ i) && decide (i ≤ 99999999999999999999)) = true := h
    rw [Bool.and_eq_true, decide_eq_true_eq, decide_eq_true_eq] at h
    have := dig_len (n := i.toNat) (by omega)
    show (dig i.toNat ++ [46]).length ≤ _
    rw [List.length_append]
    show _ + 1 ≤ _
    omega
  | n, .str z, h => by
    have h : (decide (z.length ≤ 105) && prn z) = true := h
    rw [Bool.and_eq_true, decide_eq_true_eq] at h
    have := dig_len (n := z.length) (by omega)
    show (dig z.length ++ 58 :: TL.tl z).length ≤ _
    rw [List.length_append, List.length_cons, ← TL.len_tl]
    omega
  | 0, .tup ts, h => by cases h
  | n + 1, .tup ts, h => by
    have h : (decide (ts.length ≤ 3) && gds n ts) = true := h
    rw [Bool.and_eq_true, decide_eq_true_eq] at h
    have := gds_len n ts h.2
    show (91 :: (txts ts ++ [93])).length ≤ 130 + 400 * (1 + nTs ts)
    rw [List.length_cons, List.length_append]
    show _ + 1 + 1 ≤ _
    omega
  | _, .oth _, h => by cases h
theorem gds_len : ∀ (n : Nat) (ts : List Tr), gds n ts = true → (txts ts).length ≤ 130 * ts.length + 400 * nTs ts
  | _, [], _ => Nat.zero_le _
  | n, t :: ts, h => by
    have h : (gd n t && gds n ts) = true := h
    rw [Bool.and_eq_true] at h
    have a := gd_len n t h.1
    have b := gds_len n ts h.2
    show (txt t ++ txts ts).length ≤ 130 * (ts.length + 1) + 400 * (nT t + nTs ts)
    rw [List.length_append]
    omega
end
mutual
theorem pl_mono : ∀ (n m : Nat) (t : Tr), n ≤ m → pl n t = true → pl m t = true
  | _, _, .int _, _, h => h
  | _, _, .str _, _, h => h
  | 0, _, .tup _, _, h => by cases h
  | n + 1, 0, .tup _, q, _ => by omega
  | n + 1, m + 1, .tup ts, q, h => pls_mono n m ts (by omega) h
  | _, _, .oth _, _, h => h
theorem pls_mono : ∀ (n m : Nat) (ts : List Tr), n ≤ m → pls n ts = true → pls m ts = true
  | _, _, [], _, _ => rfl
  | n, m, t :: ts, q, h => by
    have h : (pl n t && pls n ts) = true := h
    rw [Bool.and_eq_true] at h
    show (pl m t && pls m ts) = true
    rw [pl_mono n m t q h.1, pls_mono n m ts q h.2]
    rfl
end
mutual
/-- no other kind within: such values stand whatever lists change -/
def pure_ : Tr → Bool
  | .oth _ => false
  | .tup ts => pures ts
  | _ => true
def pures : List Tr → Bool
  | [] => true
  | t :: ts => pure_ t && pures ts
end
mutual
theorem pl_pure : ∀ (n : Nat) (t : Tr), pl n t = true → pure_ t = true
  | _, .int _, _ => rfl
  | _, .str _, _ => rfl
  | 0, .tup _, h => by cases h
  | n + 1, .tup ts, h => pls_pure n ts h
  | _, .oth _, h => by cases h
theorem pls_pure : ∀ (n : Nat) (ts : List Tr), pls n ts = true → pures ts = true
  | _, [], _ => rfl
  | n, t :: ts, h => by
    have h : (pl n t && pls n ts) = true := h
    rw [Bool.and_eq_true] at h
    show (pure_ t && pures ts) = true
    rw [pl_pure n t h.1, pls_pure n ts h.2]
    rfl
end
mutual
theorem Rep.any {S : List Addr} {H H' : Hp} (k : Kp S H H') : ∀ {v : V} {t : Tr}, Rep H v t → pure_ t = true → Rep H' v t
  | _, _, .int i, _ => .int i
  | _, _, .str z, _ => .str z
  | _, _, .tup e q, h => .tup (k.tup _ _ e) (q.any k h)
  | _, _, .oth _ _ _ _, h => by cases h
theorem RepAll.any {S : List Addr} {H H' : Hp} (k : Kp S H H') : ∀ {vs : List V} {ts : List Tr}, RepAll H vs ts → pures ts = true → RepAll H' vs ts
  | _, _, .nil, _ => .nil
  | _, t :: ts, .cons a b, h => by
    have h : (pure_ t && pures ts) = true := h
    rw [Bool.and_eq_true] at h
    exact .cons (a.any k h.1) (b.any k h.2)
end
mutual
/-- the law's own comparison -/
def same : Tr → Tr → Bool
  | .tup us, .tup ts => sames us ts
  | .str a, .str b => decide (a = b)
  | .int a, .int b => decide (a = b)
  | _, _ => false
def sames : List Tr → List Tr → Bool
  | [], [] => true
  | u :: us, t :: ts => same u t && sames us ts
  | _, _ => false
end
mutual
theorem same_refl : ∀ (n : Nat) (t : Tr), pl n t = true → same t t = true
  | _, .int _, _ => by show decide _ = true; exact decide_eq_true rfl
  | _, .str _, _ => by show decide _ = true; exact decide_eq_true rfl
  | 0, .tup _, h => by cases h
  | n + 1, .tup ts, h => sames_refl n ts h
  | _, .oth _, h => by cases h
theorem sames_refl : ∀ (n : Nat) (ts : List Tr), pls n ts = true → sames ts ts = true
  | _, [], _ => rfl
  | n, t :: ts, h => by
    have h : (pl n t && pls n ts) = true := h
    rw [Bool.and_eq_true] at h
    show (same t t && sames ts ts) = true
    rw [same_refl n t h.1, sames_refl n ts h.2]
    rfl
end
mutual
theorem same_eq : ∀ (a b : Tr), same a b = true → a = b
  | .tup us, .tup ts, h => by rw [sames_eq us ts h]
  | .str a, .str b, h => by rw [of_decide_eq_true (show decide (a = b) = true from h)]
  | .int a, .int b, h => by rw [of_decide_eq_true (show decide (a = b) = true from h)]
  | .oth _, .oth _, h => by cases h
  | .oth _, .int _, h => by cases h
  | .oth _, .str _, h => by cases h
  | .oth _, .tup _, h => by cases h
  | .int _, .oth _, h => by cases h
  | .int _, .str _, h => by cases h
  | .int _, .tup _, h => by cases h
  | .str _, .oth _, h => by cases h
  | .str _, .int _, h => by cases h
  | .str _, .tup _, h => by cases h
  | .tup _, .oth _, h => by cases h
  | .tup _, .int _, h => by cases h
  | .tup _, .str _, h => by cases h
theorem sames_eq : ∀ (us ts : List Tr), sames us ts = true → us = ts
  | [], [], _ => rfl
  | u :: us, t :: ts, h => by
    have h : (same u t && sames us ts) = true := h
    rw [Bool.and_eq_true] at h
    rw [same_eq u t h.1, sames_eq us ts h.2]
  | [], _ :: _, h => by cases h
  | _ :: _, [], h => by cases h
end
theorem sames_len : ∀ {us ts : List Tr}, sames us ts = true → us.length = ts.length := fun h => by rw [sames_eq _ _ h]
/-- one promise for all depths up to a bound -/
theorem fnok_ex {P : Program} {w : World} {K : PySem.W.Frag} {mg : Str → Option Value} {base : Heap} {CX : CXT} {k : Nat} {f : Addr} {fd : FuncData} {ps : List Str} {sp : Nat → Sp} {N : Nat} (h : ∀ n, n ≤ N → FnOk P w K mg base CX k f fd ps (sp n)) :
    FnOk P w K mg base CX k f fd ps (fun vs H Q E => ∃ n, n ≤ N ∧ sp n vs H Q E) :=
  ⟨fun vs H Q E ⟨n, hn, q⟩ => (h n hn).len vs H Q E q, fun A outer s H args us vs Q E hr he hb hv ⟨n, hn, q⟩ => (h n hn).run A outer s H args us vs Q E hr he hb hv q⟩
theorem strT {z : Str} (hz : z.length ≤ 10000000) : z.length ≤ sizeLine ∧ (z.length : Int).natAbs.log2 < 1920 ∧ (Str.ofString (toString (z.length : Int))).length + (Str.ofString ":").length ≤ sizeLine ∧
    (Str.ofString (toString (z.length : Int)) ++ Str.ofString ":").length + z.length ≤ sizeLine ∧ Str.ofString (toString (z.length : Int)) ++ Str.ofString ":" ++ z = ⟨(txt (.str z)).toArray⟩ := by
  have lim : sizeLine = 16777216 := sizeLine_eq
  have dl := dig_len (n := z.length) (by omega)
  have e1 : (Str.ofString (toString (z.length : Int))).length ≤ 20 := by rw [toString_S, S_len]; exact dl
  have e2 : (Str.ofString ":").length = 1 := by decide +kernel
  have e3 : (Str.ofString (toString (z.length : Int)) ++ Str.ofString ":").length ≤ 21 := by
    rw [TL.len_tl, TL.tl_append, List.length_append, ← TL.len_tl, ← TL.len_tl]; omega
  refine ⟨by omega, log_small (by omega) (by omega), by omega, by omega, TL.ext_tl ?_⟩
  rw [TL.tl_append, TL.tl_append, TL.tl_num]
  show (dig z.length ++ [58]) ++ TL.tl z = dig z.length ++ 58 :: TL.tl z
  rw [List.append_assoc]; rfl
theorem intT {i : Int} (h0 : 0 ≤ i) (h1 : i ≤ 99999999999999999999) : i.natAbs.log2 < 1920 ∧ (Str.ofString (toString i)).length + (Str.ofString ".").length ≤ sizeLine ∧ Str.ofString (toString i) ++ Str.ofString "." = ⟨(txt (.int i)).toArray⟩ := by
  have lim : sizeLine = 16777216 := sizeLine_eq
  have ei : i = ((i.toNat : Nat) : Int) := by omega
  have dl := dig_len (n := i.toNat) (by omega)
  have e2 : (Str.ofString ".").length = 1 := by decide +kernel
  have e1 : (Str.ofString (toString i)).length ≤ 20 := by rw [ei, toString_S, S_len]; exact dl
  refine ⟨log_small h0 h1, by omega, TL.ext_tl ?_⟩
  rw [TL.tl_append]
  show TL.tl (Str.ofString (toString i)) ++ [46] = dig i.toNat ++ [46]
  rw [show TL.tl (Str.ofString (toString i)) = dig i.toNat by rw [ei]; exact TL.tl_num _]
theorem tupT (ts : List Tr) (h : (txts ts).length ≤ 16000000) : ((tys ts).map (·.length)).sum + (tys ts).length * (Str.ofString "").length ≤ 16777216 ∧ (Str.ofString "[").length + (Txt.join (Str.ofString "") (tys ts)).length ≤ sizeLine ∧
    (Str.ofString "[" ++ Txt.join (Str.ofString "") (tys ts)).length + (Str.ofString "]").length ≤ sizeLine ∧ Str.ofString "[" ++ Txt.join (Str.ofString "") (tys ts) ++ Str.ofString "]" = ⟨(txt (.tup ts)).toArray⟩ := by
  have lim : sizeLine = 16777216 := sizeLine_eq
  have h2 : (Str.ofString "]").length = 1 := by decide +kernel
  have h1 : (Str.ofString "[").length = 1 := by decide +kernel
  refine ⟨?_, ?_, ?_, TL.ext_tl ?_⟩
  · rw [tys_sum]
    show _ + (tys ts).length * 0 ≤ _
    omega
  · rw [h1, TL.len_tl, tl_tys]; omega
  · rw [TL.len_tl, TL.tl_append, List.length_append, ← TL.len_tl, h1, tl_tys, h2]; omega
  · rw [TL.tl_append, TL.tl_append, tl_tys]
    rfl
theorem sames_cat {u t : Tr} (h : same u t = true) : ∀ (us ts : List Tr), sames us ts = true → sames (us ++ [u]) (ts ++ [t]) = true
  | [], [], _ => by show (same u t && true) = true; rw [h]; rfl
  | a :: us, b :: ts, q => by
    have q : (same a b && sames us ts) = true := q
    rw [Bool.and_eq_true] at q
    show (same a b && sames (us ++ [u]) (ts ++ [t])) = true
    rw [q.1, sames_cat h us ts q.2]; rfl
  | [], _ :: _, q => by cases q
  | _ :: _, [], q => by cases q
theorem dig_prc (n : Nat) : ∀ c ∈ dig n, prc c = true := fun c hc => by
  obtain ⟨h1, h2⟩ := isD_iff.mp (dig_isD n c hc)
  unfold prc
  rw [decide_eq_true (by omega), decide_eq_true (by omega), decide_eq_false (by omega)]
  rfl
mutual
theorem txt_prc : ∀ (n : Nat) (t : Tr), pl n t = true → ∀ c ∈ txt t, prc c = true
  | n, .int i, _, c, h => by
    rcases List.mem_append.mp (show c ∈ dig i.toNat ++ [46] from h) with h | h
    · exact dig_prc _ c h
    · rw [List.mem_singleton.mp h]; decide
  | n, .str z, hp, c, h => by
    rcases List.mem_append.mp (show c ∈ dig z.length ++ 58 :: TL.tl z from h) with h | h
    · exact dig_prc _ c h
    · rcases List.mem_cons.mp h with h | h
      · rw [h]; decide
      · have hp : prn z = true := hp
        unfold prn at hp
        exact List.all_eq_true.mp hp c h
  | 0, .tup ts, hp, c, h => by cases hp
  | n + 1, .tup ts, hp, c, h => by
    rcases List.mem_cons.mp (show c ∈ 91 :: (txts ts ++ [93]) from h) with h | h
    · rw [h]; decide
    · rcases List.mem_append.mp h with h | h
      · exact txts_prc n ts hp c h
      · rw [List.mem_singleton.mp h]; decide
  | _, .oth _, hp, _, _ => by cases hp
theorem txts_prc : ∀ (n : Nat) (ts : List Tr), pls n ts = true → ∀ c ∈ txts ts, prc c = true
  | _, [], _, c, h => by cases h
  | n, t :: ts, hp, c, h => by
    have hp : (pl n t && pls n ts) = true := hp
    rw [Bool.and_eq_true] at hp
    rcases List.mem_append.mp (show c ∈ txt t ++ txts ts from h) with h | h
    · exact txt_prc n t hp.1 c h
    · exact txts_prc n ts hp.2 c h
end
theorem txt_prn {n : Nat} {t : Tr} (h : pl n t = true) : prn ⟨(txt t).toArray⟩ = true := by
  unfold prn
  exact List.all_eq_true.mpr fun c hc => txt_prc n t h c (by simpa using hc)
end SC

namespace SC
open PySem L2 PyProof.Rows
theorem hexF (n : Nat) : PyProof.Rows.intField' { align := 62, type := some 120 } false [] ((Nat.toDigits 16 n).map fun c => (if (120 : Nat) == 88 then c.toUpper else c).toNat) [] 4 = ⟨((Nat.toDigits 16 n).map Char.toNat).toArray⟩ := by
  have e : ((Nat.toDigits 16 n).map fun c => (if (120 : Nat) == 88 then c.toUpper else c).toNat) = (Nat.toDigits 16 n).map Char.toNat := by
    apply List.map_congr_left
    intro c _
    rw [if_neg (by decide)]
  rw [e]
  unfold PyProof.Rows.intField'
  have hd : ((Nat.toDigits 16 n).map Char.toNat).isEmpty = false := by
    have := tDigits_len_ge 16 n
    cases h : Nat.toDigits 16 n with
    | nil => rw [h] at this; simp at this
    | cons _ _ => rfl
  generalize (Nat.toDigits 16 n).map Char.toNat = ds at hd ⊢
  simp [hd]
open PySem.W PySem.Calls Builtin Builtin.Str Builtin.Int Builtin.Float in
theorem fld_hex {prog : Program} {w : World} {A : Around} {E : Value → Shared → Prop} {s : Shared} {t : Tok} {n : Nat} {Q : Value → Shared → Prop} (hn : (Nat.toDigits 16 n).length ≤ 1000)
    (h : ∀ t' k, Q (.str ⟨((Nat.toDigits 16 n).map Char.toNat).toArray⟩ t') { s with toks := k }) : wpAny (model prog w) A (formatField (.int (n : Int) t) (PySem.Str.ofString "x")) Q E s := by
  refine PySem.W.KXf.field_int rfl (by decide) (by decide) ?_ h
  intro u
  apply PySem.W.KPc.meets_of
  intro p1 w1 A1 s1 Q1 E1 h1
  unfold Builtin.«int.__format__»
  have hne : ((Str.ofString "x").length == 0) = false := by decide
  have hasc : (((Str.ofString "x").cps.toList.drop 1).any (· ≥ 128) || ((Str.ofString "x").cps.getD 0 0 ≥ 128 && !([60, 62, 61, 94] : List Nat).contains ((Str.ofString "x").cps.getD 1 0))) = false := by decide
  simp only [selfAndOne, noKeywords, Int.intOfSelf, asInt?, asStr?, List.isEmpty_nil, if_true, pure_bind, bind_pure, bind_assoc, hne, hasc, Bool.false_eq_true, if_false,
    show (Value.str (Str.ofString "x") u == Value.none) = false from rfl]
  refine wpAny_bind (wpAny_typeNameOf (T := "str") (typeIs_str _ _ _) (by decide) fun _ => ?_)
  refine wpAny_bind (wpAny_typeNameOfCut_int ?_)
  have hp : parseFormatSpec (Str.ofString "x").cps.toList "int" 62 = .ok { align := 62, type := some 120 } := by rfl
  simp only [hp]
  rw [if_pos (show _ = true by decide)]
  conv => arg 3; whnf
  refine PySem.W.KXf.ret_text (T := ⟨((Nat.toDigits 16 n).map Char.toNat).toArray⟩) ?_ ?_ h1
  · show PyProof.Rows.intField' { align := 62, type := some 120 } (decide ((n : Int) < 0)) [] ((Nat.toDigits 16 ((n : Int)).natAbs).map fun c => (if (120 : Nat) == 88 then c.toUpper else c).toNat) [] 4 = _
    rw [decide_eq_false (by omega), Int.natAbs_natCast]
    exact hexF n
  · show (PyProof.Rows.intField' { align := 62, type := some 120 } (decide ((n : Int) < 0)) [] ((Nat.toDigits 16 ((n : Int)).natAbs).map fun c => (if (120 : Nat) == 88 then c.toUpper else c).toNat) [] 4).length ≤ sizeLine
    rw [decide_eq_false (by omega), Int.natAbs_natCast, hexF n]
    show ((Nat.toDigits 16 n).map Char.toNat).toArray.size ≤ _
    rw [List.size_toArray, List.length_map, sizeLine_eq]
    omega
section
variable {X : Cx}
/-- {n:x} of an int from 0 on -/
def tFmtX (te : TE) : TE := fun σ H Q => te σ H fun x H1 => ∃ n : Nat, x = .int (n : Int) ∧ (Nat.toDigits 16 n).length ≤ 1000 ∧ Q (.str ⟨((Nat.toDigits 16 n).map Char.toNat).toArray⟩) H1
theorem pe_fmtX {e : Expr} {te : TE} {j : Nat} {p1 p2 p3 : Pos} (he : PE X e te) : PE X (.FormattedValue e (-1) (some (.JoinedStr [.Constant (.str "x") j p1] p2)) p3) (tFmtX te) := by
  refine ⟨fun pins s σ H Q I h => ?_⟩
  refine wpAny_FormattedValue_spec (thn (he.run pins s σ H _ I h) fun v s1 hv => ?_)
  obtain ⟨x, H1, I1, r1, n, rfl, hz, q⟩ := hv
  obtain ⟨t, rfl⟩ := r1
  refine thn ((pe_joined1 pe_str).run pins s1 σ H1 (fun y H2 => H2 = H1 ∧ y = .str "x") I1 ⟨rfl, rfl⟩) fun r s2 hr => ?_
  obtain ⟨y, H2, I2, r2, rfl, rfl⟩ := hr
  obtain ⟨t2, rfl⟩ := r2
  exact ⟨_, t2, rfl, fld_hex hz fun t' k => ⟨.str _, H2, I2.tok _, ⟨_, rfl⟩, q⟩⟩
end
/-- a module's constant, its token left open -/
theorem pe_cE {X : Cx} {x : Str} {n : Int} {p : Pos} (h : ∃ t, X.mg x = some (.int n t)) (hg : Gl X x := by rfl) (hd : (x == ("__debug__" : Str)) = false := by decide) : PE X (.Name x p) (tC (.int n)) :=
  let ⟨t, h⟩ := h
  pe_glob (v := .int n) hg h ⟨t, rfl⟩ hd
theorem pe_cSE {X : Cx} {x : Str} {n : Str} {p : Pos} (h : ∃ t, X.mg x = some (.str n t)) (hg : Gl X x := by rfl) (hd : (x == ("__debug__" : Str)) = false := by decide) : PE X (.Name x p) (tC (.str n)) :=
  let ⟨t, h⟩ := h
  pe_glob (v := .str n) hg h ⟨t, rfl⟩ hd

/-! the digest: a number, its 18 hexadecimal signs -/
def dgD : Nat := 2361183241434822606617
def dgF (n c : Nat) : Nat := (n * 65599 + c) % dgD
def rawF (n c : Nat) : Nat := n * 65599 + c
def dgN (cs : List Nat) : Nat := cs.foldl dgF (cs.length + 1)
def rawN (cs : List Nat) : Nat := cs.foldl rawF (cs.length + 1)
theorem fold_mod : ∀ (cs : List Nat) (a b : Nat), a % dgD = b % dgD → (cs.foldl dgF a) % dgD = (cs.foldl rawF b) % dgD
  | [], a, b, h => h
  | c :: cs, a, b, h => by
    rw [List.foldl_cons, List.foldl_cons]
    refine fold_mod cs _ _ ?_
    unfold dgF rawF
    rw [Nat.mod_mod, Nat.add_mod, Nat.mul_mod, h, ← Nat.mul_mod, ← Nat.add_mod]
theorem fold_lt : ∀ (cs : List Nat) (a : Nat), a < dgD → cs.foldl dgF a < dgD
  | [], a, h => h
  | c :: cs, a, h => by
    rw [List.foldl_cons]
    exact fold_lt cs _ (Nat.mod_lt _ (by decide))
theorem dgN_lt (cs : List Nat) : dgN cs < dgD := by
  cases cs with
  | nil => decide
  | cons c cs => exact fold_lt cs _ (Nat.mod_lt _ (by decide))
theorem dgN_raw (cs : List Nat) : rawN cs % dgD = dgN cs := by
  have h := fold_mod cs (cs.length + 1) (cs.length + 1) rfl
  rw [show (cs.foldl dgF (cs.length + 1)) % dgD = cs.foldl dgF (cs.length + 1) from Nat.mod_eq_of_lt (dgN_lt cs)] at h
  exact h.symm
/-- the place of a sign among the sixteen -/
def hxI (c : Nat) : Nat := if c ≤ 57 then c - 48 else c - 87
def hxs : List Nat := [48, 49, 50, 51, 52, 53, 54, 55, 56, 57, 97, 98, 99, 100, 101, 102]
def hxV (l : List Nat) : Nat := l.foldl (fun a c => a * 16 + hxI c) 0
def hxT (n : Nat) : List Nat := (Nat.toDigits 16 n).map Char.toNat
def hx18 (n : Nat) : List Nat := List.replicate (18 - (hxT n).length) 48 ++ hxT n
theorem hx_digit : ∀ d : Nat, d < 16 → hxI (Nat.digitChar d).toNat = d ∧ (Nat.digitChar d).toNat ∈ hxs := by decide
theorem hxT_snoc {m : Nat} (h : ¬ m < 16) : hxT m = hxT (m / 16) ++ [(Nat.digitChar (m % 16)).toNat] := by
  have hm : m % 16 < 16 := Nat.mod_lt m (by decide)
  have t : Nat.toDigits 16 (m / 16) ++ Nat.toDigits 16 (m % 16) = Nat.toDigits 16 (16 * (m / 16) + m % 16) := Nat.toDigits_append_toDigits (by decide) (by omega) hm
  rw [Nat.div_add_mod] at t
  unfold hxT
  rw [← t, List.map_append, Nat.toDigits_of_lt_base hm]
  rfl
theorem hxT_one {m : Nat} (h : m < 16) : hxT m = [(Nat.digitChar m).toNat] := by
  unfold hxT
  rw [Nat.toDigits_of_lt_base h]; rfl
theorem hxV_snoc (l : List Nat) (c : Nat) : hxV (l ++ [c]) = hxV l * 16 + hxI c := by unfold hxV; rw [List.foldl_append]; rfl
theorem hxT_val (m : Nat) : hxV (hxT m) = m := by
  induction m using Nat.strongRecOn with
  | _ m ih =>
    by_cases h : m < 16
    · rw [hxT_one h]
      have e := (hx_digit m h).1
      show 0 * 16 + hxI _ = m
      omega
    · rw [hxT_snoc h, hxV_snoc, ih (m / 16) (by omega), (hx_digit (m % 16) (Nat.mod_lt m (by decide))).1]
      omega
theorem hxT_in (m : Nat) : ∀ c ∈ hxT m, c ∈ hxs := by
  induction m using Nat.strongRecOn with
  | _ m ih =>
    by_cases h : m < 16
    · rw [hxT_one h]
      intro c hc
      rw [List.mem_singleton.mp hc]
      exact (hx_digit m h).2
    · rw [hxT_snoc h]
      intro c hc
      rcases List.mem_append.mp hc with hc | hc
      · exact ih (m / 16) (by omega) c hc
      · rw [List.mem_singleton.mp hc]
        exact (hx_digit (m % 16) (Nat.mod_lt m (by decide))).2
theorem hxT_len {n : Nat} (h : n < dgD) : (hxT n).length ≤ 18 := by
  unfold hxT
  rw [List.length_map]
  exact PySem.StrLaws.toDigits_len (by decide) (Nat.lt_trans h (by decide))
theorem hx18_len {n : Nat} (h : n < dgD) : (hx18 n).length = 18 := by
  unfold hx18
  rw [List.length_append, List.length_replicate]
  have := hxT_len h
  omega
theorem hx18_in (n : Nat) : ∀ c ∈ hx18 n, c ∈ hxs := by
  intro c hc
  rcases List.mem_append.mp hc with hc | hc
  · rw [List.eq_of_mem_replicate hc]; decide
  · exact hxT_in n c hc
theorem hxV_rep : ∀ (k : Nat) (l : List Nat), (List.replicate k 48 ++ l).foldl (fun a c => a * 16 + hxI c) 0 = l.foldl (fun a c => a * 16 + hxI c) 0
  | 0, l => rfl
  | k + 1, l => by rw [List.replicate_succ, List.cons_append, List.foldl_cons]; exact hxV_rep k l
theorem hx18_val (n : Nat) : hxV (hx18 n) = n := by
  unfold hx18 hxV
  rw [hxV_rep]
  exact hxT_val n
theorem hx18_inj {a b : Nat} (h : hx18 a = hx18 b) : a = b := by rw [← hx18_val a, ← hx18_val b, h]
/-- the digest of a text -/
def dgs (z : Str) : Str := ⟨(hx18 (dgN z.cps.toList)).toArray⟩
theorem dgs_len (z : Str) : (dgs z).length = 18 := by
  show (hx18 _).toArray.size = 18
  rw [List.size_toArray]
  exact hx18_len (dgN_lt _)
theorem dgs_inj {x y : Str} (h : dgs x = dgs y) : dgN x.cps.toList = dgN y.cps.toList := hx18_inj (by
  have := congrArg (fun z : Str => z.cps.toList) h
  simpa [dgs] using this)
theorem zfill_hx {n : Nat} (h : n < dgD) : PySem.Txt.zfill ⟨(hxT n).toArray⟩ 18 = ⟨(hx18 n).toArray⟩ := by
  have hl := hxT_len h
  unfold PySem.Txt.zfill
  have el : (⟨(hxT n).toArray⟩ : Str).length = (hxT n).length := by show (hxT n).toArray.size = _; rw [List.size_toArray]
  rw [el]
  split
  · have e : (hxT n).length = 18 := by omega
    unfold hx18
    rw [e]; rfl
  · have ne : ∀ c ∈ hxT n, c ≠ 43 ∧ c ≠ 45 := fun c hc => by
      have := hxT_in n c hc
      simp only [hxs, List.mem_cons, List.not_mem_nil, or_false] at this
      omega
    have e1 : zfilled ⟨(hxT n).toArray⟩ ((18 : Int).toNat - (hxT n).length) = Builtin.Str.padded ⟨(hxT n).toArray⟩ ((18 : Int).toNat - (hxT n).length) 0 48 := by
      unfold zfilled
      split
      · rename_i q; rw [List.getElem?_toArray] at q; exact absurd rfl (ne _ (List.mem_of_getElem? q)).1
      · rename_i q; rw [List.getElem?_toArray] at q; exact absurd rfl (ne _ (List.mem_of_getElem? q)).2
      · rfl
    rw [e1]
    unfold Builtin.Str.padded hx18
    simp [List.toArray_replicate]
end SC

/-! z[::-1] of a text -/
namespace SC
open PySem PySem.Spec PyProof.Rows L2
def revS (z : Str) : Str := ⟨z.cps.toList.reverse.toArray⟩
def tRevS (te : TE) : TE := fun σ H Q => te σ H fun x H1 => ∃ z, x = .str z ∧ z.length ≤ sizeLine ∧ Q (.str (revS z)) H1
theorem revS_pick (z : Str) : (⟨((Builtin.Str.strSliceIndices none none (-1) z.length).filterMap (z.cps[·]?)).toArray⟩ : Str) = revS z := by
  have e : Builtin.Str.strSliceIndices none none (-1) z.length = sliceRange ((z.length : Int) - 1) (-1) (-1) := by
    unfold Builtin.Str.strSliceIndices
    simp
  unfold revS
  rw [e, PySem.W.krv_sliceRange, PySem.W.krv_range, List.filterMap_reverse]
  congr 2
  congr 1
  exact PySem.W.krv_all z.cps
theorem pe_revS {X : Cx} {e : Expr} {te : TE} {k : Nat} {p1 p2 p3 pos : Pos} (he : PE X e te) : PE X (.Subscript e (.Slice none none (some (.UnaryOp .USub (.Constant (.int 1) k p1) p2)) p3) pos) (tRevS te) := by
  refine ⟨fun pins s σ H Q I h => ?_⟩
  refine Subscript_ (thn (he.run pins s σ H _ I h) fun v s1 ⟨x, H1, I1, r1, q1⟩ => ?_)
  obtain ⟨z, ex, hz, q⟩ := q1
  subst ex
  obtain ⟨t, rfl⟩ := r1
  have hst : PO X (some (.UnaryOp .USub (.Constant (.int 1) k p1) p2)) (tPart (tUn (rU fun i => .int (-i)) (tC (.int 1)))) := po_some (pe_un un_neg pe_int)
  refine wpAny_Slice (thn (po_none.run pins s1 σ H1 (fun o H2 => o = none ∧ H2 = H1) I1 ⟨rfl, rfl⟩) fun vl s2 ⟨l, H2, I2, pl, el, e2⟩ => ?_)
  subst el e2
  refine thn (po_none.run pins s2 σ H2 (fun o H3 => o = none ∧ H3 = H2) I2 ⟨rfl, rfl⟩) fun vu s3 ⟨u, H3, I3, pu, eu, e3⟩ => ?_
  subst eu e3
  refine thn (hst.run pins s3 σ H3 (fun o H4 => o = some (-1) ∧ H4 = H3) I3 ⟨1, rfl, -1, rfl, rfl, rfl⟩) fun vs s4 ⟨o, H4, I4, ps, eo, e4⟩ => ?_
  subst eo e4
  have I5 : Inv X pins σ H4 { s4 with heap := s4.heap.push { cls := .type "slice", data := .fields #[vl, vu, vs] } } := I4.kept (t' := s4.toks) fun b ob q => Heap.get?_push_of_some _ q
  obtain ⟨os, hos, hcs, hds⟩ := Heap.IsSliceOf.new s4.heap vl vu vs
  obtain ⟨l1, rfl, hl1⟩ := IsPart.raw pl
  obtain ⟨u1, rfl, hu1⟩ := IsPart.raw pu
  obtain ⟨w1, rfl, hw1⟩ := IsPart.raw ps
  show wpAny (model X.prog X.w) X.A (subscriptTail e (.Slice none none (some (.UnaryOp .USub (.Constant (.int 1) k p1) p2)) p3) (.str z t) (.ref s4.heap.objs.size)) (EP X pins σ Q) X.xe { s4 with heap := s4.heap.push { cls := .type "slice", data := .fields #[partValue l1, partValue u1, partValue w1] } }
  refine tail_any (ops := [.ref s4.heap.objs.size, .str z t]) (typeIs_str _ _ _) F.slot_str_getitem.lookup ?_ (by with_unfolding_all rfl)
  refine wpAny_getItem_str_slice (l := l1) (u := u1) (st := w1) ⟨os, hos, hcs, hds⟩ (by rw [hw1]; decide) ?_
  unfold sliceMade slicePicked
  rw [hl1, hu1, hw1]
  show Made.post (Made.str ⟨((Builtin.Str.strSliceIndices none none (-1) z.length).filterMap (z.cps[·]?)).toArray⟩) (EP X pins σ Q) _
  rw [revS_pick]
  refine ⟨?_, .str _, H4, I5.tok _, ⟨_, rfl⟩, q⟩
  show (z.cps.toList.reverse.toArray).size ≤ sizeLine
  rw [List.size_toArray, List.length_reverse, Array.length_toList]
  exact hz
theorem Blt.range2 {X : Cx} {t : TA} {p pos : Pos} {e e2 : Expr} (B : Blt X.mg) {tg : Expr} (ha : PA X [e, e2] t) (hg : Gl X "range" := by rfl) (hs : starEach [e, e2] X.env = [(false, eval e X.env), (false, eval e2 X.env)] := by rfl) (hs2 : starEach [e2] X.env = [(false, eval e2 X.env)] := by rfl) :
    PI X tg (.Call (.Name "range" p) [e, e2] [] pos) (iRng2 t) := pi_range2 hg B.range ha hs hs2
theorem cut_to (z : Str) (k : Nat) : TL.tl (cutS z none (some (k : Int))) = (TL.tl z).take k := by
  show (z.cps.toList.drop (HT.sIx z.length 0 none)).take (HT.sIx z.length z.length (some (k : Int)) - HT.sIx z.length 0 none) = _
  rw [HT.sIx_nat, HT.sIx_none, List.drop_zero, Nat.sub_zero]
  have : z.cps.toList.length = z.length := Array.length_toList
  show z.cps.toList.take (min k z.length) = z.cps.toList.take k
  rw [← this, ← List.take_eq_take_min]
theorem cut_from (z : Str) (k : Nat) : TL.tl (cutS z (some (k : Int)) none) = (TL.tl z).drop k := by
  show (z.cps.toList.drop (HT.sIx z.length 0 (some (k : Int)))).take (HT.sIx z.length z.length none - HT.sIx z.length 0 (some (k : Int))) = _
  rw [HT.sIx_nat, HT.sIx_none]
  have e : z.cps.toList.length = z.length := Array.length_toList
  rw [List.take_of_length_le (by rw [List.length_drop, e]; omega)]
  show z.cps.toList.drop (min k z.length) = z.cps.toList.drop k
  by_cases h : k ≤ z.length
  · rw [Nat.min_eq_left h]
  · rw [Nat.min_eq_right (by omega), List.drop_eq_nil_of_le (by omega), List.drop_eq_nil_of_le (by omega)]
end SC

/-! all(test for mark in text), the test one that reads a captured text of the def around -/
namespace SC
open PySem PySem.Spec PyProof.Rows L2
open GxR (TabB TabG Tabbed Ready GenS keeps_tok trF trF_some all_signs inv_tab sh_eta)
/-- the element: a test of the sign c and of the text z that the def around keeps in a cell under the name y -/
def EltC (prog : Program) (w : World) (mg : Str → Option Value) (scope : Scope) (x y : Str) (elt : Expr) (pf : Str → Nat → Bool) : Prop :=
  ∀ (ce : Env) (A' : Around) (E' : Value → Shared → Prop) (c : Nat) (t : Tok) (s2 : Shared) (m2 : Str → Option Value) (z : Str) (tz : Tok) (cy : Addr), ce.scope = scope → ce.globals = mainGlobals → ce.builtins = builtinsNs → Names2 s2.heap mg →
    s2.heap.Ns ce.locals m2 → m2 x = some (.str ⟨#[c]⟩ t) → ce.cells.lookup y = some cy → s2.heap.IsCell cy (some (.str z tz)) → wpAny (model prog w) A' (eval elt ce) (fun v s3 => v = .bool (pf z c) ∧ Keeps s2 s3) E' s2
/-- the generator's scope: what can be read off it -/
structure GenS0 (scope : Scope) (x : Str) : Prop where
  kind : scope.kind = .function
  co : scope.isCoroutine = false
  cell : ∀ y ∈ scope.names, y.2 ≠ .cell
  dot : scope.names.lookup (".0" : Str) = some NameKind.local
  loc : scope.names.lookup x = some .local
theorem gs0Of {scope : Scope} {x : Str} (h : (match scope.kind with | .function => true | _ => false) && !scope.isCoroutine && (scope.names.all fun y => match y.2 with | .cell => false | _ => true) && (match scope.names.lookup (".0" : Str) with | some .local => true | _ => false) = true)
    (hx : (match scope.names.lookup x with | some .local => true | _ => false) = true) : GenS0 scope x := by
  simp only [Bool.and_eq_true, List.all_eq_true] at h
  obtain ⟨⟨⟨h1, h2⟩, h3⟩, h4⟩ := h
  refine ⟨?_, by simpa using h2, fun y hy e => ?_, ?_, ?_⟩
  · split at h1
    · assumption
    · cases h1
  · have := h3 y hy; rw [e] at this; cases this
  · split at h4
    · assumption
    · cases h4
  · split at hx
    · assumption
    · cases hx
/-- what the generator captures, the def around has -/
def freeOk (scope sc : Scope) : Bool := scope.names.all fun y => match y.2 with
  | .free => (match sc.names.lookup y.1 with | some .cell => true | some .free => true | _ => false)
  | _ => true
theorem GenS0.all {X : Cx} {scope : Scope} {x : Str} (S : GenS0 scope x) (ok : X.Ok) (h : freeOk scope X.env.scope = true) : GenS X.env scope x := by
  refine ⟨S.kind, S.co, S.cell, S.dot, S.loc, fun y hy hf => ok.has y.1 ?_⟩
  unfold freeOk at h
  rw [List.all_eq_true] at h
  have := h y hy
  rw [hf] at this
  simp only at this
  split at this
  · rename_i e; exact .inl e
  · rename_i e; exact .inr e
  · cases this
section
variable {X : Cx} {pins : List (Addr × Obj)} {σ : L2.St} {H : Hp} {s : Shared}
theorem gen_mkC {y : Str} {iy : Nat} {z : Str} {c P : Addr} {elt iter : Expr} {x : Str} {px gpos : Pos} {scope : Scope} {pf : Str → Nat → Bool} {te : TE} {k : Nat} {Q' : Value → Shared → Prop} {R : Str → Hp → Prop}
    (hr : Room k X.A) (TB : TabB X.base X.mg c P) (hcode : X.env.code = .ref c) (S : GenS X.env scope x) (hi : PE X iter te) (hel : EltC X.prog X.w X.mg scope x y elt pf)
    (hN : X.N[iy]? = some y) (hky : X.env.kindOf y = some .cell) (hcl : ∀ cs : List (Str × Addr), (cloFrom cs scope.names []).lookup y = some ((cs.lookup y).getD 0)) (hσ : σ[iy]? = some (some (.str z)))
    (hs : ∀ v, genFold iter X.env v = pure v) (I : Inv X pins σ H s) (h : te σ H fun v H1 => ∃ a : Str, v = .str a ∧ TabG H1 P ∧ R a H1)
    (hQ : ∀ a H1 g s5, R a H1 → Ready X pins σ H1 P a (pf z) g s5 → Q' (.ref g) s5) :
    wpAny (model X.prog X.w) X.A (eval (.GeneratorExp elt [⟨.Name x px, iter, [], 0⟩] scope gpos) X.env) Q' X.xe s := by
  refine wpAny_GeneratorExp_walksQ hr.hd S.co (closure_ok S.free) S.cell S.dot S.loc S.kind (by have := hr.dp; omega) ?_ hs
  refine thn (hi.run pins s σ H _ I h) fun xv t1 ⟨v, H1, J, rv, a, ev, ⟨ps, hP, htr⟩, hR⟩ => ?_
  subst ev
  obtain ⟨tk1, rfl⟩ := rv
  obtain ⟨ml, hnl, hll⟩ := J.loc
  obtain ⟨uy, ruy, lky⟩ := hll iy y (.str z) hN hσ (.inr (.inl hky))
  obtain ⟨tz, rfl⟩ := ruy
  obtain ⟨cy, hcy, hic⟩ : ∃ cy, X.env.cells.lookup y = some cy ∧ t1.heap.IsCell cy (some (.str z tz)) := by
    rcases lky with ⟨hk2, _⟩ | ⟨_, cy, h1, h2⟩
    · rw [hky] at hk2; cases hk2
    · exact ⟨cy, h1, h2⟩
  refine wpAny_pyIter_str fun o St W hst => ?_
  have hPs : t1.heap.get? P = some { cls := .none, data := .fields ps } := J.hok P _ hP
  have hPlt := Heap.lt_size hPs
  have up : ∀ b u, t1.heap.get? b = some u → (t1.heap.push o).get? b = some u := fun b u e => Heap.get?_push_of_some _ e
  have cd : PySem.W.CodeHd (t1.heap.push o) c P := TB.code.keeps fun b u e => up b u (J.bk b u e)
  have lim : (t1.heap.push o).NoLimit := J.nolimit.push o
  have hclt : cStatics < t1.heap.objs.size := let ⟨_, hn, _⟩ := J.nolimit; hn.lt
  have hsz1 : (t1.heap.push o).objs.size = t1.heap.objs.size + 1 := Heap.size_push ..
  refine ⟨lim, ?_⟩
  have go : ∀ (code : Value) (h3 : Heap) (tk : Nat) (qs : Array Value), Heap.ExtBut P (t1.heap.push o) h3 → (t1.heap.push o).objs.size ≤ h3.objs.size → h3.get? P = some { cls := .none, data := .fields qs } →
      (∃ more, qs = ps ++ more) → TriplesOk qs.toList →
      wpAny (model X.prog X.w) X.A (builtinsFor X.env.globals X.env.builtins) (fun bi s4 =>
        ∃ Ia fp wr n0 Pf St0 pz F, Value.ref t1.heap.objs.size = .ref Ia ∧ (∀ A' : Around, A'.handled = none → Walks X.prog X.w A' Ia fp wr n0 Pf St0) ∧ St0 0 s4.heap ∧ (∀ b ∈ fp, b < s4.heap.objs.size) ∧ s4.heap.NoLimit ∧ cStatics ∉ wr ∧
          (∀ href : Heap, (∀ b o, s4.heap.get? b = some o → href.get? b = some o) →
            QuietGen X.prog X.w (genEnv scope (cloFrom X.env.cells scope.names []) s4.heap.objs.size code bi X.env) x [] elt (List.range s4.heap.objs.size) wr Pf pz F href) ∧
          (∀ g h5 tk5 gs, gs.bare = true → s4.heap.objs.size < g → h5.objs.size = g + 1 → (∀ b o, s4.heap.get? b = some o → h5.get? b = some o) →
            WalksS X.prog X.w X.A.in4 g (g :: s4.heap.objs.size :: List.range s4.heap.objs.size) (s4.heap.objs.size :: wr) (GenOnlyQ s4.gens.size) (passing pz n0 0).length
              (fun j y => ∃ i, (passing pz n0 0)[j]? = some i ∧ F i y) (GenAt X.prog X.w X.A.in4 g s4.gens.size s4.heap.objs.size (List.range s4.heap.objs.size) wr pz n0 F) →
            GenAt X.prog X.w X.A.in4 g s4.gens.size s4.heap.objs.size (List.range s4.heap.objs.size) wr pz n0 F 0 { s4 with gens := s4.gens.push gs, toks := tk5, heap := h5 } →
            Q' (.ref g) { s4 with gens := s4.gens.push gs, toks := tk5, heap := h5 })) X.xe { t1 with heap := h3, toks := tk } := by
    intro code h3 tk qs hx hsz hP3 hmore htq
    obtain ⟨bm, ob, e1, e2, e3, e4, e5, e6, e7, e8⟩ := TB.bm
    have ncP : cStatics ≠ P := fun e => by
      obtain ⟨_, hns, _⟩ := J.nolimit
      obtain ⟨o', es, ep, ho, hd, _⟩ := hns
      rw [e, hPs] at ho
      cases ho; cases hd
    have nbP : (builtinsNs : Addr) ≠ P := fun e => by
      obtain ⟨mb, hns, _⟩ := J.mod.blt
      obtain ⟨o', es, ep, ho, hd, _⟩ := hns
      have ho := J.bk _ _ ho
      rw [e, hPs] at ho
      cases ho; cases hd
    have k3 : ∀ b u, b ≠ P → t1.heap.get? b = some u → h3.get? b = some u := fun b u hb e => hx b u hb (up b u e)
    refine wpAny_builtinsFor (m := X.mg) (by rw [J.ok.glob]; exact ((J.mod.glob.keeps J.bk).push o).extBut hx TB.gP) e1 e2 (k3 _ _ e4 (J.bk _ _ e5)) e6 e7 e8 ?_
    refine ⟨t1.heap.objs.size, [t1.heap.objs.size], [t1.heap.objs.size], a.cps.size, SignAt a, St, (fun _ => true), (fun i v => ∃ cc, a.cps[i]? = some cc ∧ v = .bool (pf z cc)), rfl, W, ?_, ?_, lim.extBut hx ncP, ?_, ?_, ?_⟩
    · refine (W X.A hr.hd).frame _ _ _ hst fun b hb u e => hx b u (fun z => ?_) e
      rcases List.mem_cons.mp hb with y | y
      · exact Nat.ne_of_lt hPlt (z.symm.trans y)
      · cases y
    · intro b hb
      rcases List.mem_cons.mp hb with z | z
      · rw [z]
        show t1.heap.objs.size < h3.objs.size
        omega
      · cases z
    · intro z
      rcases List.mem_cons.mp z with z | z
      · exact Nat.ne_of_lt hclt z
      · cases z
    · intro href hh
      refine ⟨fun A' E' i v s2 m2 hA hv hn hm hk => ?_, fun A' E' i v s2 m2 hA hv hp hn hm hk => ?_⟩
      · simp only [List.forIn_nil]
        exact wpAny_pure ⟨rfl, GxR.keeps_refl _⟩
      · obtain ⟨cc, u, hcc, rfl⟩ := hv
        have old : ∀ L, L ≠ P → ∀ q, X.base.get? L = some q → s2.heap.get? L = some q := fun L nL q e => by
          have e1 := J.bk _ _ e
          have l1 := Heap.lt_size e1
          have e2 := k3 L q nL e1
          refine hk L (List.mem_range.mpr (Heap.lt_size e2)) (fun z => ?_) q (hh L q e2)
          rcases List.mem_cons.mp z with z | z
          · rw [z] at l1; exact Nat.lt_irrefl _ l1
          · cases z
        have nm : Names2 s2.heap X.mg := ⟨J.mod.glob.at (old mainGlobals TB.gP), let ⟨mb, q1, q2⟩ := J.mod.blt; ⟨mb, q1.at (old builtinsNs nbP), q2⟩⟩
        have ncyP : cy ≠ P := fun e => by
          obtain ⟨oc, ho, hd⟩ := hic
          rw [e, hPs] at ho
          cases ho; cases hd
        have cy2 : s2.heap.IsCell cy (some (.str z tz)) := by
          obtain ⟨oc, ho, hd⟩ := hic
          have l1 := Heap.lt_size ho
          have e2 := k3 cy oc ncyP ho
          refine ⟨oc, hk cy (List.mem_range.mpr (Heap.lt_size e2)) (fun z => ?_) oc (hh cy oc e2), hd⟩
          rcases List.mem_cons.mp z with z | z
          · rw [z] at l1; exact Nat.lt_irrefl _ l1
          · cases z
        have hcy2 : (cloFrom X.env.cells scope.names []).lookup y = some cy := by rw [hcl, hcy]; rfl
        exact wpAny_mono (hel (genEnv scope (cloFrom X.env.cells scope.names []) h3.objs.size code builtinsNs X.env) A' E' cc u s2 m2 z tz cy rfl J.ok.glob rfl nm hn hm hcy2 cy2) (fun y s3 r => ⟨⟨cc, hcc, r.1⟩, r.2⟩) fun _ _ e => e
    · intro g h5 tk5 gs hgb hag hsz5 hk5 W5 hat
      simp only [GxR.passing_true, List.length_range] at W5
      refine hQ a H1 g _ hR ⟨_, _, _, _, _, W5.in4_1, hat, ?_, fun s' hm => ?_⟩
      · intro j y sj Qj Ej hy hQj
        obtain ⟨i, hij, cc, hcc, rfl⟩ := hy
        obtain ⟨hj, ej⟩ := List.getElem?_eq_some_iff.mp hij
        rw [List.getElem_range] at ej
        subst ej
        have e9 : a.cps.toList[j]? = some cc := by rw [Array.getElem?_toList]; exact hcc
        have hQ2 : Qj (trF (pf z) a.cps.toList j) sj := hQj
        rw [trF_some e9] at hQ2
        exact wpAny_truthy_bool hQ2
      · obtain ⟨more, em⟩ := hmore
        have nwr : ∀ b u, t1.heap.get? b = some u → b ∉ h3.objs.size :: [t1.heap.objs.size] := fun b u e hb => by
          have hl : b < t1.heap.objs.size := Heap.lt_size e
          rcases List.mem_cons.mp hb with z | z
          · rw [z] at hl
            exact absurd hl (Nat.not_lt.mpr (show t1.heap.objs.size ≤ h3.objs.size by omega))
          · rcases List.mem_cons.mp z with z | z
            · rw [z] at hl
              exact Nat.lt_irrefl _ hl
            · cases z
        have J2 := inv_tab (more := more) (h' := s'.heap) (g' := s'.gens) (d' := s'.drawn) (t' := s'.toks) J hP (fun b u hb e => hm.heap b u (nwr b u e) (hk5 b u (k3 b u hb e)))
          (by rw [← em]; exact hm.heap P _ (nwr P _ hPs) (hk5 P _ hP3)) (AllBare.movedS (J.bare.push hgb) hm)
        rw [sh_eta t1 s' hm.os] at J2
        refine ⟨upd H1 P (.tbl (ps ++ more)), ⟨⟨ps ++ more, upd_same, by rw [← em]; exact htq⟩, fun b hb => upd_ne hb⟩, J2⟩
  cases hf : codeAmong gpos ps.toList with
  | none =>
    refine wpAny_genexprCodeX hcode (cd.code (up _ _ hPs) htr) (cd.tab (up _ _ hPs)) hf fun c' h' tk hx hge hlt hco' _ htab' _ => ?_
    obtain ⟨o1, vs, f1, tf, fl, tg, inF, tx, tt, op, _, _, _, _, _, _, _, _, _, hz, _⟩ := hco'
    exact go _ h' tk _ hx (Nat.le_trans hge (Nat.le_of_lt hlt)) htab'.2 ⟨_, rfl⟩ hz
  | some cv =>
    refine wpAny_genexprCode_hit hcode (cd.code (up _ _ hPs) htr) hf ?_
    exact go cv (t1.heap.push o) t1.toks ps (Heap.ExtBut.refl _ _) (Nat.le_refl _) (up _ _ hPs) ⟨#[], by simp⟩ htr

/-- all(test for x in e), the test one of the sign and of the text at the slot iy -/
def tAllC (P : Addr) (iy : Nat) (pf : Str → Nat → Bool) (te : TE) : TE := fun σ H Q => ∃ z, σ[iy]? = some (some (.str z)) ∧ te σ H fun v H1 => ∃ a : Str, v = .str a ∧ TabG H1 P ∧ ∀ H2, Tabbed P H1 H2 → Q (.bl (a.cps.toList.all (pf z))) H2
theorem pe_allC {y : Str} {iy : Nat} {c P : Addr} {elt iter : Expr} {x : Str} {px p pos gpos : Pos} {scope : Scope} {pf : Str → Nat → Bool} {te : TE} {k : Nat}
    (hr : Room k X.A) (B : Blt X.mg) (TB : TabB X.base X.mg c P) (hcode : X.env.code = .ref c) (S : GenS0 scope x) (hfr : freeOk scope X.env.scope = true) (hi : PE X iter te) (hel : EltC X.prog X.w X.mg scope x y elt pf)
    (hN : X.N[iy]? = some y) (hky : X.env.kindOf y = some .cell) (hcl : ∀ cs : List (Str × Addr), (cloFrom cs scope.names []).lookup y = some ((cs.lookup y).getD 0))
    (hs : ∀ v, genFold iter X.env v = pure v) (hg : Gl X "all" := by rfl)
    (he : starEach [.GeneratorExp elt [⟨.Name x px, iter, [], 0⟩] scope gpos] X.env = (false, eval (.GeneratorExp elt [⟨.Name x px, iter, [], 0⟩] scope gpos) X.env) :: starEach [] X.env := by rfl) :
    PE X (.Call (.Name "all" p) [.GeneratorExp elt [⟨.Name x px, iter, [], 0⟩] scope gpos] [] pos) (tAllC P iy pf te) := by
  refine ⟨fun pins s σ H Q I h => ?_⟩
  obtain ⟨z, hσ, h⟩ := h
  refine wpAny_Call_Name_kw (ld_blt I hg B.all (show bootBuiltins "all" = some (.builtin "all") by decide +kernel) ?_)
  refine PyProof.Rows.callWith_builtin1 ?_ he (by rfl)
  rw [he]
  show wpAny _ _ (spliced ((false, eval (.GeneratorExp elt [⟨.Name x px, iter, [], 0⟩] scope gpos) X.env) :: backTo pos (starEach [] X.env))) _ _ s
  refine Calls.spliced_cons (gen_mkC (R := fun a H1 => ∀ H2, Tabbed P H1 H2 → Q (.bl (a.cps.toList.all (pf z))) H2) hr TB hcode (S.all I.ok hfr) hi hel hN hky hcl hσ hs I h fun a H1 g t5 hR hG => ?_)
  obtain ⟨fp, wr, G, F, St, W, hst, htr, hI⟩ := hG
  refine Calls.spliced_nil (call_all_walkS (W.self 0 _ _ _ hst ⟨g, fp, wr, G, _, F, St, _, rfl, W, hst, htr, fun s' hmv => ?_⟩))
  obtain ⟨H2, hT, J⟩ := hI s' hmv
  refine ⟨.bl _, H2, J, rfl, ?_⟩
  rw [all_signs a (pf z)]
  exact hR H2 hT
end

/-- mark in marks -/
theorem elt_in {prog : Program} {w : World} {mg : Str → Option Value} {scope : Scope} {x y : Str} {q1 q2 q3 : Pos}
    (hk : scope.kind = .function) (hl : scope.names.lookup x = some .local) (hy : scope.names.lookup y = some .free) (hd : (x == ("__debug__" : Str)) = false := by decide) (hd2 : (y == ("__debug__" : Str)) = false := by decide) (hcd : (y == ("__classdict__" : Str)) = false := by decide) :
    EltC prog w mg scope x y (.Compare (.Name x q1) [.In] [.Name y q2] q3) (fun z c => decide (c ∈ z.cps.toList)) := by
  intro ce A' E' c t s2 m2 z tz cy hs hg hb nm hn hm hcy hic
  refine wpAny_Compare1 ?_
  refine wpAny_Name (wpAny_loadName_local (by rw [hs]; exact hk) (show ce.scope.names.lookup x = some .local by rw [hs]; exact hl) hn hm ?_) hd
  refine wpAny_Name (wpAny_loadName_free (by rw [hs]; exact hk) (show ce.scope.names.lookup y = some .free by rw [hs]; exact hy) hcy hic ?_ hcd) hd2
  exact PyProof.Rows.in_str ⟨by rw [PySem.StrLaws.found_one z c], keeps_tok _ _⟩
end SC

/-! a generator expression whose element is any expression of the layer (it may call the text's defs), walked by a built-in -/
namespace SC
open PySem PySem.Spec PyProof.Rows L2 GenW
open GxR (TabB TabG Tabbed inv_tab sh_eta)

theorem over_gen {A : Around} {elt : Expr} {gs : List Comprehension} {scope : Scope} {pos : Pos} {it acc : Value} {env : Env} : A.over (.compLoop (.GeneratorExp elt gs scope pos) 0 it acc env) [] = A.deeper env := by
  obtain ⟨hd, d, fr, gd, u⟩ := A
  simp [Around.over, Around.deeper, marksOver, frameCount, unitsOf, envsOf, guardsOf, pushEnvs, pushGuards, Code.envs, Code.env?, Code.isFrame, Code.guards, Code.isGuard, Code.weight, Code.frames, Code.isCreation, Code.isCaller, Code.cUnits]
theorem over_genS {A : Around} {elt : Expr} {gs : List Comprehension} {scope : Scope} {pos : Pos} {it acc : Value} {env : Env} : A.over (.compStart (.GeneratorExp elt gs scope pos) 0 it acc env) [] = A.deeper env := by
  obtain ⟨hd, d, fr, gd, u⟩ := A
  simp [Around.over, Around.deeper, marksOver, frameCount, unitsOf, envsOf, guardsOf, pushEnvs, pushGuards, Code.envs, Code.env?, Code.isFrame, Code.guards, Code.isGuard, Code.weight, Code.frames, Code.isCreation, Code.isCaller, Code.cUnits]
/-- the frame of the generator, run from a built-in that X's body calls -/
def gxC (X : Cx) (N : List Str) (scope : Scope) (C : Addr) (code : Value) (fp : List Addr) (s4 : Shared) (H4 : Hp) : Cx where
  prog := X.prog
  w := X.w
  K := X.K
  mg := X.mg
  base := X.base
  A := X.A.in1.in1.deeper (genEnv scope (cloFrom X.env.cells scope.names []) C code builtinsNs X.env)
  N := N
  s_0 := s4
  H_0 := H4
  env := genEnv scope (cloFrom X.env.cells scope.names []) C code builtinsNs X.env
  outer := X.stack
  stack := genEnv scope (cloFrom X.env.cells scope.names []) C code builtinsNs X.env :: X.stack
  ex := fp
  fn := fun _ => false
  calm := true
  pn := []
  xe := fun _ _ => False
/-- what can be read off the scope -/
structure GnS (scope : Scope) : Prop where
  kind : scope.kind = .function
  co : scope.isCoroutine = false
  cell : ∀ y ∈ scope.names, y.2 ≠ .cell
  dot : scope.names.lookup (".0" : Str) = some NameKind.local
theorem gnOf {scope : Scope} (h : (match scope.kind with | .function => true | _ => false) && !scope.isCoroutine && (scope.names.all fun y => match y.2 with | .cell => false | _ => true) && (match scope.names.lookup (".0" : Str) with | some .local => true | _ => false) = true) : GnS scope := by
  simp only [Bool.and_eq_true, List.all_eq_true] at h
  obtain ⟨⟨⟨h1, h2⟩, h3⟩, h4⟩ := h
  refine ⟨?_, by simpa using h2, fun y hy e => ?_, ?_⟩
  · split at h1
    · assumption
    · cases h1
  · have := h3 y hy; rw [e] at this; cases this
  · split at h4
    · assumption
    · cases h4
/-- the slots behind the target's nt: captured names, with the slots of X that they have -/
def capOk (N : List Str) (nt : Nat) (fr : List Nat) (XN : List Str) (scope sc : Scope) : Bool :=
  decide (N.length = nt + fr.length) && (List.range fr.length).all fun j => match N[nt + j]?, fr[j]? with
    | some y, some i => XN[i]? == some y && (match scope.names.lookup y with | some .free => true | _ => false) && (match sc.names.lookup y with | some .cell => true | some .free => true | _ => false)
    | _, _ => false
def capSt (nt : Nat) (fr : List Nat) (σ : L2.St) : L2.St := List.replicate nt none ++ fr.map fun i => (σ[i]?).getD none
theorem clo_look {cells : List (Str × Addr)} {names : List (Str × NameKind)} {y : Str} (h : (y, NameKind.free) ∈ names) : (cloFrom cells names []).lookup y = some ((cells.lookup y).getD 0) := by
  obtain ⟨c, hc⟩ := mem_lookup (cloFrom_has (cells := cells) (acc := []) h)
  rcases cloFrom_mem (PySem.mem_of_lookup hc) with z | ⟨_, z⟩
  · cases z
  · rw [hc, z]
theorem clo_from {cells : List (Str × Addr)} {names : List (Str × NameKind)} {y : Str} {c : Addr} (h : (cloFrom cells names []).lookup y = some c) : (y, NameKind.free) ∈ names ∧ c = (cells.lookup y).getD 0 := by
  rcases cloFrom_mem (PySem.mem_of_lookup h) with z | z
  · cases z
  · exact z
section
variable {X : Cx} {pins : List (Addr × Obj)} {σ : L2.St} {H : Hp} {s : Shared}
/-- the generator's frame has been laid behind the state s4 -/
theorem gen_start {N : List Str} {nt : Nat} {fr : List Nat} {scope : Scope} {code it : Value} {fp : List Addr} {a : Addr} {go : Obj} {h' : Heap} {s5 : Shared} (hcalm : X.calm = true) (S : GnS scope) (hfr : freeOk scope X.env.scope = true) (hcap : capOk N nt fr X.N scope X.env.scope = true)
    (I : Inv X pins σ H s) (hf : ∀ b ∈ fp, FpOk X pins H b) (hlt : ∀ b ∈ fp, b < s.heap.objs.size) (hn : h'.Ns s.heap.objs.size (fun y => if y = ".0" then some it else none)) (hk : ∀ b o, s.heap.get? b = some o → s5.heap.get? b = some o)
    (hC : ∀ o, h'.get? s.heap.objs.size = some o → s5.heap.get? s.heap.objs.size = some o) (ho : s5.os = s.os) (hg : AllBare s5.gens) (hpa : s5.heap.get? a = some go) (ha : s.heap.objs.size < a) (hgo : ∀ v, go.data ≠ .cell v) :
    Inv (gxC X N scope s.heap.objs.size code fp s H) [(a, go)] (capSt nt fr σ) H s5 := by
  have ok := I.ok
  unfold capOk at hcap
  rw [Bool.and_eq_true, decide_eq_true_eq, List.all_eq_true] at hcap
  obtain ⟨hNl, hcap⟩ := hcap
  have cel : ∀ x c, (cloFrom X.env.cells scope.names []).lookup x = some c → X.env.cells.lookup x = some c := fun x c h => by
    obtain ⟨h1, h2⟩ := clo_from h
    unfold freeOk at hfr
    rw [List.all_eq_true] at hfr
    have q := hfr _ h1
    simp only at q
    have : X.env.kindOf x = some .cell ∨ X.env.kindOf x = some .free := by
      split at q
      · rename_i e; exact .inl e
      · rename_i e; exact .inr e
      · cases q
    obtain ⟨c0, h0⟩ := ok.has x this
    rw [h2, h0]; rfl
  have young : ∀ b o, X.base.get? b = some o → b ∉ fp := fun b o e hb => by
    rcases (hf b hb).2.2.2.1 with z | z
    · exact ok.noex b o e z
    · have := Heap.lt_size (ok.bs b o e).1
      exact absurd (Nat.lt_of_lt_of_le this z) (Nat.lt_irrefl _)
  have lt0 : ∀ b o, s.heap.get? b = some o → b < s.heap.objs.size := fun b o e => Heap.lt_size e
  refine ⟨⟨ok.mod, S.kind, ok.glob, rfl, Nat.le_refl _, fun x y c h1 h2 => ok.inj x y c (cel x c h1) (cel y c h2), fun x hx => ?_, fun x c h => (nomatch h), fun _ => ok.hd hcalm, Around.frames_deeper ok.frames, .inr ⟨rfl, rfl⟩, fun b hb => ?_, fun b o e => I.bs b o e, Nat.le_trans ok.bsz I.sz, young, fun b hb z => ?_, I.stack, I.stkFree⟩,
    ho, hg, Un.kept hk, ⟨_, hn.at' hC, fun i y v e1 e2 e3 => ?_⟩, fun x c h => ?_, I.hok.fresh (Nat.le_refl _), fun x c h => I.freeC x c (cel x c h), fun p hp => ?_, I.hok.kept hk, ?_⟩
  · have hx : scope.names.lookup x = some .cell ∨ scope.names.lookup x = some .free := hx
    rcases hx with hx | hx
    · exact absurd rfl (S.cell _ (PySem.mem_of_lookup hx))
    · exact ⟨_, clo_look (PySem.mem_of_lookup hx)⟩
  · refine ⟨Nat.ne_of_lt (hlt b hb), fun x c h => (hf b hb).2.2.2.2.1 x c (cel x c h)⟩
  · rcases List.mem_cons.mp (I.stkSub b z) with y | y
    · exact (hf b hb).2.1 y
    · exact (hf b hb).2.2.1 y
  · have hi : i < N.length := (List.getElem?_eq_some_iff.mp e1).1
    unfold capSt at e2
    by_cases hi2 : i < nt
    · rw [List.getElem?_append_left (by simpa using hi2), List.getElem?_replicate] at e2
      split at e2 <;> cases e2
    · obtain ⟨j, rfl⟩ : ∃ j, i = nt + j := ⟨i - nt, by omega⟩
      have hj : j < fr.length := by omega
      rw [List.getElem?_append_right (by simp), List.length_replicate, show nt + j - nt = j by omega, List.getElem?_map] at e2
      have q := hcap j (List.mem_range.mpr hj)
      rw [show N[nt + j]? = some y from e1, List.getElem?_eq_getElem hj] at q
      rw [List.getElem?_eq_getElem hj] at e2
      simp only [Bool.and_eq_true, beq_iff_eq] at q
      obtain ⟨⟨q1, q2⟩, q3⟩ := q
      have e2 : (σ[fr[j]]?).getD none = some v := Option.some.inj e2
      have e4 : σ[fr[j]]? = some (some v) := by
        cases z : σ[fr[j]]? with
        | none => rw [z] at e2; cases e2
        | some w => rw [z] at e2; exact congrArg some e2
      obtain ⟨m, _, hl⟩ := I.loc
      have kd : X.env.kindOf y = some .cell ∨ X.env.kindOf y = some .free := by
        split at q3
        · rename_i z; exact .inl z
        · rename_i z; exact .inr z
        · cases q3
      have kf : scope.names.lookup y = some .free := by
        split at q2
        · assumption
        · cases q2
      obtain ⟨u, ru, lk⟩ := hl _ y v q1 e4 (by rcases kd with z | z; exact .inr (.inl z); exact .inr (.inr z))
      refine ⟨u, ru, .inr ⟨.inr kf, ?_⟩⟩
      obtain ⟨c, hc, hcc⟩ : ∃ c, X.env.cells.lookup y = some c ∧ s.heap.IsCell c (some u) := by
        rcases lk with ⟨z, _⟩ | ⟨_, c, h1, h2⟩
        · rcases kd with w | w <;> rw [z] at w <;> cases w
        · exact ⟨c, h1, h2⟩
      refine ⟨c, ?_, ?_⟩
      · show (cloFrom X.env.cells scope.names []).lookup y = some c
        rw [clo_look (PySem.mem_of_lookup kf), hc]; rfl
      · obtain ⟨oc, hoc, hd⟩ := hcc
        exact ⟨oc, hk _ _ hoc, hd⟩
  · obtain ⟨v, oc, hoc, hd⟩ := I.cell x c (cel x c h)
    exact ⟨v, oc, hk _ _ hoc, hd⟩
  · have e : p = (a, go) := List.mem_singleton.mp hp
    subst e
    refine ⟨hpa, I.hok.fresh (Nat.le_of_lt ha), Nat.ne_of_gt ha, fun z => ?_, hgo⟩
    rcases List.mem_cons.mp (I.stkSub a z) with y | y
    · have := I.lt
      rw [← y] at this
      exact absurd (Nat.lt_trans this ha) (Nat.lt_irrefl _)
    · exact I.nofs (Nat.le_of_lt ha) y
  · unfold capSt
    rw [List.length_append, List.length_replicate, List.length_map]
    exact hNl.symm
end
/-- between two turns: what the consumer keeps for itself at the addresses of Sx may have turned, all else stands -/
structure Sl (Sx : List Addr) (s s' : Shared) : Prop where
  os : s'.os = s.os
  bare : AllBare s'.gens
  keep : ∀ b o, b ∉ Sx → s.heap.get? b = some o → s'.heap.get? b = some o
/-- the consumer's own objects, as they stand -/
def Cp (Sx : List Addr) (cp : List (Addr × Obj)) : Prop := cp.map (·.1) = Sx
theorem Inv.slept {X : Cx} {p0 cp cp' : List (Addr × Obj)} {σ : L2.St} {H : Hp} {s s' : Shared} {Sx : List Addr} (I : Inv X (p0 ++ cp) σ H s) (hc : Cp Sx cp) (hy : ∀ b ∈ Sx, X.s_0.heap.objs.size ≤ b ∧ (∀ x c, X.env.cells.lookup x = some c → c ≠ b)) (h0 : ∀ p ∈ X.pn ++ p0, p.1 ∉ Sx) (z : Sl Sx s s')
    (hc' : Cp Sx cp') (hv : ∀ p ∈ cp', s'.heap.get? p.1 = some p.2 ∧ ∀ v, p.2.data ≠ .cell v) : Inv X (p0 ++ cp') σ H s' := by
  have at_ : ∀ b ∈ Sx, ∃ p ∈ cp, p.1 = b := fun b hb => by
    rw [← hc] at hb
    obtain ⟨p, hp, e⟩ := List.mem_map.mp hb
    exact ⟨p, hp, e⟩
  have pf : ∀ b ∈ Sx, s.heap.get? b ≠ none ∧ H b = none ∧ b ≠ X.env.locals ∧ b ∉ X.fs := fun b hb => by
    obtain ⟨p, hp, rfl⟩ := at_ b hb
    obtain ⟨q1, q2, q3, q4, _⟩ := I.pin p (List.mem_append_right _ (List.mem_append_right _ hp))
    exact ⟨by rw [q1]; simp, q2, q3, q4⟩
  have I0 : Inv X p0 σ H s := I.pins_of fun p hp => I.pin p (List.mem_append_right _ (List.mem_append_left _ hp))
  obtain ⟨h', g', d', t', o'⟩ := s'
  obtain ⟨z1, z2, z3⟩ := z
  have z1 : o' = s.os := z1
  subst z1
  have nt : ∀ b u, H b = some u → b ∉ Sx := fun b u e hb => by rw [(pf b hb).2.1] at e; cases e
  have ex : ∀ b ∈ Sx, ∃ o, h'.get? b = some o := fun b hb => by
    rw [← hc'] at hb
    obtain ⟨p, hp, e⟩ := List.mem_map.mp hb
    exact ⟨p.2, by rw [← e]; exact (hv p hp).1⟩
  have J : Inv X p0 σ H { s with heap := h', gens := g', drawn := d', toks := t' } := by
    refine I0.step (g' := g') (t' := t') (d' := d') (ch := Sx) (fun b hb => ⟨.inr (hy b hb).1, (pf b hb).2.2.1, (hy b hb).2, fun p hp e => h0 p hp (by rw [e]; exact hb)⟩)
      (fun b ob _ _ hc q _ => z3 b ob hc q) (fun b ob _ _ hc q _ => ⟨ob.slots, z3 b ob hc q⟩) (fun _ _ _ _ n => n) (fun b ob hc q => ⟨ob, z3 b ob hc q⟩)
      (fun _ _ q => q) (fun _ _ _ q => q) (fun b ps q => ⟨#[], by rw [q]; simp⟩) (fun m hm => ?_) (fun b u q => ?_) z2
    · obtain ⟨ob, es, ep, ho, r⟩ := hm
      exact ⟨ob, es, ep, z3 _ ob (fun hb => (pf _ hb).2.2.1 rfl) ho, r⟩
    · refine (I0.hok b u q).stay (fun c v hc y => z3 c v ?_ y) (fun _ y => y) fun _ _ y => y
      rcases hc with y | y
      · rw [y]; exact nt b u q
      · exact nt c _ y
  refine J.pins_of fun p hp => ?_
  rcases List.mem_append.mp hp with hp | hp
  · exact J.pin p (List.mem_append_right _ hp)
  · have hb : p.1 ∈ Sx := by rw [← hc']; exact List.mem_map.mpr ⟨p, hp, rfl⟩
    obtain ⟨_, q2, q3, q4⟩ := pf _ hb
    exact ⟨(hv p hp).1, q2, q3, q4, (hv p hp).2⟩
/-- the turns: W before a turn (its number, a measure, the consumer's objects), B what the consumer gets, Dn the end -/
def GTurns (J : It) (g : TG) (tt : TT) (te : TE) (W : Nat → Nat → List (Addr × Obj) → L2.St → Hp → Prop) (B : Nat → Nat → List (Addr × Obj) → V → L2.St → Hp → Prop) (Dn : List (Addr × Obj) → L2.St → Hp → Prop) : Prop :=
  ∀ i m cp σ H, W i m cp σ H → (J.stop i H ∧ Dn cp σ H) ∨ (J.go i H ∧ ∃ (Bt : V → L2.St → Hp → Prop) (Nt : L2.St → Hp → Prop), (∀ y σ' H', Bt y σ' H' → B i m cp y σ' H') ∧ (∀ σ' H', Nt σ' H' → ∃ m', m' < m ∧ W (i + 1) m' cp σ' H') ∧
    ∀ x H', J.yld i H x H' → g x σ H' fun σ2 H2 => tt σ2 H2 fun b H3 => if b = true then te σ2 H3 (fun y H4 => Bt y σ2 H4) else Nt σ2 H3)
/-- an item is handed out -/
def YG (X : Cx) (go : Addr × Obj) (Sx : List Addr) (W : Nat → Nat → List (Addr × Obj) → L2.St → Hp → Prop) (B : Nat → Nat → List (Addr × Obj) → V → L2.St → Hp → Prop) : Protocol := fun n s₀ v s kap =>
  ∃ i m cp y σ H, Cp Sx cp ∧ (∀ p ∈ cp, s₀.heap.get? p.1 = some p.2) ∧ RelV y v ∧ Inv X (go :: cp) σ H s ∧ B i m cp y σ H ∧ m ≤ n ∧ ∀ s' m' cp', Sl Sx s s' → Cp Sx cp' → (∀ p ∈ cp', s'.heap.get? p.1 = some p.2 ∧ ∀ v, p.2.data ≠ .cell v) → m' < m → W (i + 1) m' cp' σ H → kap (.send .none) s'
def RG (X : Cx) (go : Addr × Obj) (Sx : List Addr) (Dn : List (Addr × Obj) → L2.St → Hp → Prop) : Nat → Shared → Shared → Prop := fun _ s₀ s => ∃ cp σ H, Cp Sx cp ∧ (∀ p ∈ cp, s₀.heap.get? p.1 = some p.2) ∧ Inv X (go :: cp) σ H s ∧ Dn cp σ H
section
variable {Y : Cx} {A : Around} {go : Addr × Obj} {Sx fp : List Addr} {it : Addr} {tn : Nat → Heap → Prop} {J : It} {tg elt iter : Expr} {ifs : List Expr} {scope : Scope} {gpos : Pos} {g : TG} {tt : TT} {te : TE} {W : Nat → Nat → List (Addr × Obj) → L2.St → Hp → Prop} {B : Nat → Nat → List (Addr × Obj) → V → L2.St → Hp → Prop} {Dn : List (Addr × Obj) → L2.St → Hp → Prop}
theorem seg_turns (hA : Y.A = A.deeper Y.env) (hxe : ∀ e s, Y.xe e s → False) (hcalm : Y.calm = true) (T : Turn Y.prog Y.w Y.K tg J fp it tn) (hg : PG Y tg g) (ht : PTs Y ifs tt) (he : PE Y elt te) (hco : Y.env.scope.isCoroutine = false) (turn : GTurns J g tt te W B Dn)
    (stat : ∀ (cp : List (Addr × Obj)) (H : Hp), Cp Sx cp → (∀ b ∈ fp, H b = none) → ∀ b ∈ fp, FpOk Y (go :: cp) H b) (hy : ∀ b ∈ Sx, Y.s_0.heap.objs.size ≤ b ∧ (∀ x c, Y.env.cells.lookup x = some c → c ≠ b)) (h0 : ∀ p ∈ Y.pn ++ [go], p.1 ∉ Sx) (hfs : ∀ b ∈ fp, b ∉ Sx) :
    ∀ (m n i : Nat) (s₀ s : Shared) (σ : L2.St) (H : Hp) (cp : List (Addr × Obj)), m < n → Cp Sx cp → (∀ p ∈ cp, s₀.heap.get? p.1 = some p.2) → Inv Y (go :: cp) σ H s → tn i s.heap → (∀ b ∈ fp, H b = none) → W i m cp σ H →
      Seg (model Y.prog Y.w) A (fun n s₀ r s₁ => r = .ok .next ∧ RG Y go Sx Dn n s₀ s₁) (YG Y go Sx W B) n s₀
        (.compLoop (.GeneratorExp elt [⟨tg, iter, ifs, 0⟩] scope gpos) 0 (.ref it) .none Y.env) ((model Y.prog Y.w).den (.compLoop (.GeneratorExp elt [⟨tg, iter, ifs, 0⟩] scope gpos) 0 (.ref it) .none Y.env)) [] s := by
  intro m
  induction m using Nat.strongRecOn with
  | ind m ih =>
    intro n i s₀ s σ H cp hmn hcp hs0 I st fr w
    show Seg _ A _ _ n s₀ _ ((compTurn (.GeneratorExp elt [⟨tg, iter, ifs, 0⟩] scope gpos) 0 (.ref it) .none Y.env).onRaise _) [] s
    rw [compTurn_gen, Sem.onRaise_eq_wrap]
    refine seg_bind_wrap (wpAny_standAt ?_)
    rcases turn i m cp σ H w with ⟨stop, dn⟩ | ⟨goes, Bt, Nt, hBt, hNt, step⟩
    · refine seg_bind_wrap ?_
      rw [over_gen, ← hA]
      refine thn (T.done Y rfl rfl rfl hcalm i (go :: cp) s σ H _ I (stat cp H hcp fr) st stop) fun r s4 ⟨hr, I4⟩ => ?_
      subst hr
      exact seg_end (.ok .next) ⟨rfl, cp, σ, H, hcp, hs0, I4, dn⟩
    · refine seg_bind_wrap ?_
      rw [over_gen, ← hA]
      refine thn (T.item Y rfl rfl rfl hcalm i (go :: cp) s σ H _ I (stat cp H hcp fr) st goes) fun r s4 ⟨u, hr, h4⟩ => ?_
      subst hr
      refine seg_bind_wrap ?_
      rw [over_gen, ← hA]
      refine thn h4 fun _ s5 ⟨x, H5, I5, r5, y5, st5, fr5⟩ => ?_
      have I5' := I5.pinned (stat cp H5 hcp fr5) (T.obj _ _ st5)
      refine seg_bind_wrap ?_
      rw [over_gen, ← hA]
      refine wpAny_mono (hg.run _ s5 σ H5 x u _ I5' r5 (step x H5 y5)) (fun _ s6 ⟨σ6, H6, I6, q6⟩ => ?_) fun _ _ z => (hxe _ _ z).elim
      refine seg_bind_wrap ?_
      rw [over_gen, ← hA]
      refine wpAny_mono (ht.run _ s6 σ6 H6 _ I6 q6) (fun ok s7 ⟨H7, I7, q7⟩ => ?_) fun _ _ z => (hxe _ _ z).elim
      have turned : ∀ {σ8 : L2.St} {H8 : Hp} {s8 : Shared}, Inv Y ((go :: cp) ++ pinsAt fp s5.heap) σ8 H8 s8 → tn (i + 1) s8.heap ∧ (∀ b ∈ fp, H8 b = none) ∧ Inv Y (go :: cp) σ8 H8 s8 := fun {σ8 H8 s8} I8 =>
        ⟨T.keep _ _ _ st5 fun b hb o e => (I8.pin (b, o) (List.mem_append_right _ (List.mem_append_right _ (mem_pinsAt hb e)))).1, fun b hb => by
          obtain ⟨o, e, d⟩ := T.obj _ _ st5 b hb
          exact (I8.pin (b, o) (List.mem_append_right _ (List.mem_append_right _ (mem_pinsAt hb e)))).2.1, I8.unpinned⟩
      cases ok with
      | false =>
        rw [if_neg Bool.false_ne_true] at q7
        obtain ⟨m', hm', w'⟩ := hNt _ _ q7
        simp only [Bool.false_eq_true, if_false]
        obtain ⟨t1, t2, t3⟩ := turned I7
        exact seg_again rfl (ih m' hm' n (i + 1) s₀ _ _ _ cp (by omega) hcp hs0 t3 t1 t2 w')
      | true =>
        rw [if_pos rfl] at q7
        simp only [if_true]
        have hyo : ∀ v, yieldOut Y.env v = yieldValue v := fun v => by simp only [yieldOut, hco, Bool.false_eq_true, if_false]
        simp only [hyo]
        rw [Sem.bind_eq_wrap', Sem.bind_eq_wrap', Sem.wrap_wrap, Sem.wrap_wrap]
        refine seg_wrap ?_
        rw [over_gen, ← hA]
        refine wpAny_mono (he.run _ s7 σ6 H7 _ I7 q7) (fun v s8 ⟨y, H8, I8, r8, q8⟩ => ?_) fun _ _ z => (hxe _ _ z).elim
        obtain ⟨n, rfl⟩ : ∃ k, n = k + 1 := ⟨n - 1, by omega⟩
        obtain ⟨t1, t2, t3⟩ := turned I8
        refine seg_at (seg_yield rfl rfl rfl ⟨i, m, cp, y, σ6, H8, hcp, hs0, r8, t3, hBt _ _ _ q8, by omega, fun s' m' cp' z hcp' hv hm' w' => ?_⟩)
        have I9 := Inv.slept (p0 := [go]) t3 hcp hy h0 z hcp' hv
        refine seg_again rfl (ih m' hm' n (i + 1) s' s' _ _ cp' (by omega) hcp' (fun p hp => (hv p hp).1) I9 (T.keep _ _ _ t1 fun b hb o e => z.keep b o (hfs b hb) e) t2 w')
theorem seg_turns0 (hA : Y.A = A.deeper Y.env) (hxe : ∀ e s, Y.xe e s → False) (hcalm : Y.calm = true) (T : Turn Y.prog Y.w Y.K tg J fp it tn) (hg : PG Y tg g) (ht : PTs Y ifs tt) (he : PE Y elt te) (hco : Y.env.scope.isCoroutine = false) (turn : GTurns J g tt te W B Dn)
    (stat : ∀ (cp : List (Addr × Obj)) (H : Hp), Cp Sx cp → (∀ b ∈ fp, H b = none) → ∀ b ∈ fp, FpOk Y (go :: cp) H b) (hy : ∀ b ∈ Sx, Y.s_0.heap.objs.size ≤ b ∧ (∀ x c, Y.env.cells.lookup x = some c → c ≠ b)) (h0 : ∀ p ∈ Y.pn ++ [go], p.1 ∉ Sx) (hfs : ∀ b ∈ fp, b ∉ Sx)
    {m n : Nat} {s₀ s : Shared} {σ : L2.St} {H : Hp} {cp : List (Addr × Obj)} (hmn : m < n) (hcp : Cp Sx cp) (hs0 : ∀ p ∈ cp, s₀.heap.get? p.1 = some p.2) (I : Inv Y (go :: cp) σ H s) (st : tn 0 s.heap) (fr : ∀ b ∈ fp, H b = none) (w : W 0 m cp σ H) :
      Seg (model Y.prog Y.w) A (fun n s₀ r s₁ => r = .ok .next ∧ RG Y go Sx Dn n s₀ s₁) (YG Y go Sx W B) n s₀
        (.compStart (.GeneratorExp elt [⟨tg, iter, ifs, 0⟩] scope gpos) 0 (.ref it) .none Y.env) ((model Y.prog Y.w).den (.compStart (.GeneratorExp elt [⟨tg, iter, ifs, 0⟩] scope gpos) 0 (.ref it) .none Y.env)) [] s := by
  have loop := seg_turns (iter := iter) (scope := scope) (gpos := gpos) hA hxe hcalm T hg ht he hco turn stat hy h0 hfs m n 0 s₀ s σ H cp hmn hcp hs0 I st fr w
  show Seg _ A _ _ _ s₀ _ ((compStart (.GeneratorExp elt [⟨tg, iter, ifs, 0⟩] scope gpos) 0 (.ref it) .none Y.env).onRaise _) [] s
  unfold compStart
  rw [Sem.onRaise_eq_wrap]
  show Seg _ A _ _ _ s₀ _ ((ask >>= _).wrap _ _ _ _) [] s
  refine seg_bind_wrap (wpAny_askSetting ?_)
  split
  · exact seg_again rfl loop
  · first
      | exact seg_bind_wrap (wpAny_rule (seg_bind_wrap (wpAny_standAt (seg_bind_wrap (T.self _ 0 s _ _ st (seg_again rfl loop))))))
      | (refine seg_bind_wrap (wpAny_rule ?_); show Seg _ A _ _ _ s₀ _ ((standAt iter.pos >>= _).wrap _ _ _ _) [] s; exact seg_bind_wrap (wpAny_standAt (seg_bind_wrap (T.self _ 0 s _ _ st (seg_again rfl loop)))))

theorem inv_kept {X : Cx} {pins : List (Addr × Obj)} {σ : L2.St} {H : Hp} {s s' : Shared} (I : Inv X pins σ H s) (ho : s'.os = s.os) (hg : AllBare s'.gens) (k : ∀ b o, s.heap.get? b = some o → s'.heap.get? b = some o) : Inv X pins σ H s' :=
  I.call' (ch := []) ho (Un.kept k) (I.hok.kept k) hg fun b z => absurd z (by simp)
/-- the generator at go, its number gi, sleeps -/
structure Asl (Y : Cx) (A : Around) (go : Addr × Obj) (gi : Nat) (Sx : List Addr) (W : Nat → Nat → List (Addr × Obj) → L2.St → Hp → Prop) (B : Nat → Nat → List (Addr × Obj) → V → L2.St → Hp → Prop) (Dn : List (Addr × Obj) → L2.St → Hp → Prop) (n : Nat) (s : Shared) : Prop where
  gen : s.heap.IsGen go.1 gi
  nl : s.heap.NoLimit
  gs : ∃ gs, s.gens[gi]? = some gs ∧ gs.Goes (model Y.prog Y.w) A (fun n s₀ r s₁ => r = .ok .next ∧ RG Y go Sx Dn n s₀ s₁) (YG Y go Sx W B) n (.send .none) (s.setGen gi .running)
/-- one step of it -/
theorem next_gen {gi n : Nat} {C : Around} {E : Value → Shared → Prop} {Q : Option Value → Shared → Prop} {s : Shared} (hh : C.handled = none) (hroom : C.depth < recursionLimit) (hgo : ∀ h : Heap, h.get? go.1 = some go.2 → h.IsGen go.1 gi) (a : Asl Y C.in1 go gi Sx W B Dn n s)
    (hY : ∀ (i m : Nat) cp y v σ H s', Cp Sx cp → (∀ p ∈ cp, s.heap.get? p.1 = some p.2) → RelV y v → Inv Y (go :: cp) σ H s' → B i m cp y σ H → (∀ s'' cp', Sl Sx s' s'' → s''.gens = s'.gens → Cp Sx cp' → (∀ p ∈ cp', s''.heap.get? p.1 = some p.2 ∧ ∀ v, p.2.data ≠ .cell v) → s''.heap.get? go.1 = some go.2 → s''.heap.NoLimit → ∀ m', m' < m → W (i + 1) m' cp' σ H → ∃ k, k < n ∧ Asl Y C.in1 go gi Sx W B Dn k s'') → Q (some v) s')
    (hD : ∀ cp σ H s', Cp Sx cp → (∀ p ∈ cp, s.heap.get? p.1 = some p.2) → Inv Y (go :: cp) σ H s' → Dn cp σ H → Q none s') : wpAny (model Y.prog Y.w) C (pyNext (.ref go.1)) Q E s := by
  obtain ⟨ag, al, gs, hgs, hgoes⟩ := a
  have hgl : gi < s.gens.size := (Array.getElem?_eq_some_iff.mp hgs).1
  refine wpAny_gsz (n := gi + 1) hgl (wpAny_pyNext_genexpQ (P := RG Y go Sx Dn) hh al hroom ag hgs hgoes (fun v s₁ gs' hbare hv => ?_) fun s₁ hp h' hk => ?_)
  · intro hsz
    obtain ⟨i, m, cp, y, σ, H, hcp, hs0, rv, I, hB, hmn, kap⟩ := hv
    have hsz1 : gi < s₁.gens.size := by
      have q : (s₁.setGen gi gs').gens.size = s₁.gens.size := setGen_size _ _ _
      have hsz' : gi + 1 ≤ (s₁.setGen gi gs').gens.size := hsz
      omega
    have I2 : Inv Y (go :: cp) σ H (s₁.setGen gi gs') := inv_kept I rfl (allBare_setGen I.bare hbare) fun _ _ e => e
    refine hY i m cp y v σ H _ hcp hs0 rv I2 hB fun s'' cp' z hgens hcp' hv hgo' hnl m' hm' w' => ?_
    have kk := kap (s''.setGen gi .running) m' cp' ⟨z.os, allBare_setGen z.bare rfl, fun b o hb e => z.keep b o hb e⟩ hcp' hv hm' w'
    cases n with
    | zero => exact False.elim kk
    | succ n => exact ⟨n, Nat.lt_succ_self n, hgo _ hgo', hnl, gs', by rw [hgens]; exact setGen_at hsz1, kk⟩
  · intro hsz
    obtain ⟨cp, σ, H, hcp, hs0, I, dn⟩ := hp
    exact hD cp σ H _ hcp hs0 (inv_kept I rfl (allBare_setGen I.bare rfl) hk) dn
/-- all(..) walks it -/
theorem all_loop_gen {gi : Nat} {A : Around} {R : Result → Shared → Prop} {Fl : L2.St → Hp → Prop} (hh : A.handled = none) (hroom : A.depth < recursionLimit) (hgo : ∀ h : Heap, h.get? go.1 = some go.2 → h.IsGen go.1 gi)
    (hB : ∀ i m cp y σ H, B i m cp y σ H → ∃ b, y = .bl b ∧ if b = true then ∃ m', m' < m ∧ W (i + 1) m' [] σ H else Fl σ H)
    (hF : ∀ pins σ H s, Inv Y pins σ H s → Fl σ H → R (.ok (.ret (.bool false))) s) (hT : ∀ pins σ H s cp, Inv Y pins σ H s → Dn cp σ H → R (.ok (.ret (.bool true))) s) :
    ∀ (n : Nat) (s : Shared), Asl Y A.in1.in1 go gi [] W B Dn n s → codeAny (model Y.prog Y.w) A (.builtin "all.loop" ⟨[.ref go.1], []⟩) R s := by
  intro n
  induction n using Nat.strongRecOn with
  | ind n ih =>
    intro s a
    refine codeAny_builtin F.entry_all_loop ?_
    rw [Around.under_plainId F.plain_all_loop _]
    show wpAny _ A.in1 (pyNext (.ref go.1) >>= _) _ _ s
    refine wpAny_bind (next_gen (C := A.in1) hh hroom hgo a (fun i m cp y v σ H s' hcp _ rv I hb again => ?_) fun cp σ H s' hcp _ I dn => ?_)
    · obtain ⟨b, rfl, hb'⟩ := hB i m cp y σ H hb
      obtain rfl : v = .bool b := rv
      refine wpAny_bind (wpAny_holding (wpAny_truthy_bool ?_))
      refine wpAny_bind (wpAny_letGo ?_)
      cases b with
      | true =>
        rw [if_pos rfl] at hb'
        obtain ⟨m', hm', w'⟩ := hb'
        simp only [if_true]
        have e0 : cp = [] := by
          have := congrArg List.length hcp
          rw [List.length_map] at this
          exact List.eq_nil_of_length_eq_zero this
        obtain ⟨k, hk, ak⟩ := again s' [] ⟨rfl, I.bare, fun _ _ _ e => e⟩ rfl rfl (fun p hp => nomatch hp) (I.pin go (List.mem_append_right _ List.mem_cons_self)).1 I.nolimit m' hm' w'
        exact wpAny_pure ⟨plainId_quiet F.plain_all_loop _, ih k hk s' ak⟩
      | false =>
        rw [if_neg Bool.false_ne_true] at hb'
        simp only [Bool.false_eq_true, if_false]
        exact wpAny_bind (wpAny_rule (wpAny_pure (hF _ σ H s' I hb')))
    · exact wpAny_bind (wpAny_rule (wpAny_pure (hT _ σ H s' cp I dn)))
end
section
variable {X : Cx} {pins : List (Addr × Obj)} {σ : L2.St} {H : Hp} {s : Shared} {N : List Str} {nt : Nat} {fr : List Nat} {scope : Scope}
/-- a generator that has not begun: the frame's context, where it was made -/
structure Fresh (X : Cx) (pins : List (Addr × Obj)) (σ : L2.St) (N : List Str) (nt : Nat) (fr : List Nat) (scope : Scope) (tg elt iter : Expr) (ifs : List Expr) (gpos : Pos) (J : It) (H2 : Hp) (a : Addr) (s5 : Shared) : Prop where
  ex : ∃ (s4 : Shared) (code : Value) (fp : List Addr) (it : Addr) (tn : Nat → Heap → Prop) (go : Obj) (gi : Nat),
    Inv X pins σ H2 s4 ∧ (∀ b ∈ fp, FpOk X pins H2 b) ∧ (∀ b ∈ fp, b < s4.heap.objs.size) ∧ s4.heap.objs.size < a ∧ a < s5.heap.objs.size ∧ Turn X.prog X.w X.K tg J fp it tn ∧ tn 0 s5.heap ∧ (∀ h : Heap, h.get? a = some go → h.IsGen a gi) ∧ s5.heap.get? a = some go ∧
    s5.gens[gi]? = some (.fresh (.compStart (.GeneratorExp elt [⟨tg, iter, ifs, 0⟩] scope gpos) 0 (.ref it) .none (genEnv scope (cloFrom X.env.cells scope.names []) s4.heap.objs.size code builtinsNs X.env))) ∧
    Inv (gxC X N scope s4.heap.objs.size code fp s4 H2) [(a, go)] (capSt nt fr σ) H2 s5
theorem gen_mkI {c P : Addr} {elt iter tg : Expr} {ifs : List Expr} {gpos : Pos} {wi : TI} {k : Nat} {Q' : Value → Shared → Prop} {R : It → Hp → Prop} (hcalm : X.calm = true)
    (hr : Room k X.A) (TB : TabB X.base X.mg c P) (hcode : X.env.code = .ref c) (S : GnS scope) (hfr : freeOk scope X.env.scope = true) (hcap : capOk N nt fr X.N scope X.env.scope = true) (hi : PI X tg iter wi)
    (hs : ∀ v, genFold iter X.env v = pure v) (I : Inv X pins σ H s) (h : wi σ H fun J H1 => TabG H1 P ∧ ∀ H2, Tabbed P H1 H2 → R J H2)
    (hQ : ∀ J H2 a s5, R J H2 → Fresh X pins σ N nt fr scope tg elt iter ifs gpos J H2 a s5 → Q' (.ref a) s5) :
    wpAny (model X.prog X.w) X.A (eval (.GeneratorExp elt [⟨tg, iter, ifs, 0⟩] scope gpos) X.env) Q' X.xe s := by
  have hcl : closureFor scope X.env = pure (cloFrom X.env.cells scope.names []) := closure_ok fun y hy hf => by
    refine I.ok.has y.1 ?_
    unfold freeOk at hfr
    rw [List.all_eq_true] at hfr
    have := hfr _ hy
    rw [hf] at this
    simp only at this
    split at this
    · rename_i e; exact .inl e
    · rename_i e; exact .inr e
    · cases this
  refine wpAny_GeneratorExp_make S.co hcl S.cell S.dot S.kind (by have := hr.dp; omega) ?_ hs
  refine thn (hi.run pins s σ H _ I h) fun xv s1 h1 => thn h1 fun itv s2 h2 => ?_
  obtain ⟨it, fp, tn, J, H1, e, I2, T, st2, f2, ⟨ps, hP, htr⟩, hR⟩ := h2
  subst e
  have hPs : s2.heap.get? P = some { cls := .none, data := .fields ps } := I2.hok P _ hP
  have hPlt := Heap.lt_size hPs
  have cd : PySem.W.CodeHd s2.heap c P := TB.code.keeps fun b u e => I2.bk b u e
  have fpP : ∀ b ∈ fp, b ≠ P := fun b hb e => by
    have := (f2 b hb).1
    rw [e, hP] at this
    cases this
  refine ⟨I2.nolimit, ?_⟩
  have fin : ∀ (code : Value) (h3 : Heap) (tk : Nat) (qs : Array Value), Heap.ExtBut P s2.heap h3 → s2.heap.objs.size ≤ h3.objs.size → h3.get? P = some { cls := .none, data := .fields qs } → (∃ more, qs = ps ++ more) → TriplesOk qs.toList →
      wpAny (model X.prog X.w) X.A (builtinsFor X.env.globals X.env.builtins) (fun bi s₄ =>
        ∀ h', h'.Ns s₄.heap.objs.size (fun y => if y = ".0" then some (.ref it) else none) → Heap.SameBut s₄.heap.objs.size (s₄.heap.push { cls := .type "frame", data := .dict #[] }) h' →
          Q' (.ref h'.objs.size) { s₄ with
            gens := s₄.gens.push (.fresh (.compStart (.GeneratorExp elt [⟨tg, iter, ifs, 0⟩] scope gpos) 0 (.ref it) .none (genEnv scope (cloFrom X.env.cells scope.names []) s₄.heap.objs.size code bi X.env))),
            toks := s₄.toks + 1 + 1 + 1,
            heap := h'.push { cls := .type "generator", data := .fields #[.int s₄.gens.size 0, .str "<genexpr>" (s₄.toks + 1), .str (X.env.qual ++ "<genexpr>") (s₄.toks + 1 + 1)] } }) X.xe { s2 with heap := h3, toks := tk } := by
    intro code h3 tk qs hx hsz hP3 hmore htq
    obtain ⟨bm, ob, e1, e2, e3, e4, e5, e6, e7, e8⟩ := TB.bm
    have nbP : (builtinsNs : Addr) ≠ P := fun e => by
      obtain ⟨mb, hns, _⟩ := I2.mod.blt
      obtain ⟨o', es, ep, ho, hd, _⟩ := hns
      have ho := I2.bk _ _ ho
      rw [e, hPs] at ho
      cases ho; cases hd
    refine wpAny_builtinsFor (m := X.mg) (by rw [I2.ok.glob]; exact (I2.mod.glob.keeps I2.bk).extBut hx TB.gP) e1 e2 (hx _ _ e4 (I2.bk _ _ e5)) e6 e7 e8 ?_
    obtain ⟨more, em⟩ := hmore
    intro h' hn' hs'
    have I4 := inv_tab (more := more) (h' := h3) (g' := s2.gens) (d' := s2.drawn) (t' := tk) I2 hP (fun b u hb e => hx b u hb e) (by rw [← em]; exact hP3) I2.bare
    have hsz' : h'.objs.size = h3.objs.size + 1 := by rw [hs'.1, Heap.size_push]
    have keep' : ∀ b o, h3.get? b = some o → h'.get? b = some o := fun b o e => hs'.extBut b o (Nat.ne_of_lt (Heap.lt_size e)) (Heap.get?_push_of_some _ e)
    have lt2 : ∀ b ∈ fp, b < s2.heap.objs.size := fun b hb => by
      obtain ⟨o, e, _⟩ := T.obj 0 _ st2 b hb
      exact Heap.lt_size e
    have f4 : ∀ b ∈ fp, FpOk X pins (upd H1 P (.tbl (ps ++ more))) b := fun b hb => ⟨by rw [upd_ne (fpP b hb)]; exact (f2 b hb).1, (f2 b hb).2⟩
    have lt4 : ∀ b ∈ fp, b < h3.objs.size := fun b hb => Nat.lt_of_lt_of_le (lt2 b hb) hsz
    refine hQ J (upd H1 P (.tbl (ps ++ more))) _ _ (hR _ ⟨⟨ps ++ more, upd_same, by rw [← em]; exact htq⟩, fun b hb => upd_ne hb⟩) ⟨_, code, fp, it, tn, _, s2.gens.size, I4, f4, lt4, ?_, ?_, T, ?_, fun h e => ⟨_, _, _, e, rfl, rfl, rfl⟩, Heap.get?_push_size _ rfl, Array.getElem?_push_size .., gen_start hcalm S hfr hcap I4 f4 lt4 hn' (fun b o e => Heap.get?_push_of_some _ (keep' b o e)) (fun o e => Heap.get?_push_of_some _ e) rfl (I2.bare.push rfl) (Heap.get?_push_size _ rfl) ?_ ?_⟩
    · show h3.objs.size < h'.objs.size
      omega
    · show h'.objs.size < (h'.push _).objs.size
      rw [Heap.size_push]; exact Nat.lt_succ_self _
    · exact T.keep 0 _ _ st2 fun b hb o e => Heap.get?_push_of_some _ (keep' b o (hx b o (fpP b hb) e))
    · show h3.objs.size < h'.objs.size
      omega
    · intro v z; cases z
  cases hf : codeAmong gpos ps.toList with
  | none =>
    refine wpAny_genexprCodeX hcode (cd.code hPs htr) (cd.tab hPs) hf fun c' h' tk hx hge hlt hco' _ htab' _ => ?_
    obtain ⟨o1, vs, f1, tf, fl, tg, inF, tx, tt, op, _, _, _, _, _, _, _, _, _, hz, _⟩ := hco'
    exact fin _ h' tk _ hx (Nat.le_trans hge (Nat.le_of_lt hlt)) htab'.2 ⟨_, rfl⟩ hz
  | some cv =>
    refine wpAny_genexprCode_hit hcode (cd.code hPs htr) hf ?_
    exact fin cv s2.heap s2.toks ps (Heap.ExtBut.refl _ _) (Nat.le_refl _) hPs ⟨#[], by simp⟩ htr
/-- the turns of a for, as a reading -/
def tForB (J : It) (g : TG) (tb : TS) : TS := fun D σ H => ∃ W : Nat → Nat → L2.St → Hp → Prop, (∃ m, W 0 m σ H) ∧ ∀ i m σ H, W i m σ H →
  (J.stop i H ∧ D.nx σ H) ∨ (J.go i H ∧ ∃ N : L2.St → Hp → Prop, (∀ σ' H', N σ' H' → ∃ m', m' < m ∧ W (i + 1) m' σ' H') ∧ ∀ x H', J.yld i H x H' → g x σ H' fun σ2 H2 => tb { D with nx := N, ct := N, bk := D.nx } σ2 H2)
def tbAll (tt : TT) (te : TE) : TS := fun D σ H => tt σ H fun b H3 => if b = true then te σ H3 (fun y H4 => ∃ b, y = .bl b ∧ if b = true then D.nx σ H4 else D.rt (.bl false) H4) else D.nx σ H3
/-- all(elt for tg in iter if ..); st: the captured names -/
def tAllG (P : Addr) (wi : TI) (g : TG) (tt : TT) (te : TE) (st : L2.St → L2.St) : TE := fun σ H Q => wi σ H fun J H1 => TabG H1 P ∧ ∀ H2, Tabbed P H1 H2 → tForB J g (tbAll tt te) { nx := fun _ H => Q (.bl true) H, rt := Q } (st σ) H2
theorem back_to {a : Addr} {s4 s' : Shared} {code : Value} {fp : List Addr} {H2 H' : Hp} {pp : List (Addr × Obj)} {σ' : L2.St} (I4 : Inv X pins σ H2 s4) (hf : ∀ b ∈ fp, FpOk X pins H2 b) (J : Inv (gxC X N scope a code fp s4 H2) pp σ' H' s') : Inv X pins σ H' s' :=
  I4.call' (ch := fp) J.os J.base J.hok J.bare fun b hb => ⟨(hf b hb).2.2.2.1, (hf b hb).2.1, (hf b hb).2.2.2.2.1, (hf b hb).2.2.2.2.2⟩
theorem stat_of {a : Addr} {s4 : Shared} {code : Value} {fp : List Addr} {H2 : Hp} {pp : List (Addr × Obj)} (S : GnS scope) (I4 : Inv X pins σ H2 s4) (hf : ∀ b ∈ fp, FpOk X pins H2 b) (hlt : ∀ b ∈ fp, b < s4.heap.objs.size) (hfr : freeOk scope X.env.scope = true) (ha : s4.heap.objs.size ≤ a) (hpp : ∀ p ∈ pp, s4.heap.objs.size ≤ p.1) {H' : Hp} (h0 : ∀ b ∈ fp, H' b = none) :
    ∀ b ∈ fp, FpOk (gxC X N scope a code fp s4 H2) pp H' b := fun b hb => by
  have lt := hlt b hb
  refine ⟨h0 b hb, Nat.ne_of_lt (Nat.lt_of_lt_of_le lt ha), fun z => ?_, .inl hb, fun x c h => ?_, fun p hp e => ?_⟩
  · rcases List.mem_cons.mp (I4.stkSub b z) with y | y
    · exact (hf b hb).2.1 y
    · exact (hf b hb).2.2.1 y
  · obtain ⟨h1, h2⟩ := clo_from h
    unfold freeOk at hfr
    rw [List.all_eq_true] at hfr
    have q := hfr _ h1
    simp only at q
    have : X.env.kindOf x = some .cell ∨ X.env.kindOf x = some .free := by
      split at q
      · rename_i e; exact .inl e
      · rename_i e; exact .inr e
      · cases q
    obtain ⟨c0, e0⟩ := I4.ok.has x this
    rw [h2, e0]
    exact (hf b hb).2.2.2.2.1 x c0 e0
  · have hp : p ∈ pp := by simpa [gxC] using hp
    have := hpp p hp
    rw [e] at this
    exact absurd (Nat.lt_of_lt_of_le lt this) (Nat.lt_irrefl _)
theorem pe_allG {c P : Addr} {elt iter tg : Expr} {ifs : List Expr} {p pos gpos : Pos} {wi : TI} {g : TG} {tt : TT} {te : TE} {k : Nat} (hcalm : X.calm = true) (hr : Room (k + 2) X.A) (B : Blt X.mg) (TB : TabB X.base X.mg c P) (hcode : X.env.code = .ref c)
    (S : GnS scope) (hfr : freeOk scope X.env.scope = true) (hcap : capOk N nt fr X.N scope X.env.scope = true) (hi : PI X tg iter wi)
    (hg : ∀ C code fp s4 H4, Room k (gxC X N scope C code fp s4 H4).A → PG (gxC X N scope C code fp s4 H4) tg g) (ht : ∀ C code fp s4 H4, Room k (gxC X N scope C code fp s4 H4).A → PTs (gxC X N scope C code fp s4 H4) ifs tt)
    (he : ∀ C code fp s4 H4, Room k (gxC X N scope C code fp s4 H4).A → PE (gxC X N scope C code fp s4 H4) elt te)
    (hs : ∀ v, genFold iter X.env v = pure v) (hgl : Gl X "all" := by rfl)
    (hse : starEach [.GeneratorExp elt [⟨tg, iter, ifs, 0⟩] scope gpos] X.env = (false, eval (.GeneratorExp elt [⟨tg, iter, ifs, 0⟩] scope gpos) X.env) :: starEach [] X.env := by rfl) :
    PE X (.Call (.Name "all" p) [.GeneratorExp elt [⟨tg, iter, ifs, 0⟩] scope gpos] [] pos) (tAllG P wi g tt te (capSt nt fr)) := by
  refine ⟨fun pins s σ H Q I h => ?_⟩
  have hh : X.A.handled = none := I.ok.hd hcalm
  refine wpAny_Call_Name_kw (ld_blt I hgl B.all (show bootBuiltins "all" = some (.builtin "all") by decide +kernel) ?_)
  refine PyProof.Rows.callWith_builtin1 ?_ hse (by rfl)
  rw [hse]
  show wpAny _ _ (spliced ((false, eval (.GeneratorExp elt [⟨tg, iter, ifs, 0⟩] scope gpos) X.env) :: backTo pos (starEach [] X.env))) _ _ s
  refine Calls.spliced_cons (gen_mkI (N := N) (nt := nt) (fr := fr) (R := fun J H2 => tForB J g (tbAll tt te) { nx := fun _ H => Q (.bl true) H, rt := Q } (capSt nt fr σ) H2) hcalm hr TB hcode S hfr hcap hi hs I h fun J H2 a s5 hR hF => ?_)
  refine Calls.spliced_nil ?_
  obtain ⟨s4, code, fp, it, tn, go, gi, I4, hf, hlt, ha, ha2, T, st5, hgo, hga, hgs, I5⟩ := hF
  obtain ⟨W, ⟨m0, w0⟩, turn⟩ := hR
  have hrA : Room k (gxC X N scope s4.heap.objs.size code fp s4 H2).A := by
    have r1 := hr.dp
    have r2 := hr.un
    have q1 : (gxC X N scope s4.heap.objs.size code fp s4 H2).A.depth = X.A.depth + 1 := rfl
    have q2 : (gxC X N scope s4.heap.objs.size code fp s4 H2).A.units = X.A.units + 1 + 1 + 3 := rfl
    exact ⟨hh, by omega, by omega⟩
  refine call_function_tree F.kind_all F.plain_all F.entry_all (F.args_all1 _) ?_
  unfold Builtin.«all»
  refine wpAny_bind (m := oneArg "all" _) (wpAny_pure ?_)
  refine wpAny_bind (wpAny_pyIter_gen (hgo _ hga) ?_)
  refine wpAny_pure ⟨plainId_quiet F.plain_all_loop _, ?_⟩
  have depth : X.A.depth < recursionLimit := by have := hr.dp; omega
  refine all_loop_gen (Y := gxC X N scope s4.heap.objs.size code fp s4 H2) (go := (a, go)) (gi := gi) (W := fun i m cp σ H => W i m σ H) (B := fun i m cp y σ H => ∃ b, y = .bl b ∧ if b = true then ∃ m', m' < m ∧ W (i + 1) m' σ H else Q (.bl false) H) (Dn := fun _ _ H => Q (.bl true) H) (Fl := fun _ H => Q (.bl false) H)
    hh depth hgo (fun i m cp y σ H hb => hb) (fun pp σ' H' s' J' q => ⟨.bl false, H', back_to I4 hf J', rfl, q⟩) (fun pp σ' H' s' cp J' q => ⟨.bl true, H', back_to I4 hf J', rfl, q⟩) (m0 + 1) s5 ⟨hgo _ hga, I5.nolimit, _, hgs, rfl, ?_⟩
  refine seg_turns0 (Y := gxC X N scope s4.heap.objs.size code fp s4 H2) (fp := fp) (tn := tn) (J := J) (tg := tg) (g := g) (tt := tt) (te := te) rfl (fun _ _ z => z) rfl T (hg _ _ _ _ _ hrA) (ht _ _ _ _ _ hrA) (he _ _ _ _ _ hrA) S.co (fun i m cp σ H w => ?_)
    (fun cp H' hcp h0 => stat_of S I4 hf hlt hfr (Nat.le_refl _) (fun p hp => ?_) h0) (fun b hb => absurd hb List.not_mem_nil) (fun p hp hb => absurd hb List.not_mem_nil) (fun b hb hb2 => absurd hb2 List.not_mem_nil) (Nat.lt_succ_self m0) (cp := []) rfl (fun p hp => nomatch hp) (inv_kept I5 rfl (allBare_setGen I5.bare rfl) fun _ _ e => e) st5 (fun b hb => (hf b hb).1) w0
  · rcases turn i m σ H w with ⟨q1, q2⟩ | ⟨q1, Nt, hN, q2⟩
    · exact .inl ⟨q1, q2⟩
    · refine .inr ⟨q1, fun y σ' H' => ∃ b, y = .bl b ∧ if b = true then Nt σ' H' else Q (.bl false) H', Nt, fun y σ' H' ⟨b, e, z⟩ => ⟨b, e, ?_⟩, hN, q2⟩
      cases b with
      | true => rw [if_pos rfl] at z ⊢; exact hN _ _ z
      | false => rw [if_neg Bool.false_ne_true] at z ⊢; exact z
  · have e0 : cp = [] := by
      have := congrArg List.length hcp
      rw [List.length_map] at this
      exact List.eq_nil_of_length_eq_zero this
    subst e0
    rw [List.mem_singleton.mp hp]
    exact Nat.le_of_lt ha
end
end SC

/-! several tables of code at once; the state of a law that has them -/
namespace SC
open PySem L2
def Tabs (Ts : List Addr) (H : Hp) : Prop := ∀ P ∈ Ts, GxR.TabG H P
section
variable {Ts S : List Addr} {P st p : Addr} {H0 H H' : Hp} {K : PySem.W.Frag}
theorem Tabs.kp1 (h : Tabs Ts H) (k : Kp [P] H H') (g : GxR.TabG H' P) : Tabs Ts H' := fun Q m => if e : Q = P then e ▸ g else tabG_kp (h Q m) k (by simpa using e)
theorem Tabs.kp (h : Tabs Ts H) (k : Kp S H H') (n : ∀ P ∈ Ts, P ∉ S) : Tabs Ts H' := fun Q m => tabG_kp (h Q m) k (n Q m)
theorem Tabs.kp0 (h : Tabs Ts H) (k : Kp [] H H') : Tabs Ts H' := h.kp k fun _ _ => List.not_mem_nil
theorem Tabs.ne (h : Tabs Ts H) {b : Addr} {o : HO} (e : H b = some o) (no : ∀ ps, o ≠ .tbl ps := by intro ps z; cases z) : b ∉ Ts := fun m => by
  obtain ⟨ps, q, _⟩ := h b m
  rw [e] at q
  exact no ps (Option.some.inj q)
theorem Tabs.ne0 (h : Tabs Ts H) {b : Addr} (e : H b = none) : b ∉ Ts := fun m => by
  obtain ⟨ps, q, _⟩ := h b m
  rw [e] at q
  cases q
theorem Tabs.new (h : Tabs Ts H) (e : H p = none) (o : HO) : Tabs Ts (upd H p o) := h.kp0 (Kp.new e o)
theorem Tabs.tab (h : Tabs Ts H) (t : GxR.Tabbed P H H') (m : P ∈ Ts) : Tabs Ts H' := h.kp1 (Kp.tab (h P m) t (List.mem_singleton.mpr rfl)) t.1
theorem Kp.in1 (k : Kp [P] H H') (m : P ∈ Ts) : Kp Ts H H' := k.mono fun b hb => by rw [List.mem_singleton.mp hb]; exact m
theorem Kp.in0 (k : Kp [] H H') : Kp S H H' := k.mono fun b hb => absurd hb List.not_mem_nil
theorem Kp.get {b : Addr} {o : HO} (k : Kp Ts H H') (g : Tabs Ts H) (h : H b = some o) (no : ∀ ps, o ≠ .tbl ps := by intro ps z; cases z) : H' b = some o := k.keep b o (g.ne h no) h
theorem Kp.tys {v : V} {t : String} (k : Kp Ts H H') (g : Tabs Ts H) (h : tyN H v = some t) : tyN H' v = some t := by
  cases v with
  | ref p =>
    unfold tyN at h
    simp only at h
    split at h
    · rename_i xs q; cases h; exact tyN_lst (k.get g q)
    · rename_i xs q; cases h; exact tyN_tup (k.get g q)
    · rename_i xs q; cases h; exact tyN_dK (k.get g q)
    · cases h
  | _ => exact h
theorem Kp.seqs {a : Addr} {xs : List V} (k : Kp Ts H H') (g : Tabs Ts H) (h : SqL K H a xs) : SqL K H' a xs := by
  rcases h with (h | ⟨o, h⟩) | h
  · exact .inl (.inl (k.get g h))
  · exact .inl (.inr ⟨o, k.get g h⟩)
  · exact .inr h
/-- a law's state: tables may have grown, the stream stands, all else that was there is as it was -/
structure LT (Ts : List Addr) (st : Addr) (H0 H : Hp) : Prop where
  k : Kp Ts H0 H
  g : Tabs Ts H
  s : Strm H st
  g0 : Tabs Ts H0
  fr : H0 st = none
theorem LT.ne (L : LT Ts st H0 H) : st ∉ Ts := let ⟨_, _, e⟩ := L.s; L.g.ne e
theorem LT.first (g0 : Tabs Ts H0) (h : H0 st = none) {a b : Int} : LT Ts st H0 (upd H0 st (.lst [.int a, .int b])) := ⟨Kp.new h _, g0.new h _, Strm.mk, g0, h⟩
/-- what is written: a table, or what was not there at the beginning -/
theorem LT.go (L : LT Ts st H0 H) (k : Kp S H H') (hS : ∀ b ∈ S, b ∈ Ts ∨ H0 b = none) (g : Tabs Ts H') (s : Strm H' st) : LT Ts st H0 H' := by
  refine ⟨⟨fun b o n q => ?_, fun b xs q => k.tup b xs (L.k.tup b xs q)⟩, g, s, L.g0, L.fr⟩
  refine k.keep b o (fun m => ?_) (L.k.keep b o n q)
  rcases hS b m with z | z
  · exact n z
  · rw [q] at z; cases z
theorem LT.take (L : LT Ts st H0 H) (k : Kp [st] H H') (s : Strm H' st) : LT Ts st H0 H' :=
  L.go k (fun b hb => .inr (by rw [List.mem_singleton.mp hb]; exact L.fr)) (L.g.kp k fun P m z => L.ne (by rw [← List.mem_singleton.mp z]; exact m)) s
theorem LT.tabs (L : LT Ts st H0 H) (k : Kp Ts H H') (g : Tabs Ts H') : LT Ts st H0 H' := L.go k (fun b hb => .inl hb) g (L.s.kp k L.ne)
theorem LT.kp0 (L : LT Ts st H0 H) (k : Kp [] H H') : LT Ts st H0 H' := L.go k (fun b hb => absurd hb List.not_mem_nil) (L.g.kp0 k) (L.s.kp k List.not_mem_nil)
theorem LT.new (L : LT Ts st H0 H) (h : H p = none) (o : HO) : LT Ts st H0 (upd H p o) := L.kp0 (Kp.new h o)
theorem LT.free (L : LT Ts st H0 H) (h : H p = none) : H0 p = none := by
  cases e : H0 p with
  | none => rfl
  | some o =>
    exfalso
    by_cases m : p ∈ Ts
    · exact L.g.ne0 h m
    · have := L.k.keep p o m e
      rw [h] at this; cases this
theorem LT.nst (L : LT Ts st H0 H) (h : H p = none) : p ≠ st := fun z => by
  obtain ⟨x, y, e⟩ := L.s
  rw [z, e] at h; cases h
theorem LT.seq {a : Addr} {xs : List V} (L : LT Ts st H0 H) (h : SqL K H0 a xs) : SqL K H a xs := L.k.seqs L.g0 h
theorem LT.lst (L : LT Ts st H0 H) {xs ys : List V} (h0 : H0 p = none) (h : H p = some (.lst xs)) (n : p ≠ st) : LT Ts st H0 (upd H p (.lst ys)) := by
  have k : Kp [p] H (upd H p (.lst ys)) := Kp.lst h (List.mem_singleton.mpr rfl)
  exact L.go k (fun b hb => .inr (by rw [List.mem_singleton.mp hb]; exact h0)) (L.g.kp k fun P m z => by rw [List.mem_singleton.mp z] at m; exact L.g.ne h (by intro ps z; cases z) m) (L.s.kp k (by simpa using n.symm))
end
/-- a method of the class at C that keeps its promise -/
structure CalM (P : Program) (w : World) (K : PySem.W.Frag) (mg : Str → Option Value) (base : Heap) (CX : CXT) (k : Nat) (C : Addr) (x : Str) (sp : Sp) : Prop where
  ex : ∃ f fd ps, FnOk P w K mg base CX k f fd ps sp ∧ Meth K C x f ∧ Binds K fd ps []
  cl : Cls K C
/-- a class that is made without arguments -/
structure CalK (P : Program) (w : World) (K : PySem.W.Frag) (mg : Str → Option Value) (base : Heap) (CX : CXT) (k : Nat) (C : Addr) (x : Str) (sp : Sp) : Prop where
  ex : ∃ f fd ps, FnOk P w K mg base CX k f fd ps sp ∧ Mk K C f ∧ Binds K fd ps []
  mg : mg x = some (.ref C)
section
variable {P : Program} {w : World} {K : PySem.W.Frag} {mg : Str → Option Value} {base : Heap} {CX : CXT} {C : Addr} {x : Str} {sp : Sp}
theorem CalM.mono {j k : Nat} (c : CalM P w K mg base CX j C x sp) (h : j ≤ k) : CalM P w K mg base CX k C x sp :=
  let ⟨f, fd, ps, F, m, b⟩ := c.ex
  ⟨⟨f, fd, ps, F.mono h, m, b⟩, c.cl⟩
theorem CalM.imp {k : Nat} {sp' : Sp} (c : CalM P w K mg base CX k C x sp) (h : ∀ vs H Q E, sp' vs H Q E → sp vs H Q E) : CalM P w K mg base CX k C x sp' :=
  let ⟨f, fd, ps, F, m, b⟩ := c.ex
  ⟨⟨f, fd, ps, F.imp h, m, b⟩, c.cl⟩
end
section
variable {X : Cx} {x : Str} {p pos apos : Pos} {o e : Expr} {es : List Expr} {ta : TE} {t : TA} {sp : Sp} {j k : Nat} {CX : CXT} {E : XK} {C : Addr} {pl : Sem Bool}
theorem CalM.pex (c : CalM X.prog X.w X.K X.mg X.base CX j C x sp) (hr : Room k X.A) (hx : Passes CX X E) (ho : PE X o ta) (ha : PA X (e :: es) t) (hjk : j ≤ k := by first | decide | omega)
    (hst : starEach (e :: es) X.env = (false, eval e X.env) :: starEach es X.env := by rfl) (hpl : (backTo pos (starEach es X.env)).any (·.1) = false := by rfl)
    (ht : eval (.Call (.Attribute o x apos) (e :: es) [] pos) X.env = (do
      let ov ← eval o X.env
      standAt apos.atName
      let (f, first) ← holding [ov] (getMethod ov x pl)
      callWith pos f first (backTo pos (starEach (e :: es) X.env)) (backToKw pos (keywordEach [] X.env))) := by rfl) :
    PE X (.Call (.Attribute o x apos) (e :: es) [] pos) (tMeth C x sp [] E ta t) :=
  let ⟨_, _, _, F, m, b⟩ := c.ex
  pe_meth ho c.cl m F (hr.mono hjk) b .nil hx ha hst hpl ht
theorem CalM.pe (c : CalM X.prog X.w X.K X.mg X.base CX0 j C x sp) (hr : Room k X.A) (ho : PE X o ta) (ha : PA X (e :: es) t) (hjk : j ≤ k := by first | decide | omega)
    (hst : starEach (e :: es) X.env = (false, eval e X.env) :: starEach es X.env := by rfl) (hpl : (backTo pos (starEach es X.env)).any (·.1) = false := by rfl)
    (ht : eval (.Call (.Attribute o x apos) (e :: es) [] pos) X.env = (do
      let ov ← eval o X.env
      standAt apos.atName
      let (f, first) ← holding [ov] (getMethod ov x pl)
      callWith pos f first (backTo pos (starEach (e :: es) X.env)) (backToKw pos (keywordEach [] X.env))) := by rfl) :
    PE X (.Call (.Attribute o x apos) (e :: es) [] pos) (tMeth C x sp [] E0 ta t) := c.pex hr pass0 ho ha hjk hst hpl ht
/-- of a method that may raise, where it does not -/
theorem CalM.peL (c : CalM X.prog X.w X.K X.mg X.base (L2.CX X.prog X.w) j C x sp) (hr : Room k X.A) (ho : PE X o ta) (ha : PA X (e :: es) t) (hjk : j ≤ k := by first | decide | omega)
    (hst : starEach (e :: es) X.env = (false, eval e X.env) :: starEach es X.env := by rfl) (hpl : (backTo pos (starEach es X.env)).any (·.1) = false := by rfl)
    (ht : eval (.Call (.Attribute o x apos) (e :: es) [] pos) X.env = (do
      let ov ← eval o X.env
      standAt apos.atName
      let (f, first) ← holding [ov] (getMethod ov x pl)
      callWith pos f first (backTo pos (starEach (e :: es) X.env)) (backToKw pos (keywordEach [] X.env))) := by rfl) :
    PE X (.Call (.Attribute o x apos) (e :: es) [] pos) (tMeth C x sp [] E0 ta t) := c.pex hr passL ho ha hjk hst hpl ht
theorem CalM.pe0 (c : CalM X.prog X.w X.K X.mg X.base CX0 j C x sp) (hr : Room k X.A) (ho : PE X o ta) (hjk : j ≤ k := by first | decide | omega)
    (ht : eval (.Call (.Attribute o x apos) [] [] pos) X.env = (do
      let ov ← eval o X.env
      standAt apos.atName
      let (f, first) ← holding [ov] (getMethod ov x pl)
      callWith pos f first (backTo pos (starEach [] X.env)) (backToKw pos (keywordEach [] X.env))) := by rfl) :
    PE X (.Call (.Attribute o x apos) [] [] pos) (tMeth C x sp [] E0 ta tNil) :=
  let ⟨_, _, _, F, m, b⟩ := c.ex
  pe_meth0 ho c.cl m F (hr.mono hjk) b .nil pass0 ht
theorem CalK.pe0 (c : CalK X.prog X.w X.K X.mg X.base CX0 j C x sp) (hr : Room k X.A) (hjk : j + 1 ≤ k := by first | decide | omega) (hg : Gl X x := by rfl) (hdb : (x == ("__debug__" : Str)) = false := by decide) :
    PE X (.Call (.Name x p) [] [] pos) (tMake C sp [] E0 tNil) :=
  let ⟨_, _, _, F, m, b⟩ := c.ex
  pe_make0 m F (hr.mono hjk) hg c.mg b .nil pass0 hdb
end
section
variable {X : Cx}
theorem Blt.len_d {p pos : Pos} {e : Expr} {es : List Expr} {t : TA} (B : Blt X.mg) (ha : PA X (e :: es) t) (hg : Gl X "len" := by rfl) (he : starEach (e :: es) X.env = (false, eval e X.env) :: starEach es X.env := by rfl) (hpl : (backTo pos (starEach es X.env)).any (·.1) = false := by rfl) :
    PE X (.Call (.Name "len" p) (e :: es) [] pos) (tCB rLenT t) := pe_callB call_len_dT hg B.len PySem.boot_len ha (he := he) (hpl := hpl)
end
end SC

/-! try with several clauses that name the caught error, all by one name -/
namespace SC
open PySem PySem.Spec PyProof.Rows L2
/-- one clause's class and its suite's reading -/
abbrev Clause := Value × (Addr → Value → Option Addr → TS)
/-- how the name at the slot i goes behind a suite -/
def dropE (i : Nat) (D : Ends) : Ends := { nx := fun τ G => D.nx (τ.set i none) G, rt := D.rt, bk := fun τ G => D.bk (τ.set i none) G, ct := fun τ G => D.ct (τ.set i none) G }
/-- the wishes of the clauses, from the first -/
def wClauses (K : PySem.W.Frag) (i : Nat) (out : WX) (D : Ends) : List Clause → WX
  | [] => out
  | k :: r => fun cv dd τ G => ∃ yes, PySem.W.exmOne K cv k.1 = some yes ∧ if yes = true then (∀ e, G e = none → k.2 e cv dd (dropE i D) (τ.set i (some (.ref e))) G) else wClauses K i out D r cv dd τ G
/-- the clauses as they are written, each of them with the name n -/
inductive Written (X : Cx) (n : Str) : List ExceptHandler → List Clause → Prop
  | none : Written X n [] []
  | one {cn : Str} {k : Clause} {st : Stmt} {more : List Stmt} {p1 p2 : Pos} {hs : List ExceptHandler} {ks : List Clause} (named : Names X cn k.1)
      (runs : ∀ (e : Addr) (ob : Obj) (cv : Value) (dd : Option Addr) (held : List (Addr × Obj)), Zc cv dd ob → (∃ fs, ob.data = .fields fs) → PSs (X.suite e ((e, ob) :: held)) (st :: more) (k.2 e cv dd)) (rest : Written X n hs ks) :
      Written X n (.ExceptHandler (some (.Name cn p1)) (some n) (st :: more) p2 :: hs) (k :: ks)
section
variable {X : Cx} {n : Str} {i : Nat} {body : List Stmt} {first : ExceptHandler} {others : List ExceptHandler} {ks : List Clause} {pos : Pos} {tb : WX → TS} {out : WX}
theorem ps_try_asMany (stk : X.stack = X.env :: X.outer) (frm : X.env.frame = some X.env.locals) (nodup : X.N.Nodup) (slot : X.N[i]? = some n) (isLoc : X.env.kindOf n = some .local) (leaves : Takes X out)
    (runBody : ∀ (V : WX) (held : List (Addr × Obj)) (ex : Value → Shared → Prop), Takes (X.tr held ex) V → PassesOwn (model X.prog X.w) X.A X.env ex → PSs (X.tr held ex) body (tb V))
    (clauses : Written X n (first :: others) ks) : PS X (.Try body (first :: others) [] [] pos) (fun D τ G => tb (wClauses X.K i out D ks) D τ G) := by
  refine ⟨fun held s τ G D I pre => ?_⟩
  have good := I.ok
  have around : X.A.frames = some (X.env :: X.outer) := by rw [good.frames, stk]
  refine wpAny_Try_except ?_
  let after : Value → Shared → Prop := fun ev t1 => wpAny (model X.prog X.w) X.A (noteFrame ev X.env)
    (fun _ t2 => wpAny (model X.prog X.w) X.A (setFlight ev none) (fun _ t3 => wpAny (model X.prog X.w) X.A (handleBy ev X.env (first :: others)) (SP X held D) X.xe t3) X.xe t2) X.xe t1
  refine wpAny_mono ((runBody (wClauses X.K i out D ks) (X.pn ++ held) after (fun ev t thrown => ?_) PassesOwn.looking).run [] s τ G D (I.toTry _) pre) (fun flow t done => ?_) (fun _ _ z => z)
  · obtain ⟨e, base, sT, heldT, τ1, G1, cv, dd, rfl, IT, newer, upT, skyT, freeE, osT, gensT, wish⟩ := thrown
    have I1 : Inv X held τ1 G1 sT := IT.ofTry good
    show wpAny (model X.prog X.w) X.A (noteFrame (.ref e) X.env) _ _ _
    refine Sky.land Zc.steady around frm (by rw [← stk]; exact skyT) fun hA fly upA => ?_
    have IA : Inv X held τ1 G1 { t with heap := hA } := I1.landed newer fly.1 (upT.trans upA) osT gensT
    obtain ⟨ob, fs, obAt, obZ, obF⟩ := fly.there
    have offFrames : e ∉ frs (X.env :: X.outer) := fun inFrames => by
      obtain ⟨_, ob2, at2, notFields⟩ := fly.2.2.1.mem inFrames
      rw [obAt] at at2
      exact notFields _ (Option.some.inj at2 ▸ obF)
    have offLocals : e ≠ X.env.locals := fun z => offFrames (List.mem_filterMap.mpr ⟨X.env, List.mem_cons_self, by rw [frm, z]⟩)
    have offOuter : e ∉ X.fs := fun m =>
      let ⟨en, enIn, q⟩ := List.mem_filterMap.mp m
      offFrames (List.mem_filterMap.mpr ⟨en, List.mem_cons_of_mem _ enIn, q⟩)
    have inSuite := IA.suite obAt obF freeE offLocals offOuter
    clear pre
    suffices each : ∀ {hs : List ExceptHandler} {cs : List Clause}, Written X n hs cs → wClauses X.K i out D cs cv dd τ1 G1 →
        wpAny (model X.prog X.w) X.A (handleBy (.ref e) X.env hs) (SP X held D) X.xe { t with heap := hA } from each clauses wish
    intro hs cs written
    induction written with
    | none =>
      intro goesOn
      refine wpAny_handleBy_nil ?_
      obtain ⟨_, _, _, ob3, fs3, tb3, _, _, at3, _, f3, g3, _⟩ := id fly
      unfold PySem.passOn
      refine wpAny_bind (wpAny_field at3 f3 g3 ?_)
      rw [if_neg (by simp)]
      have again : wpAny (model X.prog X.w) X.A (setFlight (.ref e) X.env.frame) (fun _ t4 => wpAny (model X.prog X.w) X.A (throw (.ref e) : Sem Flow) (SP X held D) X.xe t4) X.xe { t with heap := hA } := by
        rw [frm]
        exact HandSPX.setFlight_upZ fly fun hB heldB upB => wpAny_throw (leaves _ _ ⟨e, base, sT, held, τ1, G1, cv, dd, rfl, I1, newer, (upT.trans upA).trans upB, .inr (.inr (by rw [stk]; exact heldB)), freeE, osT, gensT, goesOn⟩)
      first
        | exact wpAny_bind (wpAny_pure (wpAny_bind again))
        | exact wpAny_bind again
    | @one cn k st more p1 p2 hs2 ks2 named runs rest ih =>
      rintro ⟨yes, match1, w2⟩
      have looks := PySem.W.exm_one (M := model X.prog X.w) IA.kIn (fun A Q E u kk q => wpAny_typeOf_ref (kk _ _ obAt) (by rw [obZ.1]; exact q) : PySem.W.Looks (model X.prog X.w) hA (typeOf (.ref e)) cv) match1
      refine wpAny_handleBy_cons (codeAny_handlers_test ?_) (by intro q; cases q)
      have reads : ∀ {Q E : Value → Shared → Prop}, Q k.1 { t with heap := hA } → wpAny (model X.prog X.w) (X.A.mark (some (.ref e))) (eval (.Name cn p1) X.env) Q E { t with heap := hA } := fun {Q E} q => by
        rcases named with ⟨gl, nodbg, isMod | ⟨isMod, isB, nn⟩⟩
        · exact ld_glob (X := X.suite e ((e, ob) :: (X.pn ++ held))) inSuite gl isMod q nodbg
        · exact ld_blt (X := X.suite e ((e, ob) :: (X.pn ++ held))) inSuite gl isMod isB q nn nodbg
      refine reads (looks.here ?_)
      cases yes with
      | false =>
        rw [if_neg (by decide)] at w2
        show wpAny _ X.A (handleBy (.ref e) X.env hs2) _ _ _
        exact ih w2
      | true =>
        rw [if_pos rfl] at w2
        refine codeAny_handlers_suite_as (HandSPX.lands_againZ fly fun hB flyB upB => ?_)
        have IB : Inv X held τ1 G1 { t with heap := hB } := I1.landed newer flyB.1 ((upT.trans upA).trans upB) osT gensT
        obtain ⟨obB, fsB, atB, zB, fB⟩ := flyB.there
        refine store_ok (X := X.suite e ((e, obB) :: (X.pn ++ held))) (v := .ref e) (IB.suite atB fB freeE offLocals offOuter) nodup slot (.inl isLoc) rfl (fun t5 I5 => ?_) (.inr isLoc)
        refine wpAny_mono ((runs e obB cv dd (X.pn ++ held) zB ⟨_, fB⟩).run [] t5 _ G1 _ I5 (w2 e freeE)) (fun flow t6 ended => ?_) (fun _ _ z => False.elim z)
        have gone : ∀ {τ6 : L2.St} {G6 : Hp} {Q : Shared → Prop}, Inv (X.suite e ((e, obB) :: (X.pn ++ held))) [] τ6 G6 t6 → (∀ t7, Inv X held (τ6.set i none) G6 t7 → Q t7) →
            wpAny (model X.prog X.w) X.A (do bindName X.env n .none; unbindBehindTheSuite X.env n p2) (fun _ t7 => Q t7) X.xe t6 := fun {τ6 G6 Q} I6 q => gone_ok (I6.unsuite good) nodup slot isLoc q
        cases flow with
        | ret u => exact let ⟨_, _, _, I6, r6, q6⟩ := ended; gone I6 fun _ I7 => ⟨_, _, _, I7, r6, q6⟩
        | next => exact let ⟨_, _, I6, q6⟩ := ended; gone I6 fun _ I7 => ⟨_, _, I7, q6⟩
        | brk => exact let ⟨_, _, I6, q6⟩ := ended; gone I6 fun _ I7 => ⟨_, _, I7, q6⟩
        | cont => exact let ⟨_, _, I6, q6⟩ := ended; gone I6 fun _ I7 => ⟨_, _, I7, q6⟩
  · cases flow with
    | ret u => exact let ⟨_, _, _, J, r, q⟩ := done; ⟨_, _, _, J.ofTry good, r, q⟩
    | next => exact let ⟨_, _, J, q⟩ := done; wpAny_execs_nil ⟨_, _, J.ofTry good, q⟩
    | brk => exact let ⟨_, _, J, q⟩ := done; ⟨_, _, J.ofTry good, q⟩
    | cont => exact let ⟨_, _, J, q⟩ := done; ⟨_, _, J.ofTry good, q⟩
end
/-- o.m(..) of a method that may raise, the wish by the slots -/
def tMethV (C : Addr) (m : Str) (sp : Sp) (E : L2.St → XK) (ta : TE) (t : TA) : TE := fun σ H Q => ta σ H fun x H1 => ∃ a dx fs, x = .ref a ∧ H1 a = some (.ins C dx fs) ∧ fs.lookup m = none ∧ t σ H1 fun vs H2 => sp (x :: vs) H2 Q (E σ)
section
variable {X : Cx} {x : Str} {pos apos : Pos} {o e : Expr} {es : List Expr} {ta : TE} {t : TA} {sp : Sp} {j k : Nat} {C : Addr} {pl : Sem Bool} {V : WX}
theorem CalM.peV (c : CalM X.prog X.w X.K X.mg X.base (L2.CX X.prog X.w) j C x sp) (hr : Room k X.A) (tk : Takes X V) (ho : PE X o ta) (ha : PA X (e :: es) t) (hjk : j ≤ k := by first | decide | omega)
    (hst : starEach (e :: es) X.env = (false, eval e X.env) :: starEach es X.env := by rfl) (hpl : (backTo pos (starEach es X.env)).any (·.1) = false := by rfl)
    (ht : eval (.Call (.Attribute o x apos) (e :: es) [] pos) X.env = (do
      let ov ← eval o X.env
      standAt apos.atName
      let (f, first) ← holding [ov] (getMethod ov x pl)
      callWith pos f first (backTo pos (starEach (e :: es) X.env)) (backToKw pos (keywordEach [] X.env))) := by rfl) :
    PE X (.Call (.Attribute o x apos) (e :: es) [] pos) (tMethV C x sp (WE V) ta t) := by
  obtain ⟨f, fd, ps, F, M, b⟩ := c.ex
  refine ⟨fun held s σ H Q I pre => PySem.W.methodCall_KW (pl := pl) (thn (ho.run held s σ H _ I pre) fun u s1 gives => ?_) ht⟩
  obtain ⟨v, H1, I1, rel, p, dx, fs, rfl, isIns, noField, args⟩ := gives
  cases (show u = Value.ref p from rel)
  refine getmeth_ok I1 isIns c.cl M noField (PySem.W.callWith_K (first := [.ref p]) (h₀ := X.base) I.ok.mod.kin M.kp (thn (ha.run pos held s1 σ H1 _ I1 args) fun us s2 told => ?_) hst hpl)
  obtain ⟨vs, H2, I2, rels, q⟩ := told
  exact ⟨I2.kIn, run_fnS (us := .ref p :: us) (vs := .ref p :: vs) F (hr.mono hjk) b (passAt tk σ) I2 (.cons rfl rels) q⟩
/-- a suite that is read under what the caught error is -/
theorem pss_given {Y : Cx} {b : List Stmt} {u : TS} {p : Prop} (h : p → PSs Y b u) : PSs Y b (fun D σ H => p ∧ u D σ H) := ⟨fun held s σ H D I both => (h both.1).run held s σ H D I both.2⟩
/-- int(b) -/
theorem call_intB : CallR X (.type "int") (fun xs H Q => ∃ k : Bool, xs = [.bl k] ∧ Q (.int (if k then 1 else 0)) H) := fun pins s σ H xs us Q I r h => call_int1 pins s σ H xs us Q I r (.inr h)
theorem Blt.int_b {p : Pos} (B : Blt X.mg) (ha : PA X (e :: es) t) (hg : Gl X "int" := by rfl) (he : starEach (e :: es) X.env = (false, eval e X.env) :: starEach es X.env := by rfl) (hpl : (backTo pos (starEach es X.env)).any (·.1) = false := by rfl) :
    PE X (.Call (.Name "int" p) (e :: es) [] pos) (tCB (fun xs H Q => ∃ k : Bool, xs = [.bl k] ∧ Q (.int (if k then 1 else 0)) H) t) :=
  pe_callTy call_intB hg B.int (by decide +kernel) ha (he := he) (hpl := hpl)
end
end SC

set_option maxHeartbeats 3200000
/-! sorted(set(xs)) and sorted(xs) of texts, of any number -/
namespace SC
open PySem PySem.Spec PyProof.Rows L2
open PySem.Froz (SD sObj TxOk addTx tailTx add_ok is_str)
section
variable {P : Program} {w : World} {A : Around} {E : Value → Shared → Prop} {s : Shared}
/-- the set at a holds the texts l, each once; its table rises and can be walked -/
structure TxR (P : Program) (w : World) (h : Heap) (a : Addr) (l : List Str) : Prop where
  ex : ∃ D, h.get? a = some (sObj "set" D) ∧ TxOk P w D l ∧ Ris D.2.2.place.toList ∧ (w.params.followText "set-order" = true ∨ D.2.2.led = true)
  nd : l.Nodup
theorem TxR.at {h h' : Heap} {a : Addr} {l : List Str} (R : TxR P w h a l) (k : ∀ o, h.get? a = some o → h'.get? a = some o) : TxR P w h' a l :=
  let ⟨D, e, r⟩ := R.ex
  ⟨⟨D, k _ e, r⟩, R.nd⟩
/-- the set that set() makes, before the first item -/
abbrev newSetObj (w : World) : Obj := { cls := .type "set", dict := none, data := .set #[] 0 (.fresh 0 0 (!w.params.followText "set-order")) }
theorem TxR.fresh {h : Heap} {a : Addr} (e : h.get? a = some (newSetObj w)) : TxR P w h a [] := by
  refine ⟨⟨(#[], 0, .fresh 0 0 (!w.params.followText "set-order")), e, TxOk.nil rfl, List.Pairwise.nil, ?_⟩, List.nodup_nil⟩
  show _ ∨ (!w.params.followText "set-order") = true
  cases w.params.followText "set-order" <;> simp
theorem addTx_walk {hs : Int} {v : Value} {D : SD} (r : Ris D.2.2.place.toList) (g : w.params.followText "set-order" = true ∨ D.2.2.led = true) :
    Ris (addTx hs v D).2.2.place.toList ∧ (w.params.followText "set-order" = true ∨ (addTx hs v D).2.2.led = true) := by
  obtain ⟨es, ep, t⟩ := D
  have r1 := layNew_ris t es hs v r
  have l1 := layNew_led t es hs v
  unfold addTx tailTx
  dsimp only
  generalize layNew t es hs v = L at r1 l1 ⊢
  obtain ⟨e1, t1, wd, gv⟩ := L
  dsimp only at r1 l1 ⊢
  have r2 : Ris (if t1.plain = true then { t1 with plain := false } else t1).place.toList := by split <;> exact r1
  have l2 : (if t1.plain = true then { t1 with plain := false } else t1).led = t.led := by split <;> exact l1
  generalize (if t1.plain = true then { t1 with plain := false } else t1) = t2 at r2 l2 ⊢
  split
  · refine ⟨relayAll_ris t2 e1 _, g.imp id fun q => ?_⟩
    rw [relayAll_led, l2]; exact q
  · exact ⟨r2, g.imp id fun q => by rw [l2]; exact q⟩
/-- one text is put in -/
theorem TxR.add {a : Addr} {l : List Str} {k : Str} {u : Tok} {Q : Bool → Shared → Prop} (R : TxR P w s.heap a l) (few : l.length + 1 < scanBound)
    (q : ∀ h' b, Heap.SameBut a s.heap h' → TxR P w h' a (if k ∈ l then l else k :: l) → Q b { s with heap := h' }) : wpAny (model P w) A (setAddHashed a (.str k u) (hashStr w k)) Q E s := by
  obtain ⟨D, at_, ok, ris, walk⟩ := R.ex
  by_cases m : k ∈ l
  · obtain ⟨es, ep, t⟩ := D
    have few0 : es.size < scanBound := by have : es.size = l.length := ok.sz; omega
    unfold setAddHashed setAddHashedIn
    refine wpAny_holding (wpAny_bind (wpAny_setState_of at_ (show (sObj "set" (es, ep, t)).data = .set es ep t from rfl) ok.fit ?_))
    dsimp only
    rw [byScan_of (x := Value.str k u) rfl few0 ok.el, if_pos rfl]
    unfold setAddByScan
    refine wpAny_bind (wpAny_bind (wpAny_rule (wpAny_bind (wpAny_setScan_of (knd := strKind P w) (k := k) (is_str k u) at_ (show (sObj "set" (es, ep, t)).data = .set es ep t from rfl) ok.fit ok.el ?_))))
    obtain ⟨e, he, hp⟩ := (ok.mem k).mp m
    cases fnd : List.findIdx? (fun e => (strKind P w).is k e.2) es.toList with
    | none =>
      have := List.findIdx?_eq_none_iff.mp fnd e he
      rw [hp] at this; cases this
    | some j =>
      have z := q s.heap false (Heap.SameBut.refl a s.heap) (by rw [if_pos m]; exact R)
      exact wpAny_pure (wpAny_pure z)
  · refine PySem.Froz.add_x at_ ok m few (q _ _ ?_ ?_)
    · exact ⟨by rw [Heap.size_update], fun b hb => Heap.get?_update_other _ _ (Ne.symm hb)⟩
    · rw [if_neg m]
      exact ⟨⟨addTx (hashStr w k) (.str k u) D, PySem.Froz.get_upd _ at_ rfl, add_ok u ok, addTx_walk ris walk⟩, List.nodup_cons.mpr ⟨m, R.nd⟩⟩
/-- what the first i of xs make of the set at S -/
def Upto (P : Program) (w : World) (S : Addr) (xs : List Str) (i : Nat) (h : Heap) : Prop := ∃ l, TxR P w h S l ∧ (∀ z, z ∈ l ↔ z ∈ xs.take i) ∧ l.length ≤ i
theorem Upto.at {h h' : Heap} {S : Addr} {xs : List Str} {i : Nat} (u : Upto P w S xs i h) (k : ∀ o, h.get? S = some o → h'.get? S = some o) : Upto P w S xs i h' := let ⟨l, r, m⟩ := u; ⟨l, r.at k, m⟩
theorem Upto.more {h' : Heap} {S : Addr} {xs l : List Str} {i : Nat} {z : Str} (at_ : xs[i]? = some z) (mem : ∀ y, y ∈ l ↔ y ∈ xs.take i) (len : l.length ≤ i) (R : TxR P w h' S (if z ∈ l then l else z :: l)) : Upto P w S xs (i + 1) h' := by
  refine ⟨_, R, fun y => ?_, ?_⟩
  · rw [List.take_add_one, at_, List.mem_append, Option.toList_some, List.mem_singleton, ← mem y]
    split
    · rename_i m
      exact ⟨.inl, fun q => q.elim id fun e => by rw [e]; exact m⟩
    · rw [List.mem_cons]
      exact or_comm
  · split
    · omega
    · exact Nat.succ_le_succ len
theorem loop_txts {it S : Addr} {fp wr : List Addr} {G : Array GenState → Array GenState → Prop} {n : Nat} {Pv : Nat → Value → Prop} {St : Nat → Shared → Prop} {R : Result → Shared → Prop} {xs : List Str}
    (W : WalksS P w A.in1 it fp wr G n Pv St) (off : S ∉ fp) (len : n = xs.length) (few : xs.length + 1 < scanBound) (vals : ∀ i v, Pv i v → ∃ z u, xs[i]? = some z ∧ v = Value.str z u) :
    ∀ (k i : Nat) (s : Shared), n - i = k → i ≤ n → St i s → Upto P w S xs i s.heap → (∀ s', Moved (S :: wr) G s s' → Upto P w S xs n s'.heap → R (.ok (.ret .none)) s') →
      codeAny (model P w) A (.builtin "set.update.loop" ⟨[.ref S, .ref it], []⟩) R s := by
  have offW : S ∉ wr := fun m => off (W.sub _ m)
  intro k
  induction k with
  | zero =>
    intro i s left le st up out
    obtain rfl : i = n := by omega
    refine codeAny_builtin F.entry_set_update_loop (by
      rw [Around.under_plainId F.plain_set_update_loop _]
      exact wpAny_bind (m := pyNext (.ref it)) (W.done s _ _ st fun s' moved => wpAny_pure (out s' (moved.mono fun b hb => List.mem_cons_of_mem _ hb) (up.at fun o e => moved.heap S o offW e))))
  | succ k ih =>
    intro i s left le st up out
    have lt : i < n := by omega
    refine codeAny_builtin F.entry_set_update_loop (by
      rw [Around.under_plainId F.plain_set_update_loop _]
      refine wpAny_bind (m := pyNext (.ref it)) (W.item i s _ _ lt st fun v s' is_ st' moved => ?_)
      obtain ⟨z, u, at_, rfl⟩ := vals i v is_
      obtain ⟨l, tr, mem, ll⟩ := up.at (h' := s'.heap) fun o e => moved.heap S o offW e
      refine wpAny_bind (m := holding [Value.str z u] (setAdd S (.str z u))) (wpAny_holding ?_)
      unfold setAdd
      refine wpAny_holding (wpAny_bind ((strKind P w).pyHash (k := z) (is_str z u) ?_))
      refine TxR.add (s := { s' with toks := s'.toks + 1 }) tr (by omega) fun h' b same R2 => ?_
      have frame : ∀ c ∈ fp, ∀ o, s'.heap.get? c = some o → h'.get? c = some o := fun c hc o e => by rw [same.2 c (fun z : c = S => off (by rw [← z]; exact hc))]; exact e
      refine wpAny_pure ⟨plainId_quiet F.plain_set_update_loop _, ih (i + 1) _ (by omega) lt (W.frame _ s' _ _ st' (Nat.le_succ _) frame) (Upto.more at_ mem ll R2) fun s2 moved2 up2 => out s2 (Moved.trans W.gtrans (((moved.mono fun b hb => List.mem_cons_of_mem _ hb)).then_heap (Nat.le_succ _) fun b o off2 e => ?_) moved2) up2⟩
      rw [same.2 b fun z : b = S => off2 (by rw [z]; exact List.mem_cons_self)]
      exact e)
local macro_rules | `(tactic| walk_at "go") => `(tactic| repeat (any_goals (first | assumption | wp_step)))
/-- set(xs), xs a list of texts -/
theorem set_of_txts {l : Addr} {items : Array Value} {xs : List Str} {Q : Value → Shared → Prop} (hh : A.handled = none) (isL : s.heap.IsList l items) (txt : StrsAre items.toList xs) (few : xs.length + 1 < scanBound)
    (q : ∀ (h' : Heap) (tk : Nat), Upto P w s.heap.objs.size xs xs.length h' → (∀ b o, s.heap.get? b = some o → h'.get? b = some o) → Q (.ref s.heap.objs.size) { s with heap := h', toks := tk }) :
    wpAny (model P w) A (call (.type "set") [.ref l]) Q E s := by
  have size : items.size = xs.length := by have z := StrsAre.length txt; rwa [Array.length_toList] at z
  let S := s.heap.objs.size
  let h1 := s.heap.push (newSetObj w)
  have at1 : h1.get? S = some (newSetObj w) := Heap.get?_push_size _ rfl
  have size1 : h1.objs.size = S + 1 := Heap.size_push ..
  obtain ⟨c, tl, mro⟩ := F.called_set.mro
  have made := F.called_set.made
  have sub := F.called_set.sub
  refine wpAny_call (codeAny_of_tree (wpAny_pure ⟨Code.quiet_builtin _ (by decide +kernel), codeAny_builtin F.entry_type_call ?_⟩))
  rw [Around.under_plain (weight_type_call_type "set" [.ref l] []) rfl]
  have nt := F.called_set.notType
  have cc := F.called_set.canCreate
  have tc := F.typeCall_set_1 (.ref l)
  walk_at "go"
  refine codeAny_mono (code_set_led1 (.ref l) (E := E) (Q₁ := fun obj t => obj = .ref S ∧ t = { s with heap := h1 }) ⟨rfl, rfl⟩) fun r t hr => ?_
  cases r with
  | error e => exact hr
  | ok fl =>
    cases fl with
    | next => exact hr.elim
    | brk => exact hr.elim
    | cont => exact hr.elim
    | ret obj =>
      obtain ⟨rfl, rfl⟩ := hr
      have ty : Shared.TypeIs { s with heap := h1 } (.ref S) "set" := ⟨_, at1, rfl⟩
      have li := F.called_set.init.lookup
      have bi := F.called_set.init.bind (.ref S)
      walk_at "go"
      refine codeAny_mono (codeAny_call_builtin (R := wants (fun r t2 => r = .none ∧ ∃ h' tk, t2 = { s with heap := h', toks := tk } ∧ Upto P w S xs xs.length h' ∧ ∀ b o, s.heap.get? b = some o → h'.get? b = some o) E) F.called_set.init.plain F.entry_set_init (check_set_init_1 ty ?_)) fun r2 t2 hr2 => ?_
      · obtain ⟨⟨cls, dct, dat, sls⟩, got, isCls, nn, isDat⟩ := isL
        simp only at isCls isDat
        subst isCls isDat
        have got1 : h1.get? l = some { cls := .type "list", dict := dct, data := .seq items nn, slots := sls } := Heap.get?_push_of_some _ got
        have q1 := F.sub_list_set
        have q2 := F.sub_list_frozenset
        have q3 : (Value.type "list" == Value.type "dict") = false := by decide
        have isL1 : h1.IsList l items := ⟨_, got1, rfl, nn, rfl⟩
        have ltS : l < S := Heap.lt_size got
        unfold Builtin.«set.__init__» noKeywords Builtin.Frozenset.updateFrom
        generalize keepIter : pyIter = PI
        wp_walk
        subst keepIter
        refine wpAny_pyIter_list isL1 (wpAny_bind (wpAny_runValue ?_))
        have calm : A.in1.in1.in1.handled = none := by simp [hh]
        have neIt : l ≠ h1.objs.size := by rw [size1]; exact Nat.ne_of_lt (Nat.lt_succ_of_lt ltS)
        have off : S ∉ [h1.objs.size, l] := by
          rw [size1]
          intro m
          rcases List.mem_cons.mp m with z | z
          · exact Nat.ne_of_lt (Nat.lt_succ_self _) z
          · exact Nat.ne_of_gt ltS (List.mem_singleton.mp z)
        have vals : ∀ (i : Nat) (v : Value), items[i]? = some v → ∃ z u, xs[i]? = some z ∧ v = Value.str z u := fun i v hv => by
          have hi : i < xs.length := by rw [← size]; exact (Array.getElem?_eq_some_iff.mp hv).1
          obtain ⟨u, e⟩ := SS.strs_at txt i v (by rw [Array.getElem?_toList]; exact hv)
          refine ⟨xs[i], u, List.getElem?_eq_getElem hi, e.trans ?_⟩
          rw [List.getD_eq_getElem?_getD, List.getElem?_eq_getElem hi]
          all_goals rfl
        refine loop_txts (xs := xs) (P := P) (w := w) ((Walks.list calm _ l neIt items).toS) off size few vals (items.size - 0) 0 _ (by omega) (Nat.zero_le _) ⟨⟨_, Heap.get?_push_size _ rfl, rfl, rfl⟩, isL1.push _⟩ ?first ?last
        case first => exact ⟨[], TxR.fresh (Heap.get?_push_of_some _ at1), fun z => by simp, Nat.le_refl _⟩
        case last =>
          rintro ⟨h', g', d', tk', os'⟩ moved up
          obtain rfl : g' = s.gens := moved.gens
          obtain rfl : d' = s.drawn := moved.drawn
          obtain rfl : os' = s.os := moved.os
          rw [size] at up
          refine wpAny_pure (wpAny_pure ⟨rfl, h', tk', rfl, up, fun b o e => ?_⟩)
          have ltb : b < S := Heap.lt_size e
          refine moved.heap b o (fun m => ?_) (Heap.get?_push_of_some _ (Heap.get?_push_of_some _ e))
          rcases List.mem_cons.mp m with z | z
          · exact Nat.ne_of_lt ltb z
          · have z := List.mem_singleton.mp z
            rw [size1] at z
            exact absurd z (Nat.ne_of_lt (Nat.lt_succ_of_lt ltb))
      · cases r2 with
        | error e => exact hr2
        | ok fl2 =>
          cases fl2 with
          | next => exact hr2.elim
          | brk => exact hr2.elim
          | cont => exact hr2.elim
          | ret r =>
            obtain ⟨rfl, h', tk, rfl, up, kept⟩ := hr2
            walk_at "go"
            exact q _ _ up kept
end
end SC

namespace SC
open PySem PySem.Spec PyProof.Rows L2
open PySem.Froz (SD sObj TxOk)
/-! the order of texts -/
def lt (x y : Str) : Bool := ltCps (TL.tl x) (TL.tl y)
theorem ltc_irr : ∀ a : List Nat, ltCps a a = false
  | [] => rfl
  | x :: r => by
    show (decide (x < x) || (x == x && ltCps r r)) = false
    rw [ltc_irr r, decide_eq_false (Nat.lt_irrefl x), Bool.and_false]; rfl
theorem ltc_trans : ∀ a b c : List Nat, ltCps a b = true → ltCps b c = true → ltCps a c = true
  | [], [], _, h, _ => by cases h
  | [], _ :: _, [], _, h => by cases h
  | [], _ :: _, _ :: _, _, _ => rfl
  | _ :: _, [], _, h, _ => by cases h
  | _ :: _, _ :: _, [], _, h => by cases h
  | x :: a, y :: b, z :: c, h1, h2 => by
    have k1 : (decide (x < y) || (x == y && ltCps a b)) = true := h1
    have k2 : (decide (y < z) || (y == z && ltCps b c)) = true := h2
    show (decide (x < z) || (x == z && ltCps a c)) = true
    clear h1 h2
    simp only [Bool.or_eq_true, Bool.and_eq_true, decide_eq_true_eq, beq_iff_eq] at k1 k2 ⊢
    rcases k1 with k1 | ⟨e1, k1⟩
    · rcases k2 with k2 | ⟨e2, _⟩
      · exact .inl (Nat.lt_trans k1 k2)
      · exact .inl (by omega)
    · rcases k2 with k2 | ⟨e2, k2⟩
      · exact .inl (by omega)
      · exact .inr ⟨e1.trans e2, ltc_trans a b c k1 k2⟩
theorem ltc_tri : ∀ a b : List Nat, a = b ∨ ltCps a b = true ∨ ltCps b a = true
  | [], [] => .inl rfl
  | [], _ :: _ => .inr (.inl rfl)
  | _ :: _, [] => .inr (.inr rfl)
  | x :: a, y :: b => by
    show _ ∨ (decide (x < y) || (x == y && ltCps a b)) = true ∨ (decide (y < x) || (y == x && ltCps b a)) = true
    simp only [Bool.or_eq_true, Bool.and_eq_true, decide_eq_true_eq, beq_iff_eq]
    rcases Nat.lt_trichotomy x y with h | rfl | h
    · exact .inr (.inl (.inl h))
    · rcases ltc_tri a b with rfl | h | h
      · exact .inl rfl
      · exact .inr (.inl (.inr ⟨rfl, h⟩))
      · exact .inr (.inr (.inr ⟨rfl, h⟩))
    · exact .inr (.inr (.inl h))
theorem lt_irr (x : Str) : lt x x = false := ltc_irr _
theorem lt_trans {x y z : Str} (h1 : lt x y = true) (h2 : lt y z = true) : lt x z = true := ltc_trans _ _ _ h1 h2
theorem lt_tri (x y : Str) : x = y ∨ lt x y = true ∨ lt y x = true := (ltc_tri (TL.tl x) (TL.tl y)).imp TL.ext_tl id
theorem lt_asym {x y : Str} (h : lt x y = true) : lt y x = false := by
  cases e : lt y x with
  | false => rfl
  | true =>
    have := lt_trans h e
    rw [lt_irr] at this; cases this
/-- strictly ascending -/
def asc : List Str → Bool
  | [] => true
  | x :: r => (match r with | [] => true | y :: _ => lt x y) && asc r
theorem asc_cons {x : Str} {r : List Str} : asc (x :: r) = true ↔ (∀ y ∈ r, lt x y = true) ∧ asc r = true := by
  induction r generalizing x with
  | nil => exact ⟨fun _ => ⟨fun y h => absurd h List.not_mem_nil, rfl⟩, fun _ => rfl⟩
  | cons y r ih =>
    show (lt x y && asc (y :: r)) = true ↔ _
    rw [Bool.and_eq_true]
    constructor
    · rintro ⟨h1, h2⟩
      refine ⟨fun z hz => ?_, h2⟩
      rcases List.mem_cons.mp hz with rfl | hz
      · exact h1
      · exact lt_trans h1 ((ih.mp h2).1 z hz)
    · rintro ⟨h1, h2⟩
      exact ⟨h1 y List.mem_cons_self, h2⟩
theorem asc_nodup : ∀ {l : List Str}, asc l = true → l.Nodup
  | [], _ => List.nodup_nil
  | x :: r, h => by
    obtain ⟨h1, h2⟩ := asc_cons.mp h
    refine List.nodup_cons.mpr ⟨fun m => ?_, asc_nodup h2⟩
    have := h1 x m
    rw [lt_irr] at this; cases this
/-- an ascending list is known by its members -/
theorem asc_eq : ∀ {l m : List Str}, asc l = true → asc m = true → (∀ z, z ∈ l ↔ z ∈ m) → l = m
  | [], [], _, _, _ => rfl
  | [], y :: _, _, _, h => absurd ((h y).mpr List.mem_cons_self) List.not_mem_nil
  | x :: _, [], _, _, h => absurd ((h x).mp List.mem_cons_self) List.not_mem_nil
  | x :: l, y :: m, h1, h2, h => by
    obtain ⟨a1, a2⟩ := asc_cons.mp h1
    obtain ⟨b1, b2⟩ := asc_cons.mp h2
    have e : x = y := by
      rcases List.mem_cons.mp ((h x).mp List.mem_cons_self) with e | e
      · exact e
      rcases List.mem_cons.mp ((h y).mpr List.mem_cons_self) with e2 | e2
      · exact e2.symm
      have := lt_asym (b1 x e)
      rw [a1 y e2] at this; cases this
    subst e
    congr 1
    refine asc_eq a2 b2 fun z => ?_
    constructor
    · intro hz
      rcases List.mem_cons.mp ((h z).mp (List.mem_cons_of_mem _ hz)) with e | e
      · subst e
        have := a1 z hz
        rw [lt_irr] at this; cases this
      · exact e
    · intro hz
      rcases List.mem_cons.mp ((h z).mpr (List.mem_cons_of_mem _ hz)) with e | e
      · subst e
        have := b1 z hz
        rw [lt_irr] at this; cases this
      · exact e
theorem rise_cons : ∀ (p : Str) (l : List Str), risingS p l = true → (p :: l).Nodup → asc (p :: l) = true
  | _, [], _, _ => rfl
  | p, x :: r, h, n => by
    have h : (!ltCps x.cps.toList p.cps.toList && risingS x r) = true := h
    rw [Bool.and_eq_true] at h
    show (lt p x && asc (x :: r)) = true
    rw [rise_cons x r h.2 (List.nodup_cons.mp n).2, Bool.and_true]
    rcases lt_tri p x with e | e | e
    · exact absurd (by rw [e]; exact List.mem_cons_self) (List.nodup_cons.mp n).1
    · exact e
    · have e : ltCps x.cps.toList p.cps.toList = true := e
      rw [e] at h; cases h.1
theorem asc_of {l : List Str} (h : sortedS l = true) (n : l.Nodup) : asc l = true := by
  cases l with
  | nil => rfl
  | cons x r => exact rise_cons x r h n
theorem perm_sub {α : Type} [DecidableEq α] : ∀ (l m : List α), l.Nodup → (∀ x ∈ l, x ∈ m) → m.length ≤ l.length → l.Perm m
  | [], m, _, _, h => by
    have : m = [] := List.eq_nil_of_length_eq_zero (Nat.le_zero.mp h)
    rw [this]
  | x :: l, m, n, s, h => by
    obtain ⟨n1, n2⟩ := List.nodup_cons.mp n
    have hx := s x List.mem_cons_self
    have p := List.perm_cons_erase hx
    refine ((perm_sub l (m.erase x) n2 (fun y hy => ?_) ?_).cons x).trans p.symm
    · exact (List.mem_erase_of_ne (fun e => n1 (by rw [← e]; exact hy))).mpr (s y (List.mem_cons_of_mem _ hy))
    · have := p.length_eq
      rw [List.length_cons] at this
      rw [List.length_cons] at h
      omega
section
variable {P : Program} {w : World} {A : Around} {E : Value → Shared → Prop} {s : Shared}
def txtOf : Value → Str
  | .str z _ => z
  | _ => Str.empty
theorem strsAre_map : ∀ (vs : List Value), (∀ v ∈ vs, ∃ z u, v = Value.str z u) → StrsAre vs (vs.map txtOf)
  | [], _ => .nil
  | v :: r, h => by
    obtain ⟨z, u, rfl⟩ := h v List.mem_cons_self
    exact .cons z u (strsAre_map r fun y hy => h y (List.mem_cons_of_mem _ hy))
/-- sorted(S), S a set of texts -/
theorem sorted_txts {a : Addr} {l : List Str} {Q : Value → Shared → Prop} (R : TxR P w s.heap a l) (few : l.length < scanBound) (hh : A.handled = none)
    (q : ∀ (s' : Shared) (p : Addr) (out : Array Value) (c : Nat) (ys : List Str), (∀ b o, s.heap.get? b = some o → s'.heap.get? b = some o) → s'.gens = s.gens → s'.os = s.os → s.heap.objs.size ≤ p → s'.heap.get? p = some (seqObj "list" out c) → StrsAre out.toList ys → ys.Perm l → sortedS ys = true → Q (.ref p) s') :
    wpAny (model P w) A (call (.builtin "sorted") [.ref a]) Q E s := by
  obtain ⟨⟨es, ep, t⟩, at_, ok, ris, walk⟩ := R.ex
  have size : es.size = l.length := ok.sz
  refine Calls.call_function_entry kind_sorted plain_sorted entry_sorted (args_sorted1 _) ?_
  unfold Builtin.«sorted»
  refine wpAny_bind (m := checkCount "sorted" 1 1 _) (wpAny_pure (wpAny_bind (collect_set (A := A.in1) hh ⟨_, at_, rfl, rfl⟩ ok.fit (by rw [size]; exact few) ris walk fun s1 vs kept bigger gens os perm => ?_)))
  have lenV : vs.length = l.length := by rw [perm.length_eq, List.length_map, Array.length_toList]; exact size
  have allT : ∀ v ∈ vs, ∃ z u, v = Value.str z u ∧ z ∈ l := fun v hv => by
    obtain ⟨e, he, rfl⟩ := List.mem_map.mp (perm.mem_iff.mp hv)
    obtain ⟨⟨k, isK, _⟩, _⟩ := ok.el e he
    have m : k ∈ l := (ok.mem k).mpr ⟨e, he, isK⟩
    have isK : Value.isStrOf k e.2 = true := isK
    cases q : e.2 <;> rw [q] at isK <;> first | (cases isK; done) | skip
    rename_i z u
    have : z = k := by simpa [Value.isStrOf] using isK
    exact ⟨z, u, rfl, by rw [this]; exact m⟩
  have txt := strsAre_map vs fun v hv => let ⟨z, u, e, _⟩ := allT v hv; ⟨z, u, e⟩
  have permL : (vs.map txtOf).Perm l := by
    refine (perm_sub l (vs.map txtOf) R.nd (fun z hz => ?_) (by rw [List.length_map, lenV]; exact Nat.le_refl _)).symm
    obtain ⟨e, he, isK⟩ := (ok.mem z).mp hz
    have mv : e.2 ∈ vs := perm.mem_iff.mpr (List.mem_map.mpr ⟨e, he, rfl⟩)
    obtain ⟨y, u, ey, _⟩ := allT _ mv
    have isK : Value.isStrOf z e.2 = true := isK
    rw [ey] at isK mv
    have : y = z := by simpa [Value.isStrOf] using isK
    exact List.mem_map.mpr ⟨_, mv, this⟩
  have fits : vs.length ≤ sizeLine := by rw [lenV]; exact Nat.le_trans (Nat.le_of_lt few) (by rw [sizeLine_eq]; decide)
  refine wpAny_bind (wpAny_newList ?_ fits)
  have atL : (s1.heap.push (seqObj "list" vs.toArray 0)).get? s1.heap.objs.size = some (seqObj "list" vs.toArray 0) := Heap.get?_push_size _ rfl
  refine wpAny_bind (wpAny_holding (wpAny_call_entry slot_list_sort ⟨_, atL, rfl⟩ entry_list_sort (list_sort_treeKAny strKind_oneLt atL txt.keysOf (fun v1 v2 rest e => keyKind_strs (by rw [← e]; exact txt)) fits fun st hp hs => ?_) (args_list_sort _)))
  obtain ⟨ys, isY, permY, srt⟩ := sorted_out_str txt hp hs
  obtain ⟨c, atS⟩ := sortedHeap_at (vs := vs) (out := (arrOf st).map (·.2)) atL
  refine ⟨_, rfl, wpAny_pure ⟨_, rfl, q _ s1.heap.objs.size _ c ys (fun b u e => ?_) gens os bigger atS isY (permY.trans permL) srt⟩⟩
  have old := Heap.lt_size (kept b u e)
  show (sortedHeap (s1.heap.push (seqObj "list" vs.toArray 0)) s1.heap.objs.size vs ((arrOf st).map (·.2))).get? b = some u
  rw [sortedHeap_old (Nat.ne_of_lt old) (by rw [Heap.size_push]; exact Nat.lt_succ_of_lt old)]
  exact Heap.get?_push_of_some _ (kept b u e)
end
section
variable {X : Cx}
theorem strsOf : ∀ {ys : List Str} {us : List Value}, Vals (ys.map V.str) us → StrsAre us ys
  | [], _, .nil => .nil
  | y :: ys, _, .cons r t => by
    obtain ⟨k, rfl⟩ := r
    exact .cons y k (strsOf t)
/-- sorted(xs) of texts, of any number -/
def rSortedA (K : PySem.W.Frag) : List V → Hp → VK → Prop := fun vs H Q => ∃ (a : Addr) (xs : List Str), vs = [V.ref a] ∧ SqL K H a (xs.map V.str) ∧ ∀ (ys : List Str) (p : Addr), ys.Perm xs → sortedS ys = true → H p = none → Q (.ref p) (upd H p (.lst (ys.map V.str)))
theorem cr_sortedA : CallR X (.builtin "sorted") (rSortedA X.K) := by
  intro pins s σ H vs us Q I r h
  obtain ⟨a, xs, rfl, isL, q⟩ := h
  obtain ⟨its, rv, hl, fits⟩ := I.list isL
  rw [Vals.ref1 r]
  refine sorted_strsAny hl.isList (strsOf rv) (by rw [← rv.length]; exact fits) fun out ys isY perm srt => ?_
  obtain ⟨c, atS⟩ := sortedAll_at s.heap its out
  have len : (ys.map V.str).length ≤ sizeLine := by
    rw [List.length_map] at fits ⊢
    rw [perm.length_eq]; exact fits
  have J := I.laid (a := s.heap.objs.size + 1) (o := .lst (ys.map V.str)) (t' := s.toks) (fun _ _ => sortedAll_old) (Nat.le_succ _) ⟨len, out.toList, c, vals_of_strs isY, atS⟩
  exact ⟨.ref _, _, J, rfl, q ys _ perm srt (I.hok.fresh (Nat.le_succ _))⟩
/-- sorted(set(xs)), xs a list of texts -/
def tSortSet (K : PySem.W.Frag) (ta : TE) : TE := fun σ H Q => ta σ H fun x H1 => ∃ (l : Addr) (xs : List Str), x = .ref l ∧ SqL K H1 l (xs.map V.str) ∧ xs.length ≤ 1000 ∧
  ∀ (ys : List Str) (p : Addr), asc ys = true → (∀ z, z ∈ ys ↔ z ∈ xs) → H1 p = none → Q (.ref p) (upd H1 p (.lst (ys.map V.str)))
theorem pe_sortSet {e : Expr} {ta : TE} {p1 p2 p3 p4 : Pos} (calm : X.calm = true) (g1 : Gl X "sorted") (m1 : X.mg "sorted" = none) (g2 : Gl X "set") (m2 : X.mg "set" = none) (he : PE X e ta)
    (one : starEach [e] X.env = (false, eval e X.env) :: starEach [] X.env := by rfl) : PE X (.Call (.Name "sorted" p1) [.Call (.Name "set" p2) [e] [] p3] [] p4) (tSortSet X.K ta) := by
  refine ⟨fun held s σ H Q I pre => Call_ (ld_blt I g1 m1 (show bootBuiltins "sorted" = some (.builtin "sorted") by decide +kernel) (callWith_builtin1 (args_cons (Call_ (ld_blt I g2 m2 (show bootBuiltins "set" = some (.type "set") by decide +kernel) (callWith_type1 (args_cons (thn (he.run held s σ H _ I pre) fun u s1 gives => args_nil ?_) one) one rfl))) rfl) rfl rfl))⟩
  obtain ⟨v, H1, I1, rel, l, xs, rfl, isL, few, q⟩ := gives
  cases (show u = Value.ref l from rel)
  obtain ⟨its, rv, hl, _⟩ := I1.list isL
  have bound : xs.length + 1 < scanBound := Nat.lt_of_le_of_lt (Nat.succ_le_succ few) (by decide)
  have hh : X.A.handled = none := I1.ok.hd calm
  refine set_of_txts hh hl.isList (by simpa using strsOf rv) bound fun h' tk up kept => args_nil ?_
  obtain ⟨ms, tr, mem, le⟩ := up
  rw [List.take_of_length_le (Nat.le_refl _)] at mem
  have lms : ms.length < scanBound := Nat.lt_of_le_of_lt le (Nat.lt_of_succ_lt bound)
  refine sorted_txts (s := { s1 with heap := h', toks := tk }) tr lms hh fun s' p out c ys kept2 gens os bigger atS isY perm srt => ?_
  have old : ∀ b o, s1.heap.get? b = some o → s'.heap.get? b = some o := fun b o q => kept2 b o (kept b o q)
  obtain ⟨_, atD, _⟩ := id tr.ex
  have ge : s1.heap.objs.size ≤ p := Nat.le_trans (Nat.le_of_lt (Heap.lt_size atD)) bigger
  have free : H1 p = none := I1.hok.fresh ge
  have len : (ys.map V.str).length ≤ sizeLine := by
    rw [List.length_map, perm.length_eq]
    exact Nat.le_trans (Nat.le_of_lt lms) (by rw [sizeLine_eq]; decide)
  have J : Inv X held σ (upd H1 p (.lst (ys.map V.str))) { s1 with heap := s'.heap, gens := s'.gens, drawn := s'.drawn, toks := s'.toks } :=
    I1.call (ch := []) (Un.laid old ge free) (I1.hok.laid old ge ⟨len, out.toList, c, vals_of_strs isY, atS⟩) (by rw [gens]; exact I1.bare) (fun _ z => nomatch z)
  have same : s' = { s1 with heap := s'.heap, gens := s'.gens, drawn := s'.drawn, toks := s'.toks } := by
    obtain ⟨a1, a2, a3, a4, a5⟩ := s'
    obtain rfl : a5 = s1.os := os
    rfl
  rw [same]
  exact ⟨.ref p, _, J, rfl, q ys p (asc_of srt (perm.nodup_iff.mpr tr.nd)) (fun z => (perm.mem_iff).trans (mem z)) free⟩
end
end SC

set_option maxHeartbeats 2000000 -- from here on
/-! sum(..) over a generator expression whose element is any expression of the layer -/
namespace SC
open PySem PySem.Spec PyProof.Rows L2 GenW
open GxR (TabB TabG Tabbed inv_tab sh_eta)
/-- the list in which sum keeps what it has -/
def sob (a : Int) (t : Tok) (c : Nat) : Obj := { cls := .type "list", dict := none, data := .seq #[.int a t] c, slots := #[] }
section
variable {Y : Cx} {go : Addr × Obj} {W : Nat → Nat → List (Addr × Obj) → L2.St → Hp → Prop} {B : Nat → Nat → List (Addr × Obj) → V → L2.St → Hp → Prop} {Dn : List (Addr × Obj) → L2.St → Hp → Prop}
theorem cp_one {S : Addr} {cp : List (Addr × Obj)} {h : Heap} {o : Obj} (e : h.get? S = some o) (hcp : Cp [S] cp) (hs0 : ∀ p ∈ cp, h.get? p.1 = some p.2) : cp = [(S, o)] := by
  unfold Cp at hcp
  cases cp with
  | nil => cases hcp
  | cons p r =>
    rw [List.map_cons, List.cons.injEq, List.map_eq_nil_iff] at hcp
    obtain ⟨rfl, rfl⟩ := hcp
    have := hs0 p List.mem_cons_self
    rw [e] at this
    rw [Option.some.inj this]
/-- sum(..) walks it -/
theorem sum_loop_gen {gi : Nat} {A : Around} {R : Result → Shared → Prop} {S : Addr} {V : Nat → Nat → Int → L2.St → Hp → Prop} {Dv : Int → L2.St → Hp → Prop} (hh : A.handled = none) (hroom : A.depth < recursionLimit) (hgo : ∀ h : Heap, h.get? go.1 = some go.2 → h.IsGen go.1 gi) (nS : cStatics ≠ S) (ngo : S ≠ go.1)
    (hW : ∀ i m a t c σ H, V i m a σ H → W i m [(S, sob a t c)] σ H)
    (hB : ∀ i m y σ H a t c, B i m [(S, sob a t c)] y σ H → ∃ k, y = .int k ∧ InLong k ∧ InLong (a + k) ∧ ∃ m', m' < m ∧ V (i + 1) m' (a + k) σ H)
    (hD : ∀ a t c σ H, Dn [(S, sob a t c)] σ H → Dv a σ H) (hR : ∀ pp a σ H s t, Inv Y pp σ H s → Dv a σ H → R (.ok (.ret (.int a t))) s) :
    ∀ (n : Nat) (s : Shared) (a : Int) (t : Tok) (c : Nat), Asl Y A.in1.in1 go gi [S] W B Dn n s → s.heap.get? S = some (sob a t c) → codeAny (model Y.prog Y.w) A (.builtin "sum.loop" ⟨[.ref go.1, .ref S, rawInt 0, rawInt 0], []⟩) R s := by
  intro n
  induction n using Nat.strongRecOn with
  | ind n ih =>
    intro s a t c al hS
    refine codeAny_builtin F.entry_sum_loop ?_
    rw [Around.under_plainId F.plain_sum_loop _]
    show wpAny _ A.in1 (seqItems? (.ref S) >>= _) _ _ s
    refine wpAny_bind (wpAny_seqItems hS rfl ?_)
    show wpAny _ A.in1 (tryCatch (pyNext (.ref go.1)) _ >>= _) _ _ s
    refine wpAny_bind (wpAny_tryCatch (next_gen (C := A.in1) hh hroom hgo al (fun i m cp y v σ H s' hcp hs0 rv I hb again => ?_) fun cp σ H s' hcp hs0 I dn => ?_))
    · obtain rfl := cp_one hS hcp hs0
      obtain ⟨k, rfl, ⟨f1, f2⟩, ⟨f3, f4⟩, m', hm', w'⟩ := hB i m y σ H a t c hb
      obtain ⟨t2, rfl⟩ : ∃ t2, v = .int k t2 := rv
      have hS' : s'.heap.get? S = some (sob a t c) := (I.pin (S, sob a t c) (List.mem_append_right _ (List.mem_cons_of_mem _ List.mem_cons_self))).1
      have hc : ((decide (-(2 ^ 63) ≤ k) && decide (k < 2 ^ 63)) && (decide (-(2 ^ 63) ≤ a + k) && decide (a + k < 2 ^ 63))) = true := by
        simp only [Bool.and_eq_true, decide_eq_true_eq]
        exact ⟨⟨f1, f2⟩, f3, f4⟩
      show wpAny _ A.in1 (if (_ : Bool) = true then (mkInt (a + k) >>= _) else _) _ _ _
      split
      · refine wpAny_bind (wpAny_mkInt ?_)
        show wpAny _ A.in1 (updateSeq S (fun _ => #[.int (a + k) s'.toks]) >>= _) _ _ _
        refine wpAny_bind ?_
        refine wpAny_updateSeq hS' rfl ?_
        have e2 : (s'.heap.update S (Obj.mapSeq fun _ => #[Value.int (a + k) s'.toks])).get? S = some (sob (a + k) s'.toks _) := Heap.get?_update_self _ hS' rfl
        have oth : ∀ b o, b ≠ S → s'.heap.get? b = some o → (s'.heap.update S (Obj.mapSeq fun _ => #[Value.int (a + k) s'.toks])).get? b = some o := fun b o hb e => (Heap.get?_update_other _ _ (Ne.symm hb)).trans e
        obtain ⟨j, hj, aj⟩ := again { s' with heap := s'.heap.update S (Obj.mapSeq fun _ => #[Value.int (a + k) s'.toks]), toks := s'.toks + 1 } [(S, sob (a + k) s'.toks _)] ⟨rfl, I.bare, fun b o hb e => oth b o (by simpa using hb) e⟩ rfl rfl
          (fun p hp => by rw [List.mem_singleton.mp hp]; exact ⟨e2, fun v z => by cases z⟩)
          (oth _ _ (Ne.symm ngo) (I.pin go (List.mem_append_right _ List.mem_cons_self)).1) (I.nolimit.at fun o e => oth _ _ nS e) m' hm' (hW _ _ _ _ _ _ _ w')
        exact wpAny_pure ⟨plainId_quiet F.plain_sum_loop _, ih j hj _ _ _ _ aj e2⟩
      · rename_i hneg
        exact absurd hc hneg
    · obtain rfl := cp_one hS hcp hs0
      exact wpAny_pure (hR _ a σ H s' t I (hD _ _ _ _ _ dn))
end
end SC
namespace SC
open PySem PySem.Spec PyProof.Rows L2 GenW
open GxR (TabB TabG Tabbed inv_tab sh_eta)
section
variable {X : Cx} {N : List Str} {nt : Nat} {fr : List Nat} {scope : Scope}
theorem sob_inj {S : Addr} {a b : Int} {t u : Tok} {c d : Nat} (h : [(S, sob a t c)] = [(S, sob b u d)]) : a = b := by
  have h := (Prod.mk.inj (List.cons.inj h).1).2
  have h := congrArg Obj.data h
  have h : Data.seq #[Value.int a t] c = Data.seq #[Value.int b u] d := h
  injection h with h _
  have h := congrArg Array.toList h
  injection h with h _
  injection h
/-- the turns of a sum, as a reading -/
def tForS (J : It) (g : TG) (tt : TT) (te : TE) (σ : L2.St) (H : Hp) (Q : VK) : Prop := ∃ V : Nat → Nat → Int → L2.St → Hp → Prop, (∃ m, V 0 m 0 σ H) ∧ ∀ i m a σ H, V i m a σ H →
  (J.stop i H ∧ Q (.int a) H) ∨ (J.go i H ∧ ∃ Nx : Int → L2.St → Hp → Prop, (∀ b σ' H', Nx b σ' H' → ∃ m', m' < m ∧ V (i + 1) m' b σ' H') ∧ ∀ x H', J.yld i H x H' → g x σ H' fun σ2 H2 => tt σ2 H2 fun b H3 =>
    if b = true then te σ2 H3 (fun y H4 => ∃ k, y = .int k ∧ InLong k ∧ InLong (a + k) ∧ Nx (a + k) σ2 H4) else Nx a σ2 H3)
/-- sum(elt for tg in iter if ..); st: the captured names -/
def tSumG (P : Addr) (wi : TI) (g : TG) (tt : TT) (te : TE) (st : L2.St → L2.St) : TE := fun σ H Q => wi σ H fun J H1 => TabG H1 P ∧ ∀ H2, Tabbed P H1 H2 → tForS J g tt te (st σ) H2 Q
theorem pe_sumG {c P : Addr} {elt iter tg : Expr} {ifs : List Expr} {p pos gpos : Pos} {wi : TI} {g : TG} {tt : TT} {te : TE} {k : Nat} (hcalm : X.calm = true) (hr : Room (k + 2) X.A) (hz : X.mg "sum" = none) (TB : TabB X.base X.mg c P) (hcode : X.env.code = .ref c)
    (S : GnS scope) (hfr : freeOk scope X.env.scope = true) (hcap : capOk N nt fr X.N scope X.env.scope = true) (hi : PI X tg iter wi)
    (hg : ∀ C code fp s4 H4, Room k (gxC X N scope C code fp s4 H4).A → PG (gxC X N scope C code fp s4 H4) tg g) (ht : ∀ C code fp s4 H4, Room k (gxC X N scope C code fp s4 H4).A → PTs (gxC X N scope C code fp s4 H4) ifs tt)
    (he : ∀ C code fp s4 H4, Room k (gxC X N scope C code fp s4 H4).A → PE (gxC X N scope C code fp s4 H4) elt te)
    (hs : ∀ v, genFold iter X.env v = pure v) (hgl : Gl X "sum" := by rfl)
    (hse : starEach [.GeneratorExp elt [⟨tg, iter, ifs, 0⟩] scope gpos] X.env = (false, eval (.GeneratorExp elt [⟨tg, iter, ifs, 0⟩] scope gpos) X.env) :: starEach [] X.env := by rfl) :
    PE X (.Call (.Name "sum" p) [.GeneratorExp elt [⟨tg, iter, ifs, 0⟩] scope gpos] [] pos) (tSumG P wi g tt te (capSt nt fr)) := by
  refine ⟨fun pins s σ H Q I h => ?_⟩
  have hh : X.A.handled = none := I.ok.hd hcalm
  refine wpAny_Call_Name_kw (ld_blt I hgl hz (show bootBuiltins "sum" = some (.builtin "sum") by decide +kernel) ?_)
  refine PyProof.Rows.callWith_builtin1 ?_ hse (by rfl)
  rw [hse]
  show wpAny _ _ (spliced ((false, eval (.GeneratorExp elt [⟨tg, iter, ifs, 0⟩] scope gpos) X.env) :: backTo pos (starEach [] X.env))) _ _ s
  refine Calls.spliced_cons (gen_mkI (N := N) (nt := nt) (fr := fr) (R := fun J H2 => tForS J g tt te (capSt nt fr σ) H2 Q) hcalm hr TB hcode S hfr hcap hi hs I h fun J H2 a s5 hR hF => ?_)
  refine Calls.spliced_nil ?_
  obtain ⟨s4, code, fp, it, tn, go, gi, I4, hf, hlt, ha, ha2, T, st5, hgo, hga, hgs, I5⟩ := hF
  obtain ⟨V, ⟨m0, w0⟩, turn⟩ := hR
  have hrA : Room k (gxC X N scope s4.heap.objs.size code fp s4 H2).A := by
    have r1 := hr.dp
    have r2 := hr.un
    have q1 : (gxC X N scope s4.heap.objs.size code fp s4 H2).A.depth = X.A.depth + 1 := rfl
    have q2 : (gxC X N scope s4.heap.objs.size code fp s4 H2).A.units = X.A.units + 1 + 1 + 3 := rfl
    exact ⟨hh, by omega, by omega⟩
  refine call_function_tree F.kind_sum F.plain_sum F.entry_sum (F.args_sum1 _) ?_
  unfold Builtin.«sum»
  simp only [List.length_cons, List.length_nil]
  rw [if_neg (by decide)]
  refine wpAny_bind (wpAny_of_eq (show Builtin.Builtins.bindParams "sum" ["start"] 0 { } = pure [none] from rfl) ?_)
  refine wpAny_bind (wpAny_pyIter_gen (hgo _ hga) ?_)
  refine wpAny_bind (wpAny_mkInt ?_)
  refine wpAny_bind (wpAny_pure ?_)
  simp only [List.forIn_cons, List.forIn_nil]
  refine wpAny_bind (wpAny_bind (wpAny_bind (wpAny_isInstance (T := "int") (b := false) (typeIs_int _ _ _) PySem.sub_int_str ?_)))
  simp only [Bool.false_eq_true, if_false]
  refine wpAny_pure (wpAny_bind (wpAny_bind (wpAny_isInstance (T := "int") (b := false) (typeIs_int _ _ _) PySem.sub_int_bytes ?_)))
  simp only [Bool.false_eq_true, if_false]
  refine wpAny_pure (wpAny_bind (wpAny_bind (wpAny_isInstance (T := "int") (b := false) (typeIs_int _ _ _) PySem.sub_int_bytearray ?_)))
  simp only [Bool.false_eq_true, if_false]
  refine wpAny_pure (wpAny_pure ?_)
  refine wpAny_bind (wpAny_newObj_type ?_)
  have depth : X.A.depth < recursionLimit := by have := hr.dp; omega
  have sz : s4.heap.objs.size < s5.heap.objs.size := Nat.lt_trans ha ha2
  have hn2 : H2 s5.heap.objs.size = none := I5.hok.fresh (Nat.le_refl _)
  have fo := I5.fpOk (Nat.le_refl _) hn2
  have nS : cStatics ≠ s5.heap.objs.size := let ⟨_, b, _⟩ := I5.nolimit; Nat.ne_of_lt b.lt
  have e6 : (s5.heap.push (sob 0 s5.toks 0)).get? s5.heap.objs.size = some (sob 0 s5.toks 0) := Heap.get?_push_size _ rfl
  have I6 : L2.Inv (gxC X N scope s4.heap.objs.size code fp s4 H2) [(a, go)] (capSt nt fr σ) H2 { s5 with heap := s5.heap.push (sob 0 s5.toks 0), toks := s5.toks + 1 } := inv_kept I5 rfl I5.bare fun b o e => Heap.get?_push_of_some _ e
  have I7 := I6.pinned (fp := [s5.heap.objs.size]) (fun b hb => by rw [List.mem_singleton.mp hb]; exact fo) (fun b hb => by rw [List.mem_singleton.mp hb]; exact ⟨_, e6, fun v z => by cases z⟩)
  have ep : pinsAt [s5.heap.objs.size] (s5.heap.push (sob 0 s5.toks 0)) = [(s5.heap.objs.size, sob 0 s5.toks 0)] := by
    unfold pinsAt
    rw [List.filterMap_cons, e6]; rfl
  rw [show pinsAt [s5.heap.objs.size] ({ s5 with heap := s5.heap.push (sob 0 s5.toks 0), toks := s5.toks + 1 } : Shared).heap = _ from ep] at I7
  refine wpAny_pure ⟨plainId_quiet F.plain_sum_loop _, ?_⟩
  refine sum_loop_gen (Y := gxC X N scope s4.heap.objs.size code fp s4 H2) (go := (a, go)) (gi := gi) (S := s5.heap.objs.size) (V := V)
    (W := fun i m cp σ H => ∃ b t c, cp = [(s5.heap.objs.size, sob b t c)] ∧ V i m b σ H)
    (B := fun i m cp y σ H => ∃ b t c k, cp = [(s5.heap.objs.size, sob b t c)] ∧ y = .int k ∧ InLong k ∧ InLong (b + k) ∧ ∃ m', m' < m ∧ V (i + 1) m' (b + k) σ H)
    (Dn := fun cp _ H => ∃ b t c, cp = [(s5.heap.objs.size, sob b t c)] ∧ Q (.int b) H) (Dv := fun b _ H => Q (.int b) H)
    hh depth hgo nS (Nat.ne_of_gt ha2) (fun i m b t c σ H v => ⟨b, t, c, rfl, v⟩) (fun i m y σ H b t c ⟨b2, t2, c2, k, e, q1, q2, q3, q4⟩ => by
      have := sob_inj e; subst this; exact ⟨k, q1, q2, q3, q4⟩) (fun b t c σ H ⟨b2, t2, c2, e, q⟩ => by have := sob_inj e; subst this; exact q)
    (fun pp b σ' H' s' t J' q => ⟨.int b, H', back_to I4 hf J', ⟨_, rfl⟩, q⟩) (m0 + 1) _ 0 s5.toks 0 ⟨hgo _ (Heap.get?_push_of_some _ hga), I6.nolimit, _, hgs, rfl, ?_⟩ e6
  refine seg_turns0 (Y := gxC X N scope s4.heap.objs.size code fp s4 H2) (fp := fp) (tn := tn) (J := J) (tg := tg) (g := g) (tt := tt) (te := te) rfl (fun _ _ z => z) rfl T (hg _ _ _ _ _ hrA) (ht _ _ _ _ _ hrA) (he _ _ _ _ _ hrA) S.co (fun i m cp σ H w => ?_)
    (fun cp H' hcp h0 => stat_of S I4 hf hlt hfr (Nat.le_refl _) (fun p hp => ?_) h0) (fun b hb => ?_) (fun p hp hb => ?_) (fun b hb hb2 => ?_) (Nat.lt_succ_self m0) (cp := [(s5.heap.objs.size, sob 0 s5.toks 0)]) rfl (fun p hp => ?_) (inv_kept I7 rfl (allBare_setGen I7.bare rfl) fun _ _ e => e) (T.keep 0 _ _ st5 fun b hb o e => Heap.get?_push_of_some _ e) (fun b hb => (hf b hb).1) ⟨0, s5.toks, 0, rfl, w0⟩
  · obtain ⟨b, t, c, rfl, v⟩ := w
    rcases turn i m b σ H v with ⟨q1, q2⟩ | ⟨q1, Nt, hN, q2⟩
    · exact .inl ⟨q1, b, t, c, rfl, q2⟩
    · exact .inr ⟨q1, fun y σ' H' => ∃ k, y = .int k ∧ InLong k ∧ InLong (b + k) ∧ Nt (b + k) σ' H', Nt b, fun y σ' H' ⟨k, e, z1, z2, z3⟩ => ⟨b, t, c, k, rfl, e, z1, z2, hN _ _ _ z3⟩, fun σ' H' z => let ⟨m', hm, vv⟩ := hN _ _ _ z; ⟨m', hm, b, t, c, rfl, vv⟩, q2⟩
  · rcases List.mem_cons.mp hp with e | hp
    · rw [e]; exact Nat.le_of_lt ha
    · have h1 : p.1 ∈ cp.map (·.1) := List.mem_map_of_mem hp
      rw [hcp] at h1
      rw [List.mem_singleton.mp h1]; exact Nat.le_of_lt sz
  · rw [List.mem_singleton.mp hb]
    exact ⟨Nat.le_of_lt sz, fo.2.2.2.2.1⟩
  · exact fo.2.2.2.2.2 p hp (List.mem_singleton.mp hb)
  · rw [List.mem_singleton.mp hb2] at hb
    exact absurd (Nat.lt_trans (hlt _ hb) sz) (Nat.lt_irrefl _)
  · rw [List.mem_singleton.mp hp]; exact e6
theorem sum_tup {K : PySem.W.Frag} {a : Addr} {xs : List L2.V} {g : TG} {tt : TT} {te : TE} {σ : L2.St} {H : Hp} {Q : VK} (Pv : Nat → Int → L2.St → Hp → Prop) (h0 : Pv 0 0 σ H) (hl : ∀ i b σ H, i ≤ xs.length → Pv i b σ H → SqT K H a xs)
    (hs : ∀ i b x σ H, xs[i]? = some x → Pv i b σ H → g x σ H fun σ2 H2 => tt σ2 H2 fun c H3 => if c = true then te σ2 H3 (fun y H4 => ∃ k, y = .int k ∧ InLong k ∧ InLong (b + k) ∧ Pv (i + 1) (b + k) σ2 H4) else Pv (i + 1) b σ2 H3)
    (hd : ∀ b σ H, Pv xs.length b σ H → Q (.int b) H) : tForS (Itt K a) g tt te σ H Q := by
  refine ⟨fun i m b σ H => m = xs.length - i ∧ i ≤ xs.length ∧ Pv i b σ H, ⟨xs.length, by simp, Nat.zero_le _, h0⟩, ?_⟩
  rintro i m b σ H ⟨rfl, hi, p⟩
  have q := hl i b σ H hi p
  by_cases hlt : i < xs.length
  · refine .inr ⟨⟨xs, xs[i], q, by simp [hlt]⟩, Pv (i + 1), fun b' σ' H' p' => ⟨xs.length - (i + 1), by omega, rfl, hlt, p'⟩, fun x H' y => ?_⟩
    obtain ⟨e, y⟩ := y
    subst e
    exact hs i b x σ _ (y xs q) p
  · have e : i = xs.length := by omega
    subst e
    exact .inl ⟨⟨xs, q, Nat.le_refl _⟩, hd b σ H p⟩
end
end SC

namespace SC
open PySem L2
def top (i : Nat) : Stmt := PySem.Challenge.pw_sealchart_k15_what_seal_refuses.main.body.getD i (.Pass ⟨0, 0, 0, 0⟩)
local macro_rules | `(tactic| walk_at "wp") => `(tactic| simp (config := { decide := false }) only [tFmtX, gCons, gNil, tSeq, tAsg, tIfS, tRet, tTest, tOp, tUn, tVar, tC, tCB, tCall, tCons, tNil, tLst, tTup, tAnd, tOr, tNot, tAndV, tOrV, tNotV, tB, tChain, tIf, tIsT, tSl, rSlS, tNoPart, tPart, tErr, tAug, ipI, tDrop, tM1, tBM, rAppend, tFld, sFld, sDPut, tDGet1, tDNewT, tMeth, tMake, gSub, gName, tNext, rI, rI0, rU, rEq, rNe, scal, rSetL, L2.start, List.map_cons, List.map_nil, List.length_cons, List.length_nil, List.replicate, List.cons_append, List.nil_append, List.append_nil, List.getElem?_cons_zero, List.getElem?_cons_succ, List.set_cons_zero, List.set_cons_succ, cxOf,
    Option.some.injEq, V.int.injEq, V.ref.injEq, V.str.injEq, V.bl.injEq, V.ty.injEq, HO.lst.injEq, HO.tup.injEq, List.cons.injEq, exists_eq_left, exists_eq_left', exists_eq_right, exists_and_left, exists_eq, and_true, true_and, and_assoc, reduceCtorEq, false_and, and_false, exists_false, or_false, false_or, decide_eq_true_eq, Bool.not_eq_true', decide_eq_false_iff_not, decide_true, decide_false, Bool.false_eq_true, upd_same, at0, at1, ixN_20, ixN_21, ixN_10, if_true, if_false, ite_true, ite_false, Nat.reduceAdd, Nat.reduceSub, tyN_non, tyN_bl, tyN_int, tyN_str, isaB_all])
local macro_rules | `(tactic| walk_at "wt") => `(tactic| simp (config := { decide := false }) only [tTest, tOp, tVar, tC, tCB, tCons, tNil, tSl, rSlS, tNoPart, tPart, tB, tAnd, tOr, tNot, tAndV, tOrV, tNotV, tChain, tIsT, rI, rI0, rU, rEq, rNe, scal, List.getElem?_cons_zero, List.getElem?_cons_succ,
    Option.some.injEq, V.int.injEq, V.ref.injEq, V.str.injEq, V.bl.injEq, V.ty.injEq, HO.lst.injEq, HO.tup.injEq, List.cons.injEq, exists_eq_left, exists_eq_left', exists_eq_right, exists_and_left, exists_eq, and_true, true_and, and_assoc, reduceCtorEq, false_and, and_false, exists_false, or_false, false_or, decide_eq_true_eq, Bool.not_eq_true', decide_eq_false_iff_not, decide_true, decide_false, Bool.false_eq_true, upd_same, at0, at1, ixN_20, ixN_21, ixN_10, if_true, if_false, ite_true, ite_false, Nat.reduceAdd, Nat.reduceSub, tyN_non, tyN_bl, tyN_int, tyN_str, isaB_all])
/-! the law's own helpers: cell, stream, take, char, string -/
abbrev s_law_cell : Stmt := top 32
abbrev N_law_cell : List Str := ["script", "k"]
theorem sc_law_cell : FnScope N_law_cell ["script", "k"] (defScope s_law_cell) := ⟨rfl, rfl, rfl, by decide +kernel, rfl, by decide +kernel, by decide +kernel⟩
abbrev s_law_stream : Stmt := top 33
abbrev N_law_stream : List Str := ["cell"]
theorem sc_law_stream : FnScope N_law_stream ["cell"] (defScope s_law_stream) := ⟨rfl, rfl, rfl, by decide +kernel, rfl, by decide +kernel, by decide +kernel⟩
abbrev s_law_take : Stmt := top 34
abbrev N_law_take : List Str := ["stream", "many", "worth"]
theorem sc_law_take : FnScope N_law_take ["stream", "many"] (defScope s_law_take) := ⟨rfl, rfl, rfl, by decide +kernel, rfl, by decide +kernel, by decide +kernel⟩
abbrev s_law_char : Stmt := top 35
abbrev N_law_char : List Str := ["k", "chars"]
theorem sc_law_char : FnScope N_law_char ["k"] (defScope s_law_char) := ⟨rfl, rfl, rfl, by decide +kernel, rfl, by decide +kernel, by decide +kernel⟩
abbrev s_law_string : Stmt := top 36
abbrev N_law_string : List Str := ["stream", "most", "size", "k"]
theorem sc_law_string : FnScope N_law_string ["stream", "most"] (defScope s_law_string) := ⟨rfl, rfl, rfl, by decide +kernel, rfl, by decide +kernel, by decide +kernel⟩
def spCell (K : PySem.W.Frag) : Sp := fun vs H Q _ => ∃ (a : Addr) (ns : List Int) (k : Nat), vs = [.ref a, .int k] ∧ SqL K H a (ns.map V.int) ∧ Q (.int (ns.getD k 0)) H
def spStream : Sp := fun vs H Q _ => ∃ z : Int, vs = [.int z] ∧ ∀ s, H s = none → ∀ a b : Int, Q (.ref s) (upd H s (.lst [.int a, .int b]))
def spTake : Sp := fun vs H Q _ => ∃ (s : Addr) (m : Int), vs = [.ref s, .int m] ∧ Strm H s ∧ (0 < m ∧ m < 2 ^ 200) ∧
  ∀ (w : Int) (H' : Hp), 0 ≤ w → w < m → Kp [s] H H' → Strm H' s → Q (.int w) H'
/-- the 94 signs of the law's alphabet -/
def abc : List Nat := (List.range 95).map (· + 32) |>.filter (· != 37)
def spChar : Sp := fun vs H Q _ => ∃ k : Int, vs = [.int k] ∧ 0 ≤ k ∧ k < 94 ∧ Q (.str ⟨#[abc.getD k.toNat 0]⟩) H
def spString : Sp := fun vs H Q _ => ∃ (s : Addr) (m : Int), vs = [.ref s, .int m] ∧ Strm H s ∧ 0 ≤ m ∧ m < 1000 ∧
  ∀ (z : Str) (H' : Hp), z.length ≤ m.toNat → (∀ c ∈ z.cps.toList, c ∈ abc) → Kp [s] H H' → Strm H' s → Q (.str z) H'
section
variable {P : Program} {w : World} {K : PySem.W.Frag} {mg : Str → Option Value} {base : Heap} {f : Addr} {fd : FuncData}
theorem two200 {m : Int} (h0 : 0 < m) (h : m < 2 ^ 200) : CDivW a m := by
  refine wide_div (b := 200) h0 ?_ (by decide) (by decide)
  have : (2 : Int) ^ 200 = ((2 ^ 200 : Nat) : Int) := by decide +kernel
  rw [this] at h
  omega
theorem ok_cell (F : Fun K "_law_cell" "_law_cell" s_law_cell f fd) (B : Blt mg) : FnOk P w K mg base CX0 1 f fd ["script", "k"] (spCell K) := by
  refine F.ok sc_law_cell (fun vs H Q E h => ?_) (fun cdv A outer s H vs Q E hr h => ?_)
  · obtain ⟨a, ns, k, rfl, _⟩ := h; rfl
  obtain ⟨a, ns, k, rfl, hS, q⟩ := h
  refine ⟨_, (pss_cons (ps_if (pt_cmpR op_lt (pv 1) (B.len_q (pa_cons (pv 0) pa_nil)) (nomark _)) (pss_one (ps_ret (pe_ix ix_list (pv 0) (pv 1) (fun _ _ => rfl)))) pss_nil)
    (pss_one (ps_ret pe_int))), ?_⟩
  walk_at "wp"
  refine ⟨_, Or.inl hS, ?_⟩
  rw [List.length_map]
  by_cases c : k < ns.length
  · rw [if_pos (by omega)]
    rw [List.getD_eq_getElem?_getD, List.getElem?_eq_getElem c] at q
    exact ⟨a, _, (k : Int), V.int ns[k], rfl, rfl, hS, atI_nat (j := k) (by rw [List.getElem?_map, List.getElem?_eq_getElem c] <;> rfl), q⟩
  · rw [if_neg (by omega)]
    rw [List.getD_eq_getElem?_getD, List.getElem?_eq_none (by omega)] at q
    exact q
theorem ok_stream (F : Fun K "_law_stream" "_law_stream" s_law_stream f fd) (B : Blt mg) : FnOk P w K mg base CX0 1 f fd ["cell"] spStream := by
  refine F.ok sc_law_stream (fun vs H Q E h => ?_) (fun cdv A outer s H vs Q E hr h => ?_)
  · obtain ⟨z, rfl, _⟩ := h; rfl
  obtain ⟨z, rfl, q⟩ := h
  refine ⟨_, (pss_cons (ps_if (pt_cmpR op_ge (pv 0) (pe_op op_pow pe_int pe_int) (nomark _)) (pss_one (ps_ret (pe_lst (pa_cons (pv 0) (pa_cons pe_int pa_nil))))) pss_nil)
    (pss_one (ps_ret (pe_lst (pa_cons pe_int (pa_cons (pv 0) pa_nil)))))), ?_⟩
  walk_at "wp"
  have e2 : (2 : Nat) ≤ sizeLine := by decide
  refine ⟨by refine ⟨?_, ?_, ?_⟩ <;> decide, ?_⟩
  split
  · exact ⟨e2, fun p hp => q p hp _ _⟩
  · exact ⟨e2, fun p hp => q p hp _ _⟩
theorem ok_take (F : Fun K "_law_take" "_law_take" s_law_take f fd) (B : Blt mg) : FnOk P w K mg base CX0 1 f fd ["stream", "many"] spTake := by
  refine F.ok sc_law_take (fun vs H Q E h => ?_) (fun cdv A outer s H vs Q E hr h => ?_)
  · obtain ⟨s, m, rfl, _⟩ := h; rfl
  obtain ⟨p, m, rfl, ⟨a, b, hp⟩, ⟨m0, m1⟩, q⟩ := h
  refine ⟨_, (pss_cons (ps_if (pt_cmpR op_gt (pe_ix ix_lM (pv 0) pe_int (fun _ _ => rfl)) pe_int (nomark _)) (pss_cons (ps_set (i := 2) sc_law_take.nd rfl (Or.inl rfl) (pe_op op_mod (B.int_i (pa_cons (pe_ix ix_lM (pv 0) pe_int (fun _ _ => rfl)) pa_nil)) (pv 1)))
    (pss_cons (ps_asg (pe_op op_fdivW (pe_ix ix_lM (pv 0) pe_int (fun _ _ => rfl)) (pv 1)) (pg_sub (pv 0) pe_int set_list))
    (pss_one (ps_ret (pv 2))))) pss_nil)
    (pss_cons (ps_asg (pe_op op_mod (B.int_i (pa_cons (pe_op op_add (pe_op op_mul (pe_ix ix_lM (pv 0) pe_int (fun _ _ => rfl)) pe_int) pe_int) pa_nil)) pe_int) (pg_sub (pv 0) pe_int set_list))
    (pss_one (ps_ret (pe_op op_mod (B.int_i (pa_cons (pe_op op_add (pe_op op_fdivW (pe_op op_mul (pe_ix ix_lM (pv 0) pe_int (fun _ _ => rfl)) (pe_ix ix_lM (pv 0) pe_int (fun _ _ => rfl))) pe_int) (pe_op op_fdivW (pe_ix ix_lM (pv 0) pe_int (fun _ _ => rfl)) pe_int)) pa_nil)) (pv 1)))))), ?_⟩
  walk_at "wp"
  simp only [hp, Option.some.injEq, HO.lst.injEq, exists_eq_left', at0, at1, V.int.injEq, List.length_cons, List.length_nil, Nat.reduceAdd, ixN_20, ixN_21, List.set_cons_zero, List.set_cons_succ, upd_same]
  have kp : ∀ x y : Int, Kp [p] H (upd H p (.lst [.int x, .int y])) := fun x y => Kp.lst hp (List.mem_singleton.mpr rfl)
  split
  · exact ⟨m0, two200 m0 m1, q _ _ (Int.emod_nonneg _ (by omega)) (Int.emod_lt_of_pos _ m0) (kp _ _) Strm.mk⟩
  · have n0 := Int.emod_nonneg (b * 48271 + 69621) (show (2147483647 : Int) ≠ 0 by decide)
    have n1 := Int.emod_lt_of_pos (b * 48271 + 69621) (show (0 : Int) < 2147483647 by decide)
    have lit : ∀ {j : Int} {i : Int}, 0 < j → j < 2 ^ 200 → CDivW i j := fun h0 h1 => two200 h0 h1
    refine ⟨.inr (by decide), by decide, .inl ⟨by omega, by omega⟩, lit (by decide) (by decide), lit (by decide) (by decide), m0, ?_⟩
    exact q _ _ (Int.emod_nonneg _ (by omega)) (Int.emod_lt_of_pos _ m0) (kp _ _) Strm.mk
theorem abc_get : ∀ k : Nat, k < 94 → abc.getD k 0 ∈ abc := by decide +kernel
theorem ok_char (F : Fun K "_law_char" "_law_char" s_law_char f fd) : FnOk P w K mg base CX0 1 f fd ["k"] spChar := by
  refine F.ok sc_law_char (fun vs H Q E h => ?_) (fun cdv A outer s H vs Q E hr h => ?_)
  · obtain ⟨k, rfl, _⟩ := h; rfl
  obtain ⟨k, rfl, k0, k1, q⟩ := h
  refine ⟨_, (pss_cons (ps_set (i := 1) sc_law_char.nd rfl (Or.inl rfl) pe_str)
    (pss_cons (ps_set (i := 1) sc_law_char.nd rfl (Or.inl rfl) (pe_op op_add_str (pv 1) pe_str))
    (pss_one (ps_ret (pe_ix ix_str (pv 1) (pv 0) (fun _ _ => rfl)))))), ?_⟩
  walk_at "wp"
  have e : TL.tl (Str.ofString " !\"#$&'()*+,-./0123456789:;<=>?@ABCDEFGHIJKLMNOPQRSTUVWXYZ[\\]^_`" ++ Str.ofString "abcdefghijklmnopqrstuvwxyz{|}~") = abc := by decide +kernel
  have l : abc.length = 94 := by decide +kernel
  refine ⟨by decide +kernel, _, k, abc.getD k.toNat 0, rfl, rfl, ?_, ?_, q⟩
  · rw [TL.len_tl, e, l]; decide
  · have ek : k = ((k.toNat : Nat) : Int) := by omega
    rw [show (Str.ofString " !\"#$&'()*+,-./0123456789:;<=>?@ABCDEFGHIJKLMNOPQRSTUVWXYZ[\\]^_`" ++ Str.ofString "abcdefghijklmnopqrstuvwxyz{|}~").cps.toList = abc from e]
    have g : abc[k.toNat]? = some (abc.getD k.toNat 0) := by
      rw [List.getD_eq_getElem?_getD, List.getElem?_eq_getElem (by omega)]; rfl
    have z := atI_nat g
    rw [← ek] at z
    exact z
theorem ok_string (F : Fun K "_law_string" "_law_string" s_law_string f fd) (B : Blt mg) (c_law_take : Cal P w K mg base CX0 1 "_law_take" spTake) (c_law_char : Cal P w K mg base CX0 1 "_law_char" spChar) :
    FnOk P w K mg base CX0 2 f fd ["stream", "most"] spString := by
  refine F.ok sc_law_string (fun vs H Q E h => ?_) (fun cdv A outer s H vs Q E hr h => ?_)
  · obtain ⟨s, m, rfl, _⟩ := h; rfl
  obtain ⟨p, m, rfl, hs, m0, m1, q⟩ := h
  refine ⟨_, (pss_cons (ps_set (i := 2) sc_law_string.nd rfl (Or.inl rfl) (c_law_take.pe hr (pa_cons (pv 0) (pa_cons (pe_op op_add (pv 1) pe_int) pa_nil))))
    (pss_one (ps_ret (pe_join pe_str (pe_lc (own := [("k", 3)]) (g := gName 3) (tt := tYes) rfl sc_law_string.nd (B.range1 (pa_cons (pv 2) pa_nil)) (blkOk_by (own := [("k", 3)]) (N := N_law_string) (sc := defScope s_law_string) (by decide +kernel)) (fun _ _ _ _ _ => pg_name (i := 3) sc_law_string.nd rfl (Or.inl rfl)) (fun _ _ _ _ _ => pts_nil) (fun _ _ _ _ _ => (c_law_char.pe hr (pa_cons (c_law_take.pe hr (pa_cons (pv 0) (pa_cons pe_int pa_nil))) pa_nil)))))))), ?_⟩
  walk_at "wp"
  refine ⟨p, m + 1, rfl, hs, ⟨by omega, by omega⟩, fun n H1 n0 n1 k1 s1 => ?_⟩
  simp only [tM1, tC]
  refine ⟨⟨_, rfl⟩, ?_⟩
  refine ⟨_, rfl, n, rfl, by omega, by omega, fun D hD => ?_⟩
  refine lc_range (lo := 0) (n := n.toNat) (fun i H' => ∃ cs : List Nat, H' D = some (.lst ((sgs cs).map V.str)) ∧ cs.length = i ∧ (∀ c ∈ cs, c ∈ abc) ∧ Kp [p] H1 H' ∧ Strm H' p)
    ⟨[], upd_same, rfl, fun c h => absurd h (by simp), Kp.new hD _, s1.kp (Kp.new hD _ : Kp [] _ _) (by simp)⟩ (fun i H2 hi ⟨cs, hcD, hcl, hca, k2, s2⟩ => ?_) (fun H2 ⟨cs, hcD, hcl, hca, k2, s2⟩ => ?_)
  · refine ⟨rfl, ?_⟩
    simp only [tYes, if_true]
    refine ⟨_, rfl, p, 94, rfl, s2, ⟨by decide, by decide⟩, fun v H3 v0 v1 k3 s3 => ⟨v, rfl, v0, v1, ?_⟩⟩
    have nD : D ≠ p := by obtain ⟨a, b, e⟩ := s1; exact (ne_of_none e hD).symm
    have hcD3 := k3.keep D _ (by simpa using nD) hcD
    have big : (200 : Nat) < sizeLine := by decide
    have lim : sizeLine = 16777216 := sizeLine_eq
    refine ⟨(sgs cs).map V.str, hcD3, by rw [List.length_map, sgs_len]; omega, cs ++ [abc.getD v.toNat 0], ?_, by rw [List.length_append, hcl]; rfl, fun c h => ?_, (k2.trans k3).upd hD hcD3, ?_⟩
    · rw [upd_same, sgs_add]
    · rcases List.mem_append.mp h with h | h
      · exact hca c h
      · rw [List.mem_singleton.mp h]
        exact abc_get v.toNat (by omega)
    · obtain ⟨a, b, e⟩ := s3
      exact ⟨a, b, by rw [upd_ne (Ne.symm nD)]; exact e⟩
  · have ez := tl_sgs cs
    refine ⟨_, rfl, sgs cs, .inl (SqL.of hcD), ?_, ?_⟩
    · rw [sgs_sum, sgs_len, hcl]
      show n.toNat + n.toNat * 0 ≤ _
      omega
    · refine q _ _ ?_ ?_ (k1.trans k2) s2
      · rw [TL.len_tl, ez]; omega
      · intro c hc
        rw [show (Txt.join (Str.ofString "") (sgs cs)).cps.toList = cs from ez] at hc
        exact hca c hc
end

/-! the program's is_printable, is_integer; the law's says -/
abbrev s_is_printable : Stmt := top 20
abbrev N_is_printable : List Str := ["value"]
theorem sc_is_printable : FnScope N_is_printable ["value"] (defScope s_is_printable) := ⟨rfl, rfl, rfl, by decide +kernel, rfl, by decide +kernel, by decide +kernel⟩
abbrev s_is_integer : Stmt := top 21
abbrev N_is_integer : List Str := ["value", "least", "greatest"]
theorem sc_is_integer : FnScope N_is_integer ["value", "least", "greatest"] (defScope s_is_integer) := ⟨rfl, rfl, rfl, by decide +kernel, rfl, by decide +kernel, by decide +kernel⟩
def prV : V → Bool
  | .str z => prn z
  | _ => false
def inV (lo hi : Int) : V → Bool
  | .int i => decide (lo ≤ i) && decide (i ≤ hi)
  | _ => false
/-- is_printable(v), Pt the table of its code -/
def spPrn (Pt : Addr) : Sp := fun vs H Q _ => ∃ v : V, vs = [v] ∧ GxR.TabG H Pt ∧ (∃ t, tyN H v = some t) ∧ ∀ H', Kp [Pt] H H' → GxR.TabG H' Pt → Q (.bl (prV v)) H'
def spIntg : Sp := fun vs H Q _ => ∃ (v : V) (lo hi : Int), vs = [v, .int lo, .int hi] ∧ (∃ t, tyN H v = some t) ∧ Q (.bl (inV lo hi v)) H
section
variable {P : Program} {w : World} {K : PySem.W.Frag} {mg : Str → Option Value} {base : Heap} {f : Addr} {fd : FuncData}
theorem ok_printable {oc kV doc pm ct : Value} {od an : Option Addr} {osl : Array (Option Value)} {c Pt : Addr} {t37 : Tok} (B : Blt mg) (h37 : mg "_BARRED_CODE" = some (.int 37 t37)) (TB : GxR.TabB base mg c Pt)
    (lk : K.lookup f = some ⟨oc, od, .func (PySem.W.fnOf "is_printable" "is_printable" (defArgs s_is_printable) (defBody s_is_printable) (defScope s_is_printable) .none kV doc pm an (.ref c) ct), osl⟩) (hcd : PySem.W.codeIn K (.ref c) "is_printable" = true) :
    FnOk P w K mg base CX0 3 f (PySem.W.fnOf "is_printable" "is_printable" (defArgs s_is_printable) (defBody s_is_printable) (defScope s_is_printable) .none kV doc pm an (.ref c) ct) ["value"] (spPrn Pt) := by
  refine fn_of lk hcd sc_is_printable (fun vs H Q E h => ?_) (fun A outer s H vs Q E hr h => ?_)
  · obtain ⟨v, rfl, _⟩ := h; rfl
  obtain ⟨v, rfl, hG, ⟨t, ht⟩, q⟩ := h
  refine ⟨_, PSs.nox (pss_cons (ps_if (pt_not (pt_val (B.isT (pv 0) B.v_str))) (pss_one (ps_ret pe_bl)) pss_nil)
    (pss_one (ps_ret (pe_allX hr B TB rfl (gsOf (by decide +kernel) (by decide +kernel)) (pv 0) (elt_prn B h37 rfl rfl rfl rfl) (fun _ => rfl))))), ?_⟩
  walk_at "wp"
  refine ⟨t, ht, ?_⟩
  cases c1 : isaB t "str" with
  | true =>
    obtain ⟨z, rfl⟩ := isa_str ht c1
    rw [if_neg (by decide)]
    exact ⟨_, rfl, z, rfl, hG, fun H2 hT => q H2 (Kp.tab hG hT (List.mem_singleton.mpr rfl)) hT.1⟩
  | false =>
    rw [if_pos rfl]
    have e : prV v = false := by
      cases v with
      | str z => cases ht; exact absurd c1 (by decide)
      | _ => rfl
    have z := q H (Kp.refl _ _) hG
    rw [e] at z
    exact z
theorem ok_integer (F : Fun K "is_integer" "is_integer" s_is_integer f fd) (B : Blt mg) : FnOk P w K mg base CX0 1 f fd ["value", "least", "greatest"] spIntg := by
  refine F.ok sc_is_integer (fun vs H Q E h => ?_) (fun cdv A outer s H vs Q E hr h => ?_)
  · obtain ⟨v, lo, hi, rfl, _⟩ := h; rfl
  obtain ⟨v, lo, hi, rfl, ⟨t, ht⟩, q⟩ := h
  refine ⟨_, (pss_cons (ps_if (PW.pt (pw_or (pt_not (pt_val (B.isT (pv 0) B.v_int))) (pw_or1 (pt_val (B.isT (pv 0) B.v_bool))))) (pss_one (ps_ret pe_bl)) pss_nil)
    (pss_one (ps_ret (pe_chain op_le op_le (pv 1) (pv 0) (pv 2))))), ?_⟩
  walk_at "wp"
  refine ⟨t, ht, ?_⟩
  cases c1 : isaB t "int" with
  | false =>
    rw [if_pos rfl]
    have e : inV lo hi v = false := by
      cases v with
      | int z => cases ht; exact absurd c1 (by decide)
      | _ => rfl
    rw [e] at q
    exact q
  | true =>
    rw [if_neg (by decide)]
    refine ⟨t, ht, ?_⟩
    rcases isa_int ht c1 with ⟨z, rfl⟩ | ⟨b, rfl⟩
    · cases ht
      rw [if_neg (by decide)]
      have q : Q (.bl (decide (lo ≤ z) && decide (z ≤ hi))) H := q
      refine ⟨z, rfl, ?_⟩
      by_cases c2 : lo ≤ z
      · rw [if_pos c2]
        rw [decide_eq_true c2] at q
        exact ⟨z, rfl, q⟩
      · rw [if_neg c2]
        rw [decide_eq_false c2] at q
        exact q
    · cases ht
      rw [if_pos (by decide)]
      exact q
end

/-! list names and keys -/
abbrev s_consists_of : Stmt := top 17
abbrev N_consists_of : List Str := ["text", "marks"]
theorem sc_consists_of : FnScope N_consists_of ["text", "marks"] (defScope s_consists_of) := ⟨rfl, rfl, rfl, by decide +kernel, rfl, by decide +kernel, by decide +kernel⟩
abbrev s_is_key : Stmt := top 16
abbrev N_is_key : List Str := ["value"]
theorem sc_is_key : FnScope N_is_key ["value"] (defScope s_is_key) := ⟨rfl, rfl, rfl, by decide +kernel, rfl, by decide +kernel, by decide +kernel⟩
structure NmC (mg : Str → Option Value) : Prop where
  c_DIGITS : ∃ t, mg "_DIGITS" = some (.str "0123456789" t)
  c_MOST_NAME : ∃ t, mg "_MOST_NAME" = some (.int 12 t)
def inT (m z : Str) : Bool := z.cps.toList.all fun c => decide (c ∈ m.cps.toList)
def lnS (z : Str) : Bool := decide (1 ≤ z.length) && decide (z.length ≤ 12) && inT (Str.ofString "abcdefghijklmnopqrstuvwxyz") z
def kyS (z : Str) : Bool := decide (2 ≤ z.length) && decide (z.length ≤ 12) && decide (z.cps.toList.head? = some 107) && inT (Str.ofString "0123456789") (cutS z (some 1) none)
def lnV : V → Bool
  | .str z => lnS z
  | _ => false
def kyV : V → Bool
  | .str z => kyS z
  | _ => false
def szV : V → Prop
  | .str z => z.length ≤ sizeLine
  | _ => True
/-- _consists_of(z, m), Pc the table of its code -/
def spCons (Pc : Addr) : Sp := fun vs H Q _ => ∃ z m : Str, vs = [.str z, .str m] ∧ GxR.TabG H Pc ∧ ∀ H', Kp [Pc] H H' → GxR.TabG H' Pc → Q (.bl (inT m z)) H'
def spNm (f : V → Bool) (Pc : Addr) : Sp := fun vs H Q _ => ∃ v : V, vs = [v] ∧ GxR.TabG H Pc ∧ (∃ t, tyN H v = some t) ∧ szV v ∧ ∀ H', Kp [Pc] H H' → GxR.TabG H' Pc → Q (.bl (f v)) H'
section
variable {P : Program} {w : World} {K : PySem.W.Frag} {mg : Str → Option Value} {base : Heap} {f : Addr} {fd : FuncData}
theorem ok_consists {oc kV doc pm ct : Value} {od an : Option Addr} {osl : Array (Option Value)} {c Pc : Addr} (B : Blt mg) (TB : GxR.TabB base mg c Pc)
    (lk : K.lookup f = some ⟨oc, od, .func (PySem.W.fnOf "_consists_of" "_consists_of" (defArgs s_consists_of) (defBody s_consists_of) (defScope s_consists_of) .none kV doc pm an (.ref c) ct), osl⟩) (hcd : PySem.W.codeIn K (.ref c) "_consists_of" = true) :
    FnOk P w K mg base CX0 3 f (PySem.W.fnOf "_consists_of" "_consists_of" (defArgs s_consists_of) (defBody s_consists_of) (defScope s_consists_of) .none kV doc pm an (.ref c) ct) ["text", "marks"] (spCons Pc) := by
  refine fn_of lk hcd sc_consists_of (fun vs H Q E h => ?_) (fun A outer s H vs Q E hr h => ?_)
  · obtain ⟨z, m, rfl, _⟩ := h; rfl
  obtain ⟨z, m, rfl, hG, q⟩ := h
  refine ⟨_, PSs.nox (pss_one (ps_ret (pe_allC (iy := 1) hr B TB rfl (gs0Of (by decide +kernel) (by decide +kernel)) (by show freeOk _ (defScope s_consists_of) = true; decide +kernel) (pv 0) (elt_in rfl rfl rfl) (by rfl) (by rfl) (fun _ => rfl) (fun _ => rfl)))), ?_⟩
  exact ⟨m, rfl, _, rfl, z, rfl, hG, fun H2 hT => q H2 (Kp.tab hG hT (List.mem_singleton.mpr rfl)) hT.1⟩
theorem cps_lenN (z : Str) : z.cps.toList.length = z.length := by
  show _ = z.cps.size
  exact Array.length_toList
theorem spNm_no {g : V → Bool} {v : V} {t : String} {H : Hp} {Pc : Addr} {Q : VK} (hg : ∀ v, (∀ z, v ≠ .str z) → g v = false) (ht : tyN H v = some t) (c1 : isaB t "str" = false) (hG : GxR.TabG H Pc) (q : ∀ H', Kp [Pc] H H' → GxR.TabG H' Pc → Q (.bl (g v)) H') : Q (.bl false) H := by
  have z := q H (Kp.refl _ _) hG
  rw [hg v (fun z e => by subst e; cases ht; exact absurd c1 (by decide))] at z
  exact z
theorem ok_key {Pc : Addr} (F : Fun K "is_key" "is_key" s_is_key f fd) (B : Blt mg) (D : NmC mg) (c_consists_of : Cal P w K mg base CX0 3 "_consists_of" (spCons Pc)) : FnOk P w K mg base CX0 4 f fd ["value"] (spNm kyV Pc) := by
  refine F.ok sc_is_key (fun vs H Q E h => ?_) (fun cdv A outer s H vs Q E hr h => ?_)
  · obtain ⟨v, rfl, _⟩ := h; rfl
  obtain ⟨v, rfl, hG, ⟨t, ht⟩, hz, q⟩ := h
  refine ⟨_, (pss_cons (ps_if (PW.pt (pw_or (pt_not (pt_val (B.isT (pv 0) B.v_str))) (pw_or1 (pt_not (pt_chain op_le op_le pe_int (B.len_s (pa_cons (pv 0) pa_nil)) (pe_cE D.c_MOST_NAME)))))) (pss_one (ps_ret pe_bl)) pss_nil)
    (pss_one (ps_ret (pe_and (pe_cmpR op_eq (pe_ix ix_str (pv 0) pe_int (fun _ _ => rfl)) pe_str (nomark _)) (pe_one (c_consists_of.pe hr (pa_cons (pe_slice sl_str (pv 0) (po_some pe_int) po_none) (pa_cons (pe_cSE D.c_DIGITS) pa_nil)))))))), ?_⟩
  walk_at "wp"
  refine ⟨t, ht, ?_⟩
  have off : ∀ z, v = .str z → kyV v = false → Q (.bl false) H := fun z e h => by
    have y := q H (Kp.refl _ _) hG
    rw [h] at y; exact y
  cases c1 : isaB t "str" with
  | false => rw [if_pos rfl]; exact spNm_no (fun v h => by cases v <;> first | rfl | exact absurd rfl (h _)) ht c1 hG q
  | true =>
    rw [if_neg (by decide)]
    obtain ⟨z, rfl⟩ := isa_str ht c1
    refine ⟨z, rfl, hz, ?_⟩
    split
    · rename_i h1
      split
      · rename_i h2
        refine off z rfl ?_
        show kyS z = false
        unfold kyS
        rw [decide_eq_false (show ¬ z.length ≤ 12 by omega), Bool.and_false, Bool.false_and, Bool.false_and]
      · rename_i h2
        have hl : z.cps.toList.length = z.length := cps_lenN z
        obtain ⟨c, r, ez⟩ : ∃ c r, z.cps.toList = c :: r := by
          cases e : z.cps.toList with
          | nil => rw [e] at hl; simp at hl; omega
          | cons c r => exact ⟨c, r, rfl⟩
        refine ⟨z, 0, c, rfl, rfl, hz, by rw [ez]; exact at0, rfl, ?_⟩
        have ek : (V.str ⟨#[c]⟩ = V.str (Str.ofString "k")) ↔ c = 107 := by
          constructor
          · intro h
            have h := congrArg (fun s : Str => s.cps.toList) (V.str.inj h)
            have h : [c] = [107] := h
            exact (List.cons.inj h).1
          · rintro rfl; rfl
        have eh : z.cps.toList.head? = some c := by rw [ez]; rfl
        by_cases h3 : c = 107
        · rw [if_pos (ek.mpr h3)]
          refine ⟨z, rfl, hz, _, _, rfl, hG, fun H' k g => ?_⟩
          have y := q H' k g
          rw [show kyV (.str z) = inT (Str.ofString "0123456789") (cutS z (some 1) none) by
            show kyS z = _
            unfold kyS
            rw [decide_eq_true (show 2 ≤ z.length by omega), decide_eq_true (show z.length ≤ 12 by omega), eh, decide_eq_true (by rw [h3]), Bool.true_and, Bool.true_and, Bool.true_and]] at y
          exact y
        · rw [if_neg (fun h => h3 (ek.mp h))]
          refine off z rfl ?_
          show kyS z = false
          unfold kyS
          rw [eh, decide_eq_false (fun h => h3 (Option.some.inj h)), Bool.and_false, Bool.false_and]
    · rename_i h1
      refine off z rfl ?_
      show kyS z = false
      unfold kyS
      rw [decide_eq_false (show ¬ 2 ≤ z.length by omega), Bool.false_and, Bool.false_and, Bool.false_and]
end

/-! digest -/
abbrev s_digest : Stmt := top 4
abbrev N_digest : List Str := ["text", "number", "mark", "digits"]
theorem sc_digest : FnScope N_digest ["text"] (defScope s_digest) := ⟨rfl, rfl, rfl, by decide +kernel, rfl, by decide +kernel, by decide +kernel⟩
structure DgC (mg : Str → Option Value) : Prop where
  c_FACTOR : ∃ t, mg "_FACTOR" = some (.int 65599 t)
  c_DIVISOR : ∃ t, mg "_DIVISOR" = some (.int 2361183241434822606617 t)
  c_DIGEST_LENGTH : ∃ t, mg "DIGEST_LENGTH" = some (.int 18 t)
def spDigest : Sp := fun vs H Q _ => ∃ z : Str, vs = [.str z] ∧ z.length ≤ sizeLine ∧ Q (.str (dgs z)) H
section
variable {P : Program} {w : World} {K : PySem.W.Frag} {mg : Str → Option Value} {base : Heap} {f : Addr} {fd : FuncData}
theorem cps_len (z : Str) : z.cps.toList.length = z.length := by
  show _ = z.cps.size
  exact Array.length_toList
theorem take1 {l : List Nat} {i c : Nat} (h : l[i]? = some c) : l.take (i + 1) = l.take i ++ [c] := by
  rw [List.take_add_one, h]; rfl
theorem cps_at {z : Str} {i c : Nat} (h : z.cps[i]? = some c) : z.cps.toList[i]? = some c := by rw [Array.getElem?_toList]; exact h
theorem take_cps (z : Str) : z.cps.toList.take z.cps.size = z.cps.toList := List.take_of_length_le (by rw [Array.length_toList]; exact Nat.le_refl _)
theorem ok_digest (F : Fun K "digest" "digest" s_digest f fd) (B : Blt mg) (D : DgC mg) : FnOk P w K mg base CX0 1 f fd ["text"] spDigest := by
  refine F.ok sc_digest (fun vs H Q E h => ?_) (fun cdv A outer s H vs Q E hr h => ?_)
  · obtain ⟨z, rfl, _⟩ := h; rfl
  obtain ⟨z, rfl, hz, q⟩ := h
  refine ⟨_, (pss_cons (ps_set (i := 1) sc_digest.nd rfl (Or.inl rfl) (pe_op op_add (B.len_s (pa_cons (pv 0) pa_nil)) pe_int))
    (pss_cons (ps_for PassesOwn.never rfl (pi_str (pv 0)) (pg_name (i := 2) sc_digest.nd rfl (Or.inl rfl)) (pss_one (ps_set (i := 1) sc_digest.nd rfl (Or.inl rfl) (pe_op op_mod (pe_op op_add (pe_op op_mul (pv 1) (pe_cE D.c_FACTOR)) (B.ord_ (pa_cons (pv 2) pa_nil))) (pe_cE D.c_DIVISOR)))))
    (pss_cons (ps_set (i := 3) sc_digest.nd rfl (Or.inl rfl) (pe_joined1 (pe_fmtX (pv 1))))
    (pss_one (ps_ret (pe_m1 PySem.F.slot_str_zfill PySem.F.type_str_zfill mt_zfill (pv 3) (pe_cE D.c_DIGEST_LENGTH))))))), ?_⟩
  walk_at "wp"
  refine ⟨hz, _, rfl, z, rfl, ?_⟩
  refine for_it walk_str (fun i σ H' => H' = H ∧ ∃ o : Option V, σ = [some (.str z), some (.int (((z.cps.toList.take i).foldl dgF (z.length + 1) : Nat) : Int)), o, none]) ⟨rfl, _, rfl⟩ (fun _ _ _ _ _ => True.intro) (fun i x σ H1 H2 hi ⟨hH, o, hσ⟩ ⟨h2, c, hc, hx⟩ => ?_) (fun σ H1 ⟨hH, o, hσ⟩ => ?_)
  · subst hσ
    subst hx
    subst h2
    subst hH
    walk_at "wp"
    refine ⟨.inr ⟨by decide, by decide⟩, by rfl, by decide, ?_⟩
    rw [take1 (cps_at hc), List.foldl_append]
    generalize (z.cps.toList.take i).foldl dgF (z.length + 1) = a
    refine ⟨?_, _, rfl⟩
    show ((a : Int) * 65599 + (c : Int)) % 2361183241434822606617 = (((a * 65599 + c) % 2361183241434822606617 : Nat) : Int)
    rw [Int.natCast_emod, Int.natCast_add, Int.natCast_mul]
    rfl
  · subst hσ
    subst hH
    walk_at "wp"
    have hd := dgN_lt z.cps.toList
    rw [take_cps, show z.length = z.cps.toList.length from (cps_len z).symm]
    refine ⟨_, rfl, ?_, ?_⟩
    · have := hxT_len hd
      unfold hxT at this
      rw [List.length_map] at this
      exact Nat.le_trans this (by decide)
    rw [show (⟨((Nat.toDigits 16 (z.cps.toList.foldl dgF (z.cps.toList.length + 1))).map Char.toNat).toArray⟩ : Str) = ⟨(hxT (dgN z.cps.toList)).toArray⟩ from rfl, zfill_hx hd]
    exact ⟨⟨_, rfl⟩, by decide, q⟩
end

/-! encode and its helpers -/
abbrev s_greatest_integer : Stmt := top 25
abbrev N_greatest_integer : List Str := []
theorem sc_greatest_integer : FnScope N_greatest_integer [] (defScope s_greatest_integer) := ⟨rfl, rfl, rfl, by decide +kernel, rfl, by decide +kernel, by decide +kernel⟩
abbrev s_encode : Stmt := top 22
abbrev N_encode : List Str := ["value", "text"]
theorem sc_encode : FnScope N_encode ["value"] (defScope s_encode) := ⟨rfl, rfl, rfl, by decide +kernel, rfl, by decide +kernel, by decide +kernel⟩
abbrev s_text_of : Stmt := top 23
abbrev N_text_of : List Str := ["value", "levels"]
theorem sc_text_of : FnScope N_text_of ["value", "levels"] (defScope s_text_of) := ⟨rfl, rfl, rfl, by decide +kernel, rfl, by decide +kernel, by decide +kernel⟩
abbrev s_tuple_text : Stmt := top 24
abbrev N_tuple_text : List Str := ["parts", "levels", "texts", "length", "part", "text"]
theorem sc_tuple_text : FnScope N_tuple_text ["parts", "levels"] (defScope s_tuple_text) := ⟨rfl, rfl, rfl, by decide +kernel, rfl, by decide +kernel, by decide +kernel⟩
section
variable {P : Program} {w : World} {K : PySem.W.Frag} {mg : Str → Option Value} {base : Heap} {f : Addr} {fd : FuncData}
structure TxtC (K : PySem.W.Frag) (mg : Str → Option Value) (C : Addr) (td tz tt : Tok) : Prop where
  bad : Err K mg "BadText" C
  dg : mg "MOST_DIGITS" = some (.int 20 td)
  dp : mg "MOST_DEPTH" = some (.int 8 tz)
  mt : mg "MOST_TEXT" = some (.int 100000 tt)
def spGreat : Sp := fun vs H Q _ => vs = [] ∧ Q (.int 99999999999999999999) H
/-- _text_of(v, n) of the tree t: its text, or a BadText -/
def spText (C Pt : Addr) (n : Nat) : Sp := fun vs H Q E => ∃ (v : V) (t : Tr), vs = [v, .int n] ∧ Rep H v t ∧ sml t = true ∧ GxR.TabG H Pt ∧
  (pl n t = true → fit t = true → ∀ H', Kp [Pt] H H' → GxR.TabG H' Pt → Q (.str ⟨(txt t).toArray⟩) H') ∧ (¬ (pl n t = true ∧ fit t = true) → ∀ H', Kp [Pt] H H' → GxR.TabG H' Pt → E (.ref C) none H')
def spTup (C Pt : Addr) (n : Nat) : Sp := fun vs H Q E => ∃ (a : Addr) (ts : List Tr), vs = [.ref a, .int n] ∧ Rep H (.ref a) (.tup ts) ∧ sml (.tup ts) = true ∧ GxR.TabG H Pt ∧
  (pl n (.tup ts) = true → fit (.tup ts) = true → ∀ H', Kp [Pt] H H' → GxR.TabG H' Pt → Q (.str ⟨(txt (.tup ts)).toArray⟩) H') ∧ (¬ (pl n (.tup ts) = true ∧ fit (.tup ts) = true) → ∀ H', Kp [Pt] H H' → GxR.TabG H' Pt → E (.ref C) none H')
def spEnc (C Pt : Addr) : Sp := fun vs H Q E => ∃ (v : V) (t : Tr), vs = [v] ∧ Rep H v t ∧ sml t = true ∧ GxR.TabG H Pt ∧
  (pl 8 t = true → (txt t).length ≤ 100000 → ∀ H', Kp [Pt] H H' → GxR.TabG H' Pt → Q (.str ⟨(txt t).toArray⟩) H') ∧ (¬ (pl 8 t = true ∧ (txt t).length ≤ 100000) → ∀ H', Kp [Pt] H H' → GxR.TabG H' Pt → E (.ref C) none H')
variable {C Pt : Addr} {td tz tt : Tok}
theorem ok_great (F : Fun K "_greatest_integer" "_greatest_integer" s_greatest_integer f fd) (B : Blt mg) (T : TxtC K mg C td tz tt) : FnOk P w K mg base CX0 1 f fd [] spGreat := by
  refine F.ok sc_greatest_integer (fun vs H Q E h => ?_) (fun cdv A outer s H vs Q E hr h => ?_)
  · obtain ⟨rfl, _⟩ := h; rfl
  obtain ⟨rfl, q⟩ := h
  refine ⟨_, (pss_one (ps_ret (B.int_s (pa_cons (pe_op op_mulS pe_str (pe_cI T.dg)) pa_nil)))), ?_⟩
  walk_at "wp"
  exact ⟨57, by decide +kernel, by decide, by decide, 99999999999999999999, by decide +kernel, by decide +kernel, q⟩
theorem ok_encode (F : Fun K "encode" "encode" s_encode f fd) (B : Blt mg) (T : TxtC K mg C td tz tt) (c_text_of : Cal P w K mg base (L2.CX P w) 22 "_text_of" (spText C Pt 8)) : FnOk P w K mg base (L2.CX P w) 23 f fd ["value"] (spEnc C Pt) := by
  refine F.okX sc_encode (fun vs H Q E h => ?_) (fun cdv A outer s H vs Q E hr h => ?_)
  · obtain ⟨v, t, rfl, _⟩ := h; rfl
  obtain ⟨v, t, rfl, hR, hs, hG, q, qe⟩ := h
  refine ⟨_, (pss_cons (ps_set (i := 1) sc_encode.nd rfl (Or.inl rfl) (c_text_of.pex hr (passX (takes_of rfl rfl rfl rfl) fun _ _ _ _ h => h) (pa_cons (pv 0) (pa_cons (pe_cI T.dp) pa_nil))))
    (pss_cons (ps_if (pt_cmpR op_gt (B.len_s (pa_cons (pv 1) pa_nil)) (pe_cI T.mt) (nomark _)) (pss_one (T.bad.raise (takes_of rfl rfl rfl rfl))) pss_nil)
    (pss_one (ps_ret (pv 1))))), ?_⟩
  walk_at "wp"
  have lim : sizeLine = 16777216 := sizeLine_eq
  refine ⟨v, t, rfl, hR, hs, hG, fun h1 h2 H' k g => ?_, fun h H' k g => ?_⟩
  · have := txt_size h1 h2 hs
    refine ⟨_, rfl, by rw [S_len]; omega, ?_⟩
    rw [S_len]
    by_cases c : (txt t).length ≤ 100000
    · rw [if_neg (by omega)]
      exact q h1 c H' k g
    · rw [if_pos (by omega)]
      exact qe (fun z => c z.2) H' k g
  · exact qe (fun z => h ⟨z.1, fit_of t z.2⟩) H' k g
theorem ok_text_of {n : Nat} {j : Nat} (hj : 4 ≤ j) (F : Fun K "_text_of" "_text_of" s_text_of f fd) (B : Blt mg) (T : TxtC K mg C td tz tt) (c_is_printable : Cal P w K mg base CX0 3 "is_printable" (spPrn Pt)) (c_is_integer : Cal P w K mg base CX0 1 "is_integer" spIntg)
    (c_greatest_integer : Cal P w K mg base CX0 1 "_greatest_integer" spGreat) (c_tuple_text : Cal P w K mg base (L2.CX P w) j "_tuple_text" (spTup C Pt n)) : FnOk P w K mg base (L2.CX P w) (j + 1) f fd ["value", "levels"] (spText C Pt n) := by
  refine F.okX sc_text_of (fun vs H Q E h => ?_) (fun cdv A outer s H vs Q E hr h => ?_)
  · obtain ⟨v, t, rfl, _⟩ := h; rfl
  obtain ⟨v, t, rfl, hR, hs, hG, q, qe⟩ := h
  refine ⟨_, (pss_cons (ps_if (pt_val (B.isT (pv 0) B.v_tuple)) (pss_one (ps_ret (c_tuple_text.pex hr (passX (takes_of rfl rfl rfl rfl) fun _ _ _ _ h => h) (pa_cons (pv 0) (pa_cons (pv 1) pa_nil))))) pss_nil)
    (pss_cons (ps_if (pt_val (c_is_printable.pe hr (pa_cons (pv 0) pa_nil))) (pss_one (ps_ret (pe_op op_add_str (pe_op op_add_str (B.str_i (pa_cons (B.len_s (pa_cons (pv 0) pa_nil)) pa_nil)) pe_str) (pv 0)))) pss_nil)
    (pss_cons (ps_if (pt_val (c_is_integer.pe hr (pa_cons (pv 0) (pa_cons pe_int (pa_cons (c_greatest_integer.pe0 hr) pa_nil))))) (pss_one (ps_ret (pe_op op_add_str (B.str_i (pa_cons (pv 0) pa_nil)) pe_str))) pss_nil)
    (pss_one (T.bad.raise (takes_of rfl rfl rfl rfl)))))), ?_⟩
  walk_at "wp"
  have lim : sizeLine = 16777216 := sizeLine_eq
  have cs : (prV v = false ∧ inV 0 99999999999999999999 v = false ∧ (∃ s, tyN H v = some s ∧ isaB s "tuple" = false) ∧ ¬ (pl n t = true ∧ fit t = true)) ∨ (∃ a xs ts, v = .ref a ∧ t = .tup ts ∧ H a = some (.tup xs) ∧ RepAll H xs ts) ∨ (∃ z, v = .str z ∧ t = .str z ∧ prn z = true) ∨
      (∃ i, v = .int i ∧ t = .int i ∧ 0 ≤ i ∧ i ≤ 99999999999999999999) := by
    cases hR with
    | tup e h => exact .inr (.inl ⟨_, _, _, rfl, rfl, e, h⟩)
    | str z =>
      cases hp : prn z with
      | false => exact .inl ⟨hp, rfl, ⟨_, rfl, rfl⟩, fun h => by have : prn z = true := h.1; rw [hp] at this; cases this⟩
      | true => exact .inr (.inr (.inl ⟨z, rfl, rfl, hp⟩))
    | int i =>
      cases hp : (decide (0 ≤ i) && decide (i ≤ 99999999999999999999)) with
      | false => exact .inl ⟨rfl, hp, ⟨_, rfl, rfl⟩, fun h => by have : (decide (0 ≤ i) && decide (i ≤ 99999999999999999999)) = true := h.1; rw [hp] at this; cases this⟩
      | true =>
        rw [Bool.and_eq_true, decide_eq_true_eq, decide_eq_true_eq] at hp
        exact .inr (.inr (.inr ⟨i, rfl, rfl, hp.1, hp.2⟩))
    | oth e n1 n2 n3 =>
      rename_i s
      refine .inl ⟨?_, ?_, ⟨s, e, ?_⟩, fun h => by have : false = true := h.1; cases this⟩
      · cases v with
        | str z => cases e; exact absurd rfl n2
        | _ => rfl
      · cases v with
        | int z => cases e; exact absurd rfl n1
        | _ => rfl
      · have : (s == "tuple") = false := by simpa using n3
        unfold isaB
        rw [this]
        simp
  rcases cs with ⟨hp, hi, ⟨s, hs1, hs2⟩, hn⟩ | ⟨a, xs, ts, rfl, rfl, e, h⟩ | ⟨z, rfl, rfl, hp⟩ | ⟨i, rfl, rfl, hh⟩
  · refine ⟨s, hs1, ?_⟩
    rw [hs2, if_neg Bool.false_ne_true]
    refine ⟨_, rfl, hG, ⟨s, hs1⟩, fun H1 k1 g1 => ⟨_, rfl, ?_⟩⟩
    rw [hp, if_neg Bool.false_ne_true]
    refine ⟨rfl, _, 0, _, rfl, ⟨s, tyN_kp k1 hG hs1⟩, _, rfl, ?_⟩
    rw [hi, if_neg Bool.false_ne_true]
    exact qe hn H1 k1 g1
  · exact ⟨_, tyN_tup e, by rw [if_pos (by decide)]; exact ⟨_, _, rfl, .tup e h, hs, hG, q, qe⟩⟩
  · have hz : z.length ≤ 10000000 := of_decide_eq_true hs
    refine ⟨_, rfl, ?_⟩
    rw [if_neg (by decide)]
    refine ⟨_, rfl, hG, ⟨_, rfl⟩, fun H1 k1 g1 => ⟨_, rfl, ?_⟩⟩
    have hp' : prV (.str z) = true := hp
    rw [hp', if_pos rfl]
    have dl := dig_len (n := z.length) (by omega)
    have e1 : (Str.ofString (toString (z.length : Int))).length ≤ 20 := by rw [toString_S, S_len]; exact dl
    have e2 : (Str.ofString ":").length = 1 := by decide +kernel
    have e3 : (Str.ofString (toString (z.length : Int)) ++ Str.ofString ":").length ≤ 21 := by
      rw [TL.len_tl, TL.tl_append, List.length_append, ← TL.len_tl, ← TL.len_tl]; omega
    refine ⟨z, rfl, by omega, log_small (by omega) (by omega), by omega, z, rfl, by omega, ?_⟩
    have e4 : Str.ofString (toString (z.length : Int)) ++ Str.ofString ":" ++ z = ⟨(txt (.str z)).toArray⟩ := by
      refine TL.ext_tl ?_
      rw [TL.tl_append, TL.tl_append, TL.tl_num]
      show (dig z.length ++ [58]) ++ TL.tl z = dig z.length ++ 58 :: TL.tl z
      rw [List.append_assoc]; rfl
    rw [e4]
    exact q hp rfl H1 k1 g1
  · have hp : (decide (0 ≤ i) && decide (i ≤ 99999999999999999999)) = true := by rw [decide_eq_true hh.1, decide_eq_true hh.2]; rfl
    refine ⟨_, rfl, ?_⟩
    rw [if_neg (by decide)]
    refine ⟨_, rfl, hG, ⟨_, rfl⟩, fun H1 k1 g1 => ⟨_, rfl, ?_⟩⟩
    rw [show prV (.int i) = false from rfl, if_neg Bool.false_ne_true]
    refine ⟨rfl, _, 0, _, rfl, ⟨_, rfl⟩, _, rfl, ?_⟩
    rw [show inV 0 99999999999999999999 (.int i) = true from hp, if_pos rfl]
    have ei : i = ((i.toNat : Nat) : Int) := by omega
    have dl := dig_len (n := i.toNat) (by omega)
    have e2 : (Str.ofString ".").length = 1 := by decide +kernel
    have e1 : (Str.ofString (toString i)).length ≤ 20 := by rw [ei, toString_S, S_len]; exact dl
    refine ⟨i, rfl, log_small hh.1 hh.2, by omega, ?_⟩
    have e4 : Str.ofString (toString i) ++ Str.ofString "." = ⟨(txt (.int i)).toArray⟩ := by
      refine TL.ext_tl ?_
      rw [TL.tl_append]
      show TL.tl (Str.ofString (toString i)) ++ [46] = dig i.toNat ++ [46]
      rw [show TL.tl (Str.ofString (toString i)) = dig i.toNat by rw [ei]; exact TL.tl_num _]
    rw [e4]
    exact q hp rfl H1 k1 g1
theorem ok_tuple0 (F : Fun K "_tuple_text" "_tuple_text" s_tuple_text f fd) (B : Blt mg) (T : TxtC K mg C td tz tt) : FnOk P w K mg base (L2.CX P w) 4 f fd ["parts", "levels"] (spTup C Pt 0) := by
  refine F.okX sc_tuple_text (fun vs H Q E h => ?_) (fun cdv A outer s H vs Q E hr h => ?_)
  · obtain ⟨v, t, rfl, _⟩ := h; rfl
  obtain ⟨a, ts, rfl, hR, hs, hG, q, qe⟩ := h
  refine ⟨_, pss_cons (ps_if (pt_cmpR op_eq (pv 1) pe_int (nomark _)) (pss_one (T.bad.raise (takes_of rfl rfl rfl rfl))) pss_nil) pss_never, ?_⟩
  walk_at "wp"
  rw [if_pos (by rfl)]
  exact qe (fun z => by have : false = true := z.1; cases this) H (Kp.refl _ _) hG
theorem ok_tuple {n : Nat} {j : Nat} (hj : 4 ≤ j) (F : Fun K "_tuple_text" "_tuple_text" s_tuple_text f fd) (B : Blt mg) (T : TxtC K mg C td tz tt) (c_text_of : Cal P w K mg base (L2.CX P w) j "_text_of" (spText C Pt n)) : FnOk P w K mg base (L2.CX P w) (j + 1) f fd ["parts", "levels"] (spTup C Pt (n + 1)) := by
  refine F.okX sc_tuple_text (fun vs H Q E h => ?_) (fun cdv A outer s H vs Q E hr h => ?_)
  · obtain ⟨v, t, rfl, _⟩ := h; rfl
  obtain ⟨a, ts, rfl, hR, hs, hG, q, qe⟩ := h
  refine ⟨_, (pss_cons (ps_if (pt_cmpR op_eq (pv 1) pe_int (nomark _)) (pss_one (T.bad.raise (takes_of rfl rfl rfl rfl))) pss_nil)
    (pss_cons (ps_set (i := 2) sc_tuple_text.nd rfl (Or.inl rfl) (pe_lst pa_nil))
    (pss_cons (ps_set (i := 3) sc_tuple_text.nd rfl (Or.inl rfl) (B.len_s (pa_cons pe_str pa_nil)))
    (pss_cons (ps_for (passes_of rfl) rfl (pi_tup (pv 0)) (pg_name (i := 4) sc_tuple_text.nd rfl (Or.inl rfl)) (pss_cons (ps_set (i := 5) sc_tuple_text.nd rfl (Or.inl rfl) (c_text_of.pex hr (passX (takes_of rfl rfl rfl rfl) fun _ _ _ _ h => h) (pa_cons (pv 4) (pa_cons (pe_op op_sub (pv 1) pe_int) pa_nil))))
    (pss_cons (ps_aug (i := 3) sc_tuple_text.nd rfl (Or.inl rfl) (B.len_s (pa_cons (pv 5) pa_nil)) ip_add)
    (pss_cons (ps_if (pt_cmpR op_gt (pv 3) (pe_cI T.mt) (nomark _)) (pss_one (T.bad.raise (takes_of rfl rfl rfl rfl))) pss_nil)
    (pss_one (ps_expr (pe_bm PySem.F.plainAttrs_list PySem.F.slot_list_append PySem.F.type_list_append mt_append (pv 2) (pa_cons (pv 5) pa_nil))))))))
    (pss_one (ps_ret (pe_op op_add_str (pe_op op_add_str pe_str (pe_join pe_str (pv 2))) pe_str))))))), ?_⟩
  walk_at "wp"
  have lim : sizeLine = 16777216 := sizeLine_eq
  rw [if_neg (by omega)]
  refine ⟨Nat.zero_le _, fun p hp => ⟨by decide +kernel, ?_⟩⟩
  cases hR with
  | tup e hA =>
  rename_i xs
  have hs' : (smls ts && decide (ts.length ≤ 1000000)) = true := hs
  rw [Bool.and_eq_true, decide_eq_true_eq] at hs'
  have xl := hA.len
  refine ⟨_, rfl, a, rfl, ⟨xs, SqT.of (by rw [upd_ne (ne_of_none e hp)]; exact e)⟩, for_tup (K := K) (a := a) (xs := xs)
    (fun i σ H' => (∃ o4 o5 : Option V, σ = [some (.ref a), some (.int ((n + 1 : Nat) : Int)), some (.ref p), some (.int ((txts (ts.take i)).length + 2)), o4, o5]) ∧ pls n (ts.take i) = true ∧ fits (ts.take i) = true ∧ (txts (ts.take i)).length + 2 ≤ 100000 ∧
      H' p = some (.lst ((tys (ts.take i)).map V.str)) ∧ Kp [Pt] H H' ∧ GxR.TabG H' Pt)
    ⟨⟨none, none, rfl⟩, rfl, rfl, (by show 0 + 2 ≤ 100000; decide), upd_same, Kp.new hp _, TabG.upd hG (fun z => by subst z; obtain ⟨ps, q1, _⟩ := hG; rw [hp] at q1; cases q1)⟩
    (fun i σ H' _ ⟨_, _, _, _, _, k, _⟩ => SqT.of (k.tup _ _ e)) (fun i x σ H' hx ⟨⟨o4, o5, hσ⟩, i1, i2, i3, i4, k, g⟩ => ?_) (fun σ H' ⟨⟨o4, o5, hσ⟩, i1, i2, i3, i4, k, g⟩ => ?_)⟩
  · subst hσ
    obtain ⟨t, ht, hRt⟩ := hA.get hx
    have hm := List.mem_of_getElem? ht
    have e1 := take_one ht
    walk_at "wp"
    refine ⟨x, t, by rw [show ((n + 1 : Nat) : Int) - 1 = n by omega], hRt.kp k hG, smls_mem hs'.1 hm, g, fun p1 p2 H2 k2 g2 => ?_, fun hn H2 k2 g2 => ?_⟩
    · have := txt_size p1 p2 (smls_mem hs'.1 hm)
      have il : (txts (ts.take (i + 1))).length = (txts (ts.take i)).length + (txt t).length := by
        rw [e1, txts_app, List.length_append]
        show _ + (txt t ++ []).length = _
        rw [List.append_nil]
      walk_at "wp"
      have i5 := k2.keep p _ (by simpa using TabG.ne_lst g i4) i4
      refine ⟨by rw [S_len]; omega, ?_⟩
      rw [S_len]
      by_cases c : (txts (ts.take (i + 1))).length + 2 ≤ 100000
      · rw [if_neg (by omega)]
        have tl1 : (ts.take i).length ≤ 1000000 := by rw [List.length_take]; omega
        refine ⟨.inl ⟨rfl, _, SqL.of i5⟩, _, i5, by rw [List.length_map]; unfold tys; rw [List.length_map]; omega, by omega, ⟨_, rfl⟩, ?_, ?_, c, ?_, (k.trans k2).upd hp i5, TabG.upd g2 (TabG.ne_lst g2 i5)⟩
        · rw [e1, pls_app, i1]
          show (true && (pl n t && true)) = true
          rw [p1]; rfl
        · rw [e1, fits_app, i2]
          show (true && (fit t && true)) = true
          rw [p2]; rfl
        · rw [e1, tys_app, List.map_append]
          rfl
      · rw [if_pos (by omega)]
        refine qe (fun z => c ?_) H2 (k.trans k2) g2
        have z2 : (fits ts && decide ((txts ts).length + 2 ≤ 100000)) = true := z.2
        rw [Bool.and_eq_true, decide_eq_true_eq] at z2
        have := take_le ts (i + 1)
        omega
    · refine qe (fun z => hn ⟨?_, ?_⟩) H2 (k.trans k2) g2
      · exact pls_mem (show pls n ts = true from z.1) hm
      · have z2 : (fits ts && decide ((txts ts).length + 2 ≤ 100000)) = true := z.2
        rw [Bool.and_eq_true] at z2
        exact fits_mem z2.1 hm
  · subst hσ
    rw [xl, List.take_length] at i1 i2 i3 i4
    walk_at "wp"
    refine ⟨⟨_, rfl⟩, tys ts, .inl (SqL.of i4), ?_, ?_, ?_, ?_⟩
    · rw [tys_sum]
      show _ + (tys ts).length * 0 ≤ _
      omega
    · have : (Str.ofString "[").length = 1 := by decide +kernel
      rw [this, TL.len_tl, tl_tys]; omega
    · have h2 : (Str.ofString "]").length = 1 := by decide +kernel
      have h1 : (Str.ofString "[").length = 1 := by decide +kernel
      rw [TL.len_tl, TL.tl_append, List.length_append, ← TL.len_tl, h1, tl_tys, h2]; omega
    · have e4 : Str.ofString "[" ++ Txt.join (Str.ofString "") (tys ts) ++ Str.ofString "]" = ⟨(txt (.tup ts)).toArray⟩ := by
        refine TL.ext_tl ?_
        rw [TL.tl_append, TL.tl_append, tl_tys]
        rfl
      rw [e4]
      refine q i1 ?_ H' k g
      show (fits ts && decide ((txts ts).length + 2 ≤ 100000)) = true
      rw [i2, decide_eq_true i3]
      rfl
end

/-! decode and its helpers -/
section
variable {P : Program} {w : World} {K : PySem.W.Frag} {mg : Str → Option Value} {base : Heap} {f : Addr} {fd : FuncData} {C Pt : Addr} {td tz tt : Tok}
def spEod : Sp := fun vs H Q _ => ∃ (z : Str) (s : Nat), vs = [.str z, .int s] ∧ z.length ≤ 1000000 ∧ s ≤ z.length ∧ Q (.int ((s + (((TL.tl z).drop s).takeWhile isD).length : Nat) : Int)) H
def spNum (C : Addr) : Sp := fun vs H Q E => ∃ d : Str, vs = [.str d] ∧ d.length ≤ 1000000 ∧ (∀ c ∈ TL.tl d, isD c = true) ∧ (goodD (TL.tl d) = true → Q (.int (val (TL.tl d))) H) ∧ (goodD (TL.tl d) = false → E (.ref C) none H)
def spStrAt (C : Addr) : Sp := fun vs H Q E => ∃ (z : Str) (s n : Nat), vs = [.str z, .int s, .int n] ∧ z.length ≤ 1000000 ∧ s ≤ z.length ∧
  (s + n ≤ z.length → ∀ p, H p = none → Q (.ref p) (upd H p (.tup [.str ⟨(((TL.tl z).drop s).take n).toArray⟩, .int ((s + n : Nat) : Int)]))) ∧ (¬ s + n ≤ z.length → E (.ref C) none H)
def spVal (C : Addr) (n : Nat) : Sp := fun vs H Q E => ∃ (z : Str) (s : Nat), vs = [.str z, .int s, .int n] ∧ z.length ≤ 100000 ∧ s ≤ z.length ∧
  (∀ t r, pval n ((TL.tl z).drop s) = some (t, r) → ∀ (p : Addr) (v : V) (e : Nat) (H' : Hp), Kp [] H H' → H' p = some (.tup [v, .int e]) → Rep H' v t → e ≤ z.length → (TL.tl z).drop e = r → Q (.ref p) H') ∧
  (pval n ((TL.tl z).drop s) = none → ∀ H', Kp [] H H' → E (.ref C) none H')
/-- _tuple_at behind its opening bracket -/
def spTupAt (C : Addr) (n : Nat) : Sp := fun vs H Q E => ∃ (z : Str) (s : Nat), vs = [.str z, .int s, .int n] ∧ z.length ≤ 100000 ∧ s ≤ z.length ∧
  (∀ t r, pval n (91 :: (TL.tl z).drop s) = some (t, r) → ∀ (p : Addr) (v : V) (e : Nat) (H' : Hp), Kp [] H H' → H' p = some (.tup [v, .int e]) → Rep H' v t → e ≤ z.length → (TL.tl z).drop e = r → Q (.ref p) H') ∧
  (pval n (91 :: (TL.tl z).drop s) = none → ∀ H', Kp [] H H' → E (.ref C) none H')
/-- decode(v): the tree whose text it is; or a BadText -/
def spDec (C Pt : Addr) : Sp := fun vs H Q E => ∃ v : V, vs = [v] ∧ (∃ t, tyN H v = some t) ∧ (∀ z, v = .str z → z.length ≤ 10000000) ∧ GxR.TabG H Pt ∧
  (∀ z t, v = .str z → z.length ≤ 100000 → prn z = true → pval 8 (TL.tl z) = some (t, []) → ∀ (u : V) (H' : Hp), Kp [Pt] H H' → GxR.TabG H' Pt → Rep H' u t → Q u H') ∧
  ((∀ z t, v = .str z → z.length ≤ 100000 → prn z = true → pval 8 (TL.tl z) ≠ some (t, [])) → ∀ H', Kp [Pt] H H' → GxR.TabG H' Pt → E (.ref C) none H')
end

/-! the office -/
abbrev s_Seals___init : Stmt := inClass (top 30) 0
abbrev N_Seals___init : List Str := ["self"]
theorem sc_Seals___init : FnScope N_Seals___init ["self"] (defScope s_Seals___init) := ⟨rfl, rfl, rfl, by decide +kernel, rfl, by decide +kernel, by decide +kernel⟩
abbrev s_Seals_make : Stmt := inClass (top 30) 1
abbrev N_Seals_make : List Str := ["self", "key", "text", "mark"]
theorem sc_Seals_make : FnScope N_Seals_make ["self", "key", "text"] (defScope s_Seals_make) := ⟨rfl, rfl, rfl, by decide +kernel, rfl, by decide +kernel, by decide +kernel⟩
abbrev s_Seals_holds : Stmt := inClass (top 30) 2
abbrev N_Seals_holds : List Str := ["self", "key", "text", "mark"]
theorem sc_Seals_holds : FnScope N_Seals_holds ["self", "key", "text", "mark"] (defScope s_Seals_holds) := ⟨rfl, rfl, rfl, by decide +kernel, rfl, by decide +kernel, by decide +kernel⟩
abbrev s_Seals_count : Stmt := inClass (top 30) 3
abbrev N_Seals_count : List Str := ["self"]
theorem sc_Seals_count : FnScope N_Seals_count ["self"] (defScope s_Seals_count) := ⟨rfl, rfl, rfl, by decide +kernel, rfl, by decide +kernel, by decide +kernel⟩
/-- the mark of a key and a text -/
def mkS (k t : Str) : Str := dgs (k ++ Str.ofString " " ++ t)
def mkO (made : List (Str × Str)) : List (List Key × V) := made.map fun p => ([Sum.inr p.1, Sum.inr p.2], V.str (mkS p.1 p.2))
/-- made with one pair more, if it is a new one -/
def addP (made : List (Str × Str)) (p : Str × Str) : List (Str × Str) := if p ∈ made then made else made ++ [p]
/-- an office at o, its dict at dm, made the pairs that signed -/
structure Ofc (C o dm : Addr) (made : List (Str × Str)) (H : Hp) : Prop where
  ob : ∃ dx, H o = some (.ins C dx [("_marks", .ref dm)])
  dc : H dm = some (.dT (mkO made))
theorem mkO_val (k t : Str) : ∀ made : List (Str × Str), valV (mkO made) ([Sum.inr k, Sum.inr t] : List Key) = if (k, t) ∈ made then some (.str (mkS k t)) else none
  | [] => rfl
  | p :: r => by
    have ih := mkO_val k t r
    show valV (([Sum.inr p.1, Sum.inr p.2], V.str (mkS p.1 p.2)) :: mkO r) _ = _
    by_cases e : (k, t) = p
    · subst e
      rw [if_pos List.mem_cons_self]
      exact valV_pos rfl
    · rw [valV_neg (fun z => e (by
        have z : ([Sum.inr p.1, Sum.inr p.2] : List Key) = [Sum.inr k, Sum.inr t] := z
        simp only [List.cons.injEq, Sum.inr.injEq, and_true] at z
        exact Prod.ext z.1.symm z.2.symm)), ih]
      by_cases m : (k, t) ∈ r
      · rw [if_pos m, if_pos (List.mem_cons_of_mem _ m)]
      · rw [if_neg m, if_neg (fun z => by
          rcases List.mem_cons.mp z with z | z
          · exact e z
          · exact m z)]
theorem mkO_put (k t : Str) (made : List (Str × Str)) : putK (mkO made) ([Sum.inr k, Sum.inr t] : List Key) (.str (mkS k t)) = mkO (addP made (k, t)) := by
  have v := mkO_val k t made
  unfold addP
  by_cases m : (k, t) ∈ made
  · rw [if_pos m] at v ⊢
    unfold putK
    rw [valV_any, v]
    rw [if_pos (show (some (V.str (mkS k t))).isSome = true from rfl)]
    unfold mkO
    rw [List.map_map]
    refine List.map_congr_left fun p hp => ?_
    show (if ([Sum.inr p.1, Sum.inr p.2] : List Key) = [Sum.inr k, Sum.inr t] then (([Sum.inr p.1, Sum.inr p.2] : List Key), V.str (mkS k t)) else ([Sum.inr p.1, Sum.inr p.2], V.str (mkS p.1 p.2))) = _
    split
    · rename_i z
      simp only [List.cons.injEq, Sum.inr.injEq, and_true] at z
      rw [z.1, z.2]
    · rfl
  · rw [if_neg m] at v ⊢
    rw [putK_new _ v]
    unfold mkO
    rw [List.map_append]
    rfl
theorem addP_len (made : List (Str × Str)) (p : Str × Str) : (addP made p).length ≤ made.length + 1 := by
  unfold addP
  split
  · omega
  · rw [List.length_append]; exact Nat.le_refl _
theorem mkO_len (made : List (Str × Str)) : (mkO made).length = made.length := List.length_map ..
/-- what can be asked of the office -/
def hoV (made : List (Str × Str)) : V → V → V → Bool
  | .str k, .str t, .str m => decide ((k, t) ∈ made) && decide (m = mkS k t)
  | _, _, _ => false
def spInit (C : Addr) : Sp := fun vs H Q _ => ∃ (o dx : Addr), vs = [.ref o] ∧ H o = some (.ins C dx []) ∧ ∀ (dm : Addr) (H' : Hp), H dm = none → dm ≠ o → Ofc C o dm [] H' → Kp [o] H H' → Q .non H'
def spMake (C CK CT : Addr) (Ts : List Addr) : Sp := fun vs H Q E => ∃ (o dm : Addr) (made : List (Str × Str)) (kv tv : V), vs = [.ref o, kv, tv] ∧ Ofc C o dm made H ∧ made.length ≤ 1000 ∧ Tabs Ts H ∧ (∃ t, tyN H kv = some t) ∧ (∃ t, tyN H tv = some t) ∧ szV kv ∧ (∀ z, tv = .str z → z.length ≤ 10000000) ∧
  (kyV kv = false → ∀ H', Kp Ts H H' → Tabs Ts H' → E (.ref CK) none H') ∧ (kyV kv = true → prV tv = false → ∀ H', Kp Ts H H' → Tabs Ts H' → E (.ref CT) none H') ∧
  ∀ k t : Str, kv = .str k → tv = .str t → kyS k = true → prn t = true → ∀ H', Kp (dm :: Ts) H H' → Tabs Ts H' → Ofc C o dm (addP made (k, t)) H' → Q (.str (mkS k t)) H'
def spHolds (C : Addr) : Sp := fun vs H Q _ => ∃ (o dm : Addr) (made : List (Str × Str)) (a b c : V), vs = [.ref o, a, b, c] ∧ Ofc C o dm made H ∧ (∃ t, tyN H a = some t) ∧ (∃ t, tyN H b = some t) ∧ (∃ t, tyN H c = some t) ∧ ∀ H', Kp [] H H' → Q (.bl (hoV made a b c)) H'
def spCount (C : Addr) : Sp := fun vs H Q _ => ∃ (o dm : Addr) (made : List (Str × Str)), vs = [.ref o] ∧ Ofc C o dm made H ∧ Q (.int made.length) H
structure SlC (K : PySem.W.Frag) (mg : Str → Option Value) (C CK CT : Addr) : Prop where
  cl : Cls K C
  nM : NoAttr K C "_marks"
  BadKey : Err K mg "BadKey" CK
  bad : Err K mg "BadText" CT
section
variable {P : Program} {w : World} {K : PySem.W.Frag} {mg : Str → Option Value} {base : Heap} {f : Addr} {fd : FuncData} {C CK CT : Addr}
theorem Ofc.kp {S : List Addr} {o dm : Addr} {made : List (Str × Str)} {H H' : Hp} (h : Ofc C o dm made H) (k : Kp S H H') (n1 : o ∉ S) (n2 : dm ∉ S) : Ofc C o dm made H' :=
  let ⟨dx, e⟩ := h.ob
  ⟨⟨dx, k.keep _ _ n1 e⟩, k.keep _ _ n2 h.dc⟩
theorem Ofc.tabs {Ts : List Addr} {o dm : Addr} {made : List (Str × Str)} {H H' : Hp} (h : Ofc C o dm made H) (k : Kp Ts H H') (g : Tabs Ts H) : Ofc C o dm made H' :=
  let ⟨dx, e⟩ := h.ob
  h.kp k (g.ne e) (g.ne h.dc)
theorem mk_kp {x dx : Addr} {H H1 : Hp} {o : HO} (n1 : H x = none) (n2 : H dx = none) (n3 : dx ≠ x) (k : Kp [x] (upd (upd H dx (.own x)) x o) H1) : Kp [] H H1 :=
  Kp.drop n1 (((Kp.new n2 (.own x) : Kp [x] _ _).trans (Kp.new (by rw [upd_ne n3.symm]; exact n1) o)).trans k)
theorem mk_none {x dx d : Addr} {H : Hp} {o : HO} (h : upd (upd H dx (.own x)) x o d = none) : H d = none := by
  have n1 : d ≠ x := fun e => by rw [e, upd_same] at h; cases h
  rw [upd_ne n1] at h
  have n2 : d ≠ dx := fun e => by rw [e, upd_same] at h; cases h
  rw [upd_ne n2] at h
  exact h
theorem ok_sinit (F : Fun K "__init__" "Seals.__init__" s_Seals___init f fd) (T : SlC K mg C CK CT) : FnOk P w K mg base CX0 1 f fd ["self"] (spInit C) := by
  refine F.ok sc_Seals___init (fun vs H Q E h => ?_) (fun cdv A outer s H vs Q E hr h => ?_)
  · obtain ⟨o, dx, rfl, _⟩ := h; rfl
  obtain ⟨o, dx, rfl, ho, q⟩ := h
  refine ⟨_, (pss_one (ps_fld (pv 0) pe_dnewT rfl)), ?_⟩
  intro d hd
  have nod : o ≠ d := ne_of_none ho hd
  refine ⟨_, rfl, o, C, dx, [], rfl, (by rw [upd_ne nod]; exact ho), T.cl, T.nM, (by show 0 < 1000; decide), ?_⟩
  refine q d _ hd nod.symm ⟨⟨dx, upd_same⟩, by rw [upd_ne nod.symm, upd_same]; rfl⟩ ⟨fun b u hb e => ?_, fun b xs e => ?_⟩
  · rw [upd_ne (fun z => hb (by rw [z]; exact List.mem_singleton.mpr rfl)), upd_ne (ne_of_none e hd)]; exact e
  · rw [upd_ne (ne_of e ho (by intro z; cases z)), upd_ne (ne_of_none e hd)]; exact e
theorem ok_smake {Pt Pc : Addr} {Ts : List Addr} (F : Fun K "make" "Seals.make" s_Seals_make f fd) (B : Blt mg) (T : SlC K mg C CK CT) (mt : Pt ∈ Ts) (mc : Pc ∈ Ts) (c_is_key : Cal P w K mg base CX0 4 "is_key" (spNm kyV Pc)) (c_is_printable : Cal P w K mg base CX0 3 "is_printable" (spPrn Pt)) (c_digest : Cal P w K mg base CX0 1 "digest" spDigest) :
    FnOk P w K mg base (L2.CX P w) 5 f fd ["self", "key", "text"] (spMake C CK CT Ts) := by
  refine F.okX sc_Seals_make (fun vs H Q E h => ?_) (fun cdv A outer s H vs Q E hr h => ?_)
  · obtain ⟨o, dm, made, kv, tv, rfl, _⟩ := h; rfl
  obtain ⟨o, dm, made, kv, tv, rfl, hO, hm, hG, ⟨t1, h1⟩, ⟨t2, h2⟩, z1, z2, e1, e2, q⟩ := h
  refine ⟨_, (pss_cons (ps_if (pt_not (pt_val (c_is_key.pe hr (pa_cons (pv 1) pa_nil)))) (pss_one (T.BadKey.raise (takes_of rfl rfl rfl rfl))) pss_nil)
    (pss_cons (ps_if (pt_not (pt_val (c_is_printable.pe hr (pa_cons (pv 2) pa_nil)))) (pss_one (T.bad.raise (takes_of rfl rfl rfl rfl))) pss_nil)
    (pss_cons (ps_set (i := 3) sc_Seals_make.nd rfl (Or.inl rfl) (c_digest.pe hr (pa_cons (pe_op op_add_str (pe_op op_add_str (pv 1) pe_str) (pv 2)) pa_nil)))
    (pss_cons (ps_dput (hu_of hr) (pe_fld (pv 0) rfl) (pe_tup (pa_cons (pv 1) (pa_cons (pv 2) pa_nil))) (pv 3) rfl)
    (pss_one (ps_ret (pv 3))))))), ?_⟩
  walk_at "wp"
  have off : ∀ {v : V} {t : String}, tyN H v = some t → kyV v = true → ∃ k, v = .str k ∧ kyS k = true := fun {v t} h e => by
    cases v <;> first | exact ⟨_, rfl, e⟩ | cases e
  have offT : ∀ {v : V}, prV v = true → ∃ k, v = .str k ∧ prn k = true := fun {v} e => by
    cases v <;> first | exact ⟨_, rfl, e⟩ | cases e
  refine ⟨kv, rfl, hG _ mc, ⟨t1, h1⟩, z1, fun H1 k1 g1 => ⟨_, rfl, ?_⟩⟩
  have G1 := hG.kp1 k1 g1
  have K1 : Kp Ts H H1 := k1.in1 mc
  cases ek : kyV kv with
  | false => rw [if_pos rfl]; exact e1 ek _ K1 G1
  | true =>
    rw [if_neg (by decide)]
    refine ⟨tv, rfl, G1 _ mt, ⟨t2, K1.tys hG h2⟩, fun H2 k2 g2 => ⟨_, rfl, ?_⟩⟩
    have G2 := G1.kp1 k2 g2
    have K2 : Kp Ts H H2 := K1.trans (k2.in1 mt)
    cases et : prV tv with
    | false => rw [if_pos rfl]; exact e2 ek et _ K2 G2
    | true =>
      rw [if_neg (by decide)]
      obtain ⟨k, rfl, hk⟩ := off h1 ek
      obtain ⟨t, rfl, hp⟩ := offT et
      have lk : k.length ≤ 12 := by
        have h := hk
        unfold kyS at h
        simp only [Bool.and_eq_true, decide_eq_true_eq] at h
        omega
      have lim : sizeLine = 16777216 := sizeLine_eq
      have lt : t.length ≤ 10000000 := z2 t rfl
      have l1 : (Str.ofString " ").length = 1 := by decide +kernel
      have la : ∀ x y : Str, (x ++ y).length = x.length + y.length := fun x y => by rw [TL.len_tl, TL.tl_append, List.length_append, ← TL.len_tl, ← TL.len_tl]
      have O2 := hO.tabs K2 hG
      obtain ⟨dx, ho⟩ := O2.ob
      refine ⟨k, rfl, by omega, t, rfl, by rw [la]; omega, _, rfl, by rw [la, la]; omega, C, dx, _, ho, T.cl, T.nM, _, rfl, by rw [lim]; decide, fun p hp2 => ⟨dm, rfl, upd (upd H2 p (.tup [.str k, .str t])) dm (.dT (mkO (addP made (k, t)))), ?_, ?_⟩⟩
      · have e1 : upd H2 p (.tup [.str k, .str t]) dm = some (.dT (mkO made)) := by rw [upd_ne (ne_of_none O2.dc hp2)]; exact O2.dc
        have z := DPut.t (v := .str (mkS k t)) (k := [Sum.inr k, Sum.inr t]) e1 upd_same (by rw [mkO_len]; omega)
        rw [mkO_put] at z
        exact z
      · have kp : Kp (dm :: Ts) H2 (upd (upd H2 p (.tup [.str k, .str t])) dm (.dT (mkO (addP made (k, t))))) := by
          refine ⟨fun b u n q => ?_, fun b xs q => ?_⟩
          · rw [upd_ne (fun z => n (by rw [z]; exact List.mem_cons_self)), upd_ne (ne_of_none q hp2)]; exact q
          · rw [upd_ne (ne_of q O2.dc (by intro z; cases z)), upd_ne (ne_of_none q hp2)]; exact q
        have nd : dm ∉ Ts := G2.ne O2.dc
        have nod : o ≠ dm := ne_of ho O2.dc (by intro z; cases z)
        refine q k t rfl rfl hk hp _ ((K2.mono fun b hb => List.mem_cons_of_mem _ hb).trans kp) (fun P m => ?_) ⟨⟨dx, ?_⟩, upd_same⟩
        · obtain ⟨a, e, z⟩ := G2 P m
          exact ⟨a, by rw [upd_ne (fun z => nd (by rw [← z]; exact m)), upd_ne (ne_of_none e hp2)]; exact e, z⟩
        · rw [upd_ne nod, upd_ne (ne_of_none ho hp2)]; exact ho
theorem ok_sholds (F : Fun K "holds" "Seals.holds" s_Seals_holds f fd) (B : Blt mg) (T : SlC K mg C CK CT) : FnOk P w K mg base CX0 1 f fd ["self", "key", "text", "mark"] (spHolds C) := by
  refine F.ok sc_Seals_holds (fun vs H Q E h => ?_) (fun cdv A outer s H vs Q E hr h => ?_)
  · obtain ⟨o, dm, made, a, b, c, rfl, _⟩ := h; rfl
  obtain ⟨o, dm, made, a, b, c, rfl, hO, ⟨t1, h1⟩, ⟨t2, h2⟩, ⟨t3, h3⟩, q⟩ := h
  refine ⟨_, (pss_cons (ps_if (PW.pt (pw_or (pt_not (pt_val (B.isT (pv 1) B.v_str))) (pw_or (pt_not (pt_val (B.isT (pv 2) B.v_str))) (pw_or1 (pt_not (pt_val (B.isT (pv 3) B.v_str))))))) (pss_one (ps_ret pe_bl)) pss_nil)
    (pss_one (ps_ret (pe_cmpR op_eq (pe_dget1 (hu_of hr) (pe_fld (pv 0) rfl) (pe_tup (pa_cons (pv 1) (pa_cons (pv 2) pa_nil))) ⟨rfl, rfl, rfl, rfl⟩) (pv 3) (nomark _))))), ?_⟩
  walk_at "wp"
  have off : hoV made a b c = false → Q (.bl false) H := fun h => by
    have y := q H (Kp.refl _ _)
    rw [h] at y; exact y
  have no1 : isaB t1 "str" = false → hoV made a b c = false := fun c1 => by
    cases a <;> first | rfl | (cases h1; exact absurd c1 (by decide))
  refine ⟨t1, h1, ?_⟩
  cases c1 : isaB t1 "str" with
  | false => rw [if_pos rfl]; exact off (no1 c1)
  | true =>
    rw [if_neg (by decide)]
    obtain ⟨k, rfl⟩ := isa_str h1 c1
    refine ⟨t2, h2, ?_⟩
    cases c2 : isaB t2 "str" with
    | false =>
      rw [if_pos rfl]
      exact off (by cases b <;> first | rfl | (cases h2; exact absurd c2 (by decide)))
    | true =>
      rw [if_neg (by decide)]
      obtain ⟨t, rfl⟩ := isa_str h2 c2
      refine ⟨t3, h3, ?_⟩
      cases c3 : isaB t3 "str" with
      | false =>
        rw [if_pos rfl]
        exact off (by cases c <;> first | rfl | (cases h3; exact absurd c3 (by decide)))
      | true =>
        rw [if_neg (by decide)]
        obtain ⟨m, rfl⟩ := isa_str h3 c3
        obtain ⟨dx, ho⟩ := hO.ob
        have lim : sizeLine = 16777216 := sizeLine_eq
        refine ⟨C, dx, _, ho, T.cl, T.nM, _, rfl, dm, rfl, .inr ⟨_, .inl hO.dc⟩, by rw [lim]; decide, fun p hp => ⟨_, DGet.t (k := [Sum.inr k, Sum.inr t]) (by rw [upd_ne (ne_of_none hO.dc hp)]; exact hO.dc) upd_same, ?_⟩⟩
        rw [mkO_val]
        have y := q _ (Kp.new hp (.tup [.str k, .str t]))
        have e : hoV made (.str k) (.str t) (.str m) = (decide ((k, t) ∈ made) && decide (m = mkS k t)) := rfl
        rw [e] at y
        by_cases h : (k, t) ∈ made
        · rw [if_pos h]
          rw [decide_eq_true h, Bool.true_and] at y
          refine ⟨rfl, ?_⟩
          show Q (V.bl (decide (V.str (mkS k t) = V.str m))) _
          rw [show decide (V.str (mkS k t) = V.str m) = decide (m = mkS k t) from decide_eq_decide.mpr ⟨fun z => (V.str.inj z).symm, fun z => by rw [z]⟩]
          exact y
        · rw [if_neg h]
          rw [decide_eq_false h, Bool.false_and] at y
          exact ⟨rfl, y⟩
theorem ok_scount (F : Fun K "count" "Seals.count" s_Seals_count f fd) (B : Blt mg) (T : SlC K mg C CK CT) : FnOk P w K mg base CX0 1 f fd ["self"] (spCount C) := by
  refine F.ok sc_Seals_count (fun vs H Q E h => ?_) (fun cdv A outer s H vs Q E hr h => ?_)
  · obtain ⟨o, dm, made, rfl, _⟩ := h; rfl
  obtain ⟨o, dm, made, rfl, hO, q⟩ := h
  refine ⟨_, (pss_one (ps_ret (B.len_d (pa_cons (pe_fld (pv 0) rfl) pa_nil)))), ?_⟩
  obtain ⟨⟨dx, ho⟩, hd⟩ := hO
  refine ⟨_, rfl, o, C, dx, _, _, rfl, ho, T.cl, T.nM, rfl, dm, _, rfl, hd, ?_⟩
  rw [mkO_len]
  exact q
end

/-! ''.join([S[_law_take(stream, m)] for k in range(n)]) -/
section
variable {K : PySem.W.Frag}
theorem cps_lenP (z : Str) : z.cps.toList.length = z.length := by
  show _ = z.cps.size
  exact Array.length_toList
/-- the new list of one-sign texts -/
structure Picked (S : Str) (n : Nat) (st : Addr) (H : Hp) (D : Addr) (cs : List Nat) (H' : Hp) : Prop where
  at_ : H' D = some (.lst ((sgs cs).map V.str))
  len : cs.length = n
  mem : ∀ c ∈ cs, c ∈ S.cps.toList
  kp : Kp [st] H H'
  st : Strm H' st
theorem Picked.sum {S : Str} {n : Nat} {st : Addr} {H : Hp} {D : Addr} {cs : List Nat} {H' : Hp} (p : Picked S n st H D cs H') (hn : n ≤ 16000000) : (List.map (fun x => x.length) (sgs cs)).sum + (sgs cs).length * (Str.ofString "").length ≤ 16777216 := by
  rw [sgs_sum, sgs_len, p.len]
  show n + n * 0 ≤ _
  omega
theorem join_len (cs : List Nat) : (Txt.join (Str.ofString "") (sgs cs)).length = cs.length := by rw [TL.len_tl, tl_sgs]
theorem join_cps (cs : List Nat) : (Txt.join (Str.ofString "") (sgs cs)).cps.toList = cs := tl_sgs cs
theorem pick_lst {σ : St} {H : Hp} {R : VK} {ta : TA} {tm : TE} {ks is js : Nat} {S : Str} {m n : Int} {st : Addr}
    (ha : ∀ R, R [V.int n] H → ta σ H R) (n0 : 0 ≤ n) (n1 : n ≤ 1000) (hst : Strm H st)
    (hS : ∀ x, ((wipe σ [ks]).set ks (some x))[is]? = some (some (.str S))) (hj : ∀ x, ((wipe σ [ks]).set ks (some x))[js]? = some (some (.ref st)))
    (hw : ∀ x : V, wipe ((wipe σ [ks]).set ks (some x)) [ks] = wipe σ [ks])
    (hm : ∀ x H2 R, R (V.int m) H2 → tm ((wipe σ [ks]).set ks (some x)) H2 R) (m0 : 0 < m) (m1 : m ≤ S.length) (hSl : S.length ≤ 1000)
    (q : ∀ (D : Addr) (cs : List Nat) (H' : Hp), Picked S n.toNat st H D cs H' → R (.ref D) H') :
    tLc (iRng1 ta) (gName ks) tYes (tOp rIxS (tVar is) (tCall spTake [] E0 (tCons (tVar js) (tCons tm tNil)))) [ks] σ H R := by
  refine ha _ ⟨n, rfl, by omega, by omega, fun D hD => ?_⟩
  have lim : sizeLine = 16777216 := sizeLine_eq
  have nD : D ≠ st := by obtain ⟨a, b, e⟩ := hst; exact (ne_of_none e hD).symm
  refine lc_range (lo := 0) (n := n.toNat) (fun i H' => ∃ cs : List Nat, H' D = some (.lst ((sgs cs).map V.str)) ∧ cs.length = i ∧ (∀ c ∈ cs, c ∈ S.cps.toList) ∧ Kp [st] H H' ∧ Strm H' st)
    ⟨[], upd_same, rfl, fun c h => absurd h (by simp), Kp.new hD _, hst.kp (Kp.new hD _ : Kp [] _ _) (by simp)⟩ (fun i H2 hi ⟨cs, hcD, hcl, hca, k2, s2⟩ => ?_) (fun H2 ⟨cs, hcD, hcl, hca, k2, s2⟩ => ?_)
  · refine ⟨hw _, ?_⟩
    simp only [tYes, if_true]
    refine ⟨_, hS _, _, hj _, hm _ _ _ ⟨st, m, rfl, s2, ⟨m0, by omega⟩, fun v H3 v0 v1 k3 s3 => ?_⟩⟩
    obtain ⟨c, hc⟩ : ∃ c, S.cps.toList[v.toNat]? = some c := ⟨_, List.getElem?_eq_getElem (by rw [cps_lenP]; omega)⟩
    have hcD3 := k3.keep D _ (by simpa using nD) hcD
    refine ⟨S, v, c, rfl, rfl, by omega, ?_, _, hcD3, by rw [List.length_map, sgs_len]; omega, cs ++ [c], by rw [upd_same, sgs_add], by rw [List.length_append, hcl]; rfl, fun d h => ?_, (k2.trans k3).upd hD hcD3, ?_⟩
    · have ev : v = ((v.toNat : Nat) : Int) := by omega
      rw [ev]
      exact atI_nat hc
    · rcases List.mem_append.mp h with h | h
      · exact hca d h
      · rw [List.mem_singleton.mp h]; exact List.mem_of_getElem? hc
    · obtain ⟨a, b, e⟩ := s3
      exact ⟨a, b, by rw [upd_ne (Ne.symm nD)]; exact e⟩
  · exact q D cs H2 ⟨hcD, hcl, hca, k2, s2⟩
end

/-! ''.join([S[_law_take(stream, m)] for k in range(n)]), S any reading -/
section
variable {K : PySem.W.Frag}
theorem pick_lstG {σ : St} {H0 : Hp} {R : VK} {ta : TA} {tm ts : TE} {ks js : Nat} {S : Str} {m : Int} {st : Addr} (Pn : Int → Hp → Prop)
    (ha : ∀ R, (∀ n H, Pn n H → R [V.int n] H) → ta σ H0 R) (hP : ∀ n H, Pn n H → 0 ≤ n ∧ n ≤ 1000 ∧ Strm H st)
    (hS : ∀ x H2 R, R (V.str S) H2 → ts ((wipe σ [ks]).set ks (some x)) H2 R) (hj : ∀ x, ((wipe σ [ks]).set ks (some x))[js]? = some (some (.ref st)))
    (hw : ∀ x : V, wipe ((wipe σ [ks]).set ks (some x)) [ks] = wipe σ [ks])
    (hm : ∀ x H2 R, R (V.int m) H2 → tm ((wipe σ [ks]).set ks (some x)) H2 R) (m0 : 0 < m) (m1 : m ≤ S.length) (hSl : S.length ≤ 1000)
    (q : ∀ (n : Int) (H : Hp) (D : Addr) (cs : List Nat) (H' : Hp), Pn n H → Picked S n.toNat st H D cs H' → R (.ref D) H') :
    tLc (iRng1 ta) (gName ks) tYes (tOp rIxS ts (tCall spTake [] E0 (tCons (tVar js) (tCons tm tNil)))) [ks] σ H0 R := by
  refine ha _ fun n H hn => ?_
  obtain ⟨n0, n1, hst⟩ := hP n H hn
  refine ⟨n, rfl, by omega, by omega, fun D hD => ?_⟩
  have lim : sizeLine = 16777216 := sizeLine_eq
  have nD : D ≠ st := by obtain ⟨a, b, e⟩ := hst; exact (ne_of_none e hD).symm
  refine lc_range (lo := 0) (n := n.toNat) (fun i H' => ∃ cs : List Nat, H' D = some (.lst ((sgs cs).map V.str)) ∧ cs.length = i ∧ (∀ c ∈ cs, c ∈ S.cps.toList) ∧ Kp [st] H H' ∧ Strm H' st)
    ⟨[], upd_same, rfl, fun c h => absurd h (by simp), Kp.new hD _, hst.kp (Kp.new hD _ : Kp [] _ _) (by simp)⟩ (fun i H2 hi ⟨cs, hcD, hcl, hca, k2, s2⟩ => ?_) (fun H2 ⟨cs, hcD, hcl, hca, k2, s2⟩ => ?_)
  · refine ⟨hw _, ?_⟩
    simp only [tYes, if_true]
    refine hS _ _ _ ?_
    refine ⟨_, hj _, hm _ _ _ ⟨st, m, rfl, s2, ⟨m0, by omega⟩, fun v H3 v0 v1 k3 s3 => ?_⟩⟩
    obtain ⟨c, hc⟩ : ∃ c, S.cps.toList[v.toNat]? = some c := ⟨_, List.getElem?_eq_getElem (by rw [cps_lenP]; omega)⟩
    have hcD3 := k3.keep D _ (by simpa using nD) hcD
    refine ⟨S, v, c, rfl, rfl, by omega, ?_, _, hcD3, by rw [List.length_map, sgs_len]; omega, cs ++ [c], by rw [upd_same, sgs_add], by rw [List.length_append, hcl]; rfl, fun d h => ?_, (k2.trans k3).upd hD hcD3, ?_⟩
    · have ev : v = ((v.toNat : Nat) : Int) := by omega
      rw [ev]
      exact atI_nat hc
    · rcases List.mem_append.mp h with h | h
      · exact hca d h
      · rw [List.mem_singleton.mp h]; exact List.mem_of_getElem? hc
    · obtain ⟨a, b, e⟩ := s3
      exact ⟨a, b, by rw [upd_ne (Ne.symm nD)]; exact e⟩
  · exact q n H D cs H2 hn ⟨hcD, hcl, hca, k2, s2⟩
/-- [f(stream) for k in range(n)], f draws a text -/
theorem draw_lst {σ : St} {H0 : Hp} {R : VK} {ta : TA} {te : TE} {ks : Nat} {st : Addr} (Pn : Int → Hp → Prop) (Pk : Str → Prop)
    (ha : ∀ R, (∀ n H, Pn n H → R [V.int n] H) → ta σ H0 R) (hP : ∀ n H, Pn n H → 0 ≤ n ∧ n ≤ 1000 ∧ Strm H st)
    (hw : ∀ x : V, wipe ((wipe σ [ks]).set ks (some x)) [ks] = wipe σ [ks])
    (he : ∀ (x : V) (H2 : Hp) (R : VK), Strm H2 st → (∀ (k : Str) (H3 : Hp), Pk k → Kp [st] H2 H3 → Strm H3 st → R (.str k) H3) → te ((wipe σ [ks]).set ks (some x)) H2 R)
    (q : ∀ (n : Int) (H : Hp) (D : Addr) (cs : List Str) (H' : Hp), Pn n H → H' D = some (.lst (cs.map V.str)) → cs.length = n.toNat → (∀ c ∈ cs, Pk c) → Kp [st] H H' → Strm H' st → H D = none → R (.ref D) H') :
    tLc (iRng1 ta) (gName ks) tYes te [ks] σ H0 R := by
  refine ha _ fun n H hn => ?_
  obtain ⟨n0, n1, hst⟩ := hP n H hn
  refine ⟨n, rfl, by omega, by omega, fun D hD => ?_⟩
  have lim : sizeLine = 16777216 := sizeLine_eq
  have nD : D ≠ st := by obtain ⟨a, b, e⟩ := hst; exact (ne_of_none e hD).symm
  refine lc_range (lo := 0) (n := n.toNat) (fun i H' => ∃ cs : List Str, H' D = some (.lst (cs.map V.str)) ∧ cs.length = i ∧ (∀ c ∈ cs, Pk c) ∧ Kp [st] H H' ∧ Strm H' st)
    ⟨[], upd_same, rfl, fun c h => absurd h (by simp), Kp.new hD _, hst.kp (Kp.new hD _ : Kp [] _ _) (by simp)⟩ (fun i H2 hi ⟨cs, hcD, hcl, hca, k2, s2⟩ => ?_) (fun H2 ⟨cs, hcD, hcl, hca, k2, s2⟩ => ?_)
  · refine ⟨hw _, ?_⟩
    simp only [tYes, if_true]
    refine he _ _ _ s2 fun k H3 pk k3 s3 => ?_
    have hcD3 := k3.keep D _ (by simpa using nD) hcD
    refine ⟨cs.map V.str, hcD3, by rw [List.length_map]; omega, cs ++ [k], by rw [upd_same, List.map_append]; rfl, by rw [List.length_append, hcl]; rfl, fun d h => ?_, (k2.trans k3).upd hD hcD3, ?_⟩
    · rcases List.mem_append.mp h with h | h
      · exact hca d h
      · rw [List.mem_singleton.mp h]; exact pk
    · obtain ⟨a, b, e⟩ := s3
      exact ⟨a, b, by rw [upd_ne (Ne.symm nD)]; exact e⟩
  · exact q n H D cs H2 hn hcD hcl hca k2 s2 hD
end

mutual
theorem sml_of : ∀ (n : Nat) (t : Tr), pl n t = true → (txt t).length ≤ 1000000 → sml t = true
  | _, .int _, _, _ => rfl
  | _, .str z, _, h => by
    have h : (dig z.length ++ 58 :: TL.tl z).length ≤ 1000000 := h
    rw [List.length_append, List.length_cons, ← TL.len_tl] at h
    show decide (z.length ≤ 10000000) = true
    exact decide_eq_true (by omega)
  | 0, .tup _, hp, _ => by cases hp
  | n + 1, .tup ts, hp, h => by
    have h : (91 :: (txts ts ++ [93])).length ≤ 1000000 := h
    rw [List.length_cons, List.length_append] at h
    obtain ⟨a, b⟩ := smls_of n ts hp (by omega)
    show (smls ts && decide (ts.length ≤ 1000000)) = true
    rw [a, decide_eq_true (by omega)]; rfl
  | _, .oth _, hp, _ => by cases hp
theorem smls_of : ∀ (n : Nat) (ts : List Tr), pls n ts = true → (txts ts).length ≤ 1000000 → smls ts = true ∧ ts.length ≤ (txts ts).length
  | _, [], _, _ => ⟨rfl, Nat.le_refl _⟩
  | n, t :: ts, hp, h => by
    have hp : (pl n t && pls n ts) = true := hp
    rw [Bool.and_eq_true] at hp
    have h : (txt t ++ txts ts).length ≤ 1000000 := h
    rw [List.length_append] at h
    obtain ⟨a, b⟩ := smls_of n ts hp.2 (by omega)
    have c := sml_of n t hp.1 (by omega)
    have d : 1 ≤ (txt t).length := txt_pos n t hp.1
    exact ⟨by show (sml t && smls ts) = true; rw [a, c]; rfl, by show ts.length + 1 ≤ (txt t ++ txts ts).length; rw [List.length_append]; omega⟩
theorem txt_pos : ∀ (n : Nat) (t : Tr), pl n t = true → 1 ≤ (txt t).length
  | _, .int i, _ => by show 1 ≤ (dig i.toNat ++ [46]).length; rw [List.length_append]; exact Nat.le_add_left _ _
  | _, .str z, _ => by show 1 ≤ (dig z.length ++ 58 :: TL.tl z).length; rw [List.length_append, List.length_cons]; omega
  | _, .tup ts, _ => by show 1 ≤ (91 :: (txts ts ++ [93])).length; rw [List.length_cons]; omega
  | _, .oth _, hp => by cases hp
end
theorem txt_nil {n : Nat} {t : Tr} (h : pl n t = true) : txt t ≠ [] := fun e => by
  have := txt_pos n t h
  rw [e] at this
  exact absurd this (by decide)
theorem Cal.peS {X : Cx} {j k : Nat} {sp : Sp} {x : Str} {W : WX} {p pos : Pos} {e : Expr} {es : List Expr} {t : TA} (c : Cal X.prog X.w X.K X.mg X.base (L2.CX X.prog X.w) j x sp) (hr : Room k X.A) (tk : Takes X W) (ha : PA X (e :: es) t) (hjk : j ≤ k := by first | decide | omega) (hg : Gl X x := by rfl) (hdb : (x == ("__debug__" : Str)) = false := by decide)
    (he : starEach (e :: es) X.env = (false, eval e X.env) :: starEach es X.env := by rfl) (hpl : (backTo pos (starEach es X.env)).any (·.1) = false := by rfl) :
    PE X (.Call (.Name x p) (e :: es) [] pos) (tCallS sp (WE W) t) :=
  let ⟨_, _, _, F, m, kp, b⟩ := c.ex
  pe_callS F (hr.mono hjk) hg m kp b (fun σ => passAt tk σ) ha hdb he hpl

/-! texts of proper signs -/
theorem u65 {A : PySem.Around} {k : Nat} (hr : Room k A) : A.units + 65 < cLine := by have := Room.un hr; omega
theorem ky_len {k : Str} (h : kyS k = true) : k.length ≤ 12 := by
  unfold kyS at h
  simp only [Bool.and_eq_true, decide_eq_true_eq] at h
  omega
theorem strOk_of {z : Str} (h : ∀ c ∈ TL.tl z, c < 1114112) : PyData.strOk z = true := by
  unfold PyData.strOk
  rw [← Array.all_toList, List.all_eq_true]
  exact fun c hc => decide_eq_true (h c hc)
theorem strOk_prn {z : Str} (h : prn z = true) : PyData.strOk z = true := strOk_of fun c hc => by
  unfold prn at h
  rw [List.all_eq_true] at h
  have := h c hc
  unfold prc at this
  simp only [Bool.and_eq_true, decide_eq_true_eq] at this
  omega
theorem strOk_ky {z : Str} (h : kyS z = true) : PyData.strOk z = true := strOk_of fun c hc => by
  unfold kyS at h
  simp only [Bool.and_eq_true, decide_eq_true_eq] at h
  obtain ⟨⟨⟨h1, h2⟩, h3⟩, h4⟩ := h
  have hl : z.cps.toList.length = z.length := cps_lenP z
  cases e : z.cps.toList with
  | nil => rw [e] at hl; simp at hl; omega
  | cons d r =>
    have hc : c ∈ d :: r := by rw [← e]; exact hc
    rw [e] at h3
    have h3 : d = 107 := Option.some.inj h3
    rcases List.mem_cons.mp hc with hc | hc
    · omega
    · unfold inT at h4
      rw [List.all_eq_true] at h4
      have hm : c ∈ (cutS z (some 1) none).cps.toList := by
        show c ∈ (z.cps.toList.drop (HT.sIx z.length 0 (some ((1 : Nat) : Int)))).take (HT.sIx z.length z.length none - HT.sIx z.length 0 (some ((1 : Nat) : Int)))
        rw [HT.sIx_nat, HT.sIx_none, e, show min 1 z.length = 1 by omega, List.take_of_length_le (by rw [List.length_drop, ← e, hl]; exact Nat.le_refl _)]
        exact hc
      have := of_decide_eq_true (h4 c hm)
      exact (by decide +kernel : ∀ c ∈ (Str.ofString "0123456789").cps.toList, c < 1114112) c this
theorem strOk_app {x y : Str} (h1 : PyData.strOk x = true) (h2 : PyData.strOk y = true) : PyData.strOk (x ++ y) = true := by
  unfold PyData.strOk at h1 h2
  rw [← Array.all_toList, List.all_eq_true] at h1 h2
  refine strOk_of fun c hc => ?_
  rw [TL.tl_append] at hc
  rcases List.mem_append.mp hc with hc | hc
  · exact of_decide_eq_true (h1 c hc)
  · exact of_decide_eq_true (h2 c hc)

/-! opened -/
/-- a seal, as a tree -/
def isSl : Tr → Bool
  | .tup [.str k, .str m] => kyS k && decide (m.length ≤ 40)
  | _ => false
def keyT : Tr → Str
  | .tup (.str k :: _) => k
  | _ => Str.empty
/-- the content of a sealed text -/
def isCo : Tr → Bool
  | .tup [.str _, .tup ss] => decide (ss.length ≤ 32) && ss.all isSl && asc (ss.map keyT)
  | _ => false
def spAsc (K : PySem.W.Frag) : Sp := fun vs H Q _ => ∃ (p : Addr) (xs : List Str), vs = [.ref p] ∧ SqL K H p (xs.map V.str) ∧ xs.length ≤ 100 ∧ (∀ z ∈ xs, PyData.strOk z = true) ∧ ∀ H', Kp [] H H' → Q (.bl (asc xs)) H'
def spSeal (Pc : Addr) : Sp := fun vs H Q _ => ∃ (v : V) (t : Tr), vs = [v] ∧ Rep H v t ∧ sml t = true ∧ GxR.TabG H Pc ∧ ∀ H', Kp [Pc] H H' → GxR.TabG H' Pc → Q (.bl (isSl t)) H'
def spCont (Ts : List Addr) : Sp := fun vs H Q _ => ∃ (v : V) (t : Tr), vs = [v] ∧ Rep H v t ∧ sml t = true ∧ Tabs Ts H ∧ ∀ H', Kp Ts H H' → Tabs Ts H' → Q (.bl (isCo t)) H'
/-- what opened gives: the content that the text is the text of -/
def opn (z : Str) (t : Tr) : Prop := z.length ≤ 100000 ∧ prn z = true ∧ pval 8 (TL.tl z) = some (t, []) ∧ isCo t = true
def spOpen (C : Addr) (Ts : List Addr) : Sp := fun vs H Q E => ∃ v : V, vs = [v] ∧ (∃ t, tyN H v = some t) ∧ (∀ z, v = .str z → z.length ≤ 10000000) ∧ Tabs Ts H ∧
  (∀ z t, v = .str z → opn z t → ∀ (u : V) (H' : Hp), Kp Ts H H' → Tabs Ts H' → Rep H' u t → Q u H') ∧ ((∀ z t, v = .str z → ¬ opn z t) → ∀ H', Kp Ts H H' → Tabs Ts H' → E (.ref C) none H')
structure OpC (mg : Str → Option Value) : Prop where
  c_MOST_MARK : ∃ t, mg "_MOST_MARK" = some (.int 40 t)
  c_MOST_SEALS : ∃ t, mg "MOST_SEALS" = some (.int 32 t)
structure OpT (K : PySem.W.Frag) (mg : Str → Option Value) (C : Addr) : Prop where
  bad : Err K mg "BadText" C
theorem strs_dp {K : PySem.W.Frag} {H : Hp} : ∀ xs : List Str, DpAll K H (xs.map V.str) (xs.map PyData.str)
  | [] => .nil
  | x :: r => .cons (.str x) (strs_dp r)
theorem strs_shaped {xs : List Str} (h : ∀ z ∈ xs, PyData.strOk z = true) : SeqAt.shaped (.list (xs.map PyData.str)) = true := by
  have g : ∀ ys : List Str, (∀ z ∈ ys, PyData.strOk z = true) → PyData.canLayAll0 (ys.map PyData.str) = true ∧ PyData.depthAll (ys.map PyData.str) ≤ 0 := fun ys => by
    induction ys with
    | nil => exact fun _ => ⟨by simp [PyData.canLayAll0], by simp [PyData.depthAll]⟩
    | cons y r ih =>
      intro h
      have ih := ih fun z hz => h z (List.mem_cons_of_mem _ hz)
      exact ⟨by simp [PyData.canLayAll0, PyData.canLay0, ih.1, h y List.mem_cons_self], by
        have := ih.2
        simp only [List.map_cons, PyData.depthAll, PyData.depth]
        omega⟩
  obtain ⟨h1, h2⟩ := g xs h
  unfold SeqAt.shaped
  rw [Bool.and_eq_true]
  exact ⟨by simp [PyData.canLay0, h1], decide_eq_true (by simp only [PyData.depth]; omega)⟩
theorem strs_eqv : ∀ xs ys : List Str, PyData.eqvAll (xs.map PyData.str) (ys.map PyData.str) = decide (xs = ys)
  | [], [] => rfl
  | [], _ :: _ => rfl
  | _ :: _, [] => rfl
  | x :: xs, y :: ys => by
    show (x == y && PyData.eqvAll (xs.map PyData.str) (ys.map PyData.str)) = _
    rw [strs_eqv xs ys, Bool.eq_iff_iff, Bool.and_eq_true, beq_iff_eq, decide_eq_true_eq, decide_eq_true_eq, List.cons.injEq]
mutual
theorem Rep.tabs {Ts : List Addr} {H H' : Hp} (k : Kp Ts H H') (g : Tabs Ts H) : ∀ {v : V} {t : Tr}, Rep H v t → Rep H' v t
  | _, _, .int i => .int i
  | _, _, .str z => .str z
  | _, _, .tup e r => .tup (k.tup _ _ e) (r.tabs k g)
  | _, _, .oth e a b c => .oth (k.tys g e) a b c
theorem RepAll.tabs {Ts : List Addr} {H H' : Hp} (k : Kp Ts H H') (g : Tabs Ts H) : ∀ {vs : List V} {ts : List Tr}, RepAll H vs ts → RepAll H' vs ts
  | _, _, .nil => .nil
  | _, _, .cons a b => .cons (a.tabs k g) (b.tabs k g)
end
theorem rep_tup {H : Hp} {v : V} {t : Tr} {ty : String} (h : Rep H v t) (e : tyN H v = some ty) (b : isaB ty "tuple" = true) : ∃ (a : Addr) (xs : List V) (ts : List Tr), v = .ref a ∧ H a = some (.tup xs) ∧ t = .tup ts ∧ RepAll H xs ts := by
  cases h with
  | int => cases e; exact absurd b (by decide)
  | str => cases e; exact absurd b (by decide)
  | oth e' n1 n2 n3 =>
    rw [e'] at e; cases e
    unfold isaB at b
    simp only [Bool.or_eq_true, Bool.and_eq_true, beq_iff_eq] at b
    rcases b with b | b
    · exact absurd b n3
    · exact absurd b.2 (by decide)
  | tup e' r => exact ⟨_, _, _, rfl, e', rfl, r⟩
theorem rep_str {H : Hp} {v : V} {t : Tr} {ty : String} (h : Rep H v t) (e : tyN H v = some ty) (b : isaB ty "str" = true) : ∃ z : Str, v = .str z ∧ t = .str z := by
  cases h with
  | int => cases e; exact absurd b (by decide)
  | tup e' r => rw [tyN_tup e'] at e; cases e; exact absurd b (by decide)
  | oth e' n1 n2 n3 =>
    rw [e'] at e; cases e
    unfold isaB at b
    simp only [Bool.or_eq_true, Bool.and_eq_true, beq_iff_eq] at b
    rcases b with b | b
    · exact absurd b n2
    · exact absurd b.2 (by decide)
  | str z => exact ⟨_, rfl, rfl⟩
theorem rep_ntup {H : Hp} {v : V} {ts : List Tr} {ty : String} (h : Rep H v (.tup ts)) (e : tyN H v = some ty) : isaB ty "tuple" = true := by
  cases h with
  | tup e' r => rw [tyN_tup e'] at e; cases e; decide
theorem rep_nstr {H : Hp} {v : V} {z : Str} {ty : String} (h : Rep H v (.str z)) (e : tyN H v = some ty) : isaB ty "str" = true := by
  cases h with
  | str => cases e; decide
theorem rep_sz {H : Hp} {v : V} {t : Tr} (h : Rep H v t) (hs : sml t = true) : szV v := by
  cases h with
  | str z =>
    have : z.length ≤ 10000000 := of_decide_eq_true hs
    show z.length ≤ sizeLine
    rw [sizeLine_eq]; omega
  | int => exact True.intro
  | tup => exact True.intro
  | @oth v t e n1 n2 n3 => cases v <;> first | exact True.intro | (cases e; exact absurd rfl n2)
theorem rep_ky {H : Hp} {v : V} {t : Tr} (h : Rep H v t) (k : kyV v = true) : ∃ z : Str, v = .str z ∧ t = .str z ∧ kyS z = true := by
  cases h with
  | str z => exact ⟨z, rfl, rfl, k⟩
  | int => cases k
  | tup => cases k
  | @oth v t e n1 n2 n3 => cases v <;> first | (cases k; done) | (cases e; exact absurd rfl n2)
theorem rep_nky {H : Hp} {v : V} {z : Str} (h : Rep H v (.str z)) (k : kyS z = true) : kyV v = true := by
  cases h with
  | str => exact k
theorem two_or {H : Hp} {xs : List V} {ts : List Tr} (r : RepAll H xs ts) : (xs.length ≠ 2 ∧ ts.length ≠ 2) ∨ ∃ (x1 x2 : V) (t1 t2 : Tr), xs = [x1, x2] ∧ ts = [t1, t2] ∧ Rep H x1 t1 ∧ Rep H x2 t2 := by
  by_cases l : xs.length = 2
  · cases r with
    | nil => cases l
    | cons a r =>
      cases r with
      | nil => cases l
      | cons b r =>
        cases r with
        | nil => exact .inr ⟨_, _, _, _, rfl, rfl, a, b⟩
        | cons c r => simp at l
  · exact .inl ⟨l, by rw [← r.len]; exact l⟩
theorem isSl_two {t : Tr} (h : isSl t = true) : ∃ k m : Str, t = .tup [.str k, .str m] ∧ kyS k = true ∧ m.length ≤ 40 := by
  unfold isSl at h
  split at h
  · rw [Bool.and_eq_true, decide_eq_true_eq] at h; exact ⟨_, _, rfl, h.1, h.2⟩
  · cases h
theorem isCo_two {t : Tr} (h : isCo t = true) : ∃ (z : Str) (ss : List Tr), t = .tup [.str z, .tup ss] ∧ ss.length ≤ 32 ∧ (∀ s ∈ ss, isSl s = true) ∧ asc (ss.map keyT) = true := by
  unfold isCo at h
  split at h
  · simp only [Bool.and_eq_true, decide_eq_true_eq, List.all_eq_true] at h; exact ⟨_, _, rfl, h.1.1, h.1.2, h.2⟩
  · cases h
section
variable {P : Program} {w : World} {K : PySem.W.Frag} {mg : Str → Option Value} {base : Heap} {f : Addr} {fd : FuncData}
end

/-! the laws' own keys, words, marks -/
abbrev s_law_says : Stmt := top 38
abbrev N_law_says : List Str := ["actual", "expected"]
theorem sc_law_says : FnScope N_law_says ["actual", "expected"] (defScope s_law_says) := ⟨rfl, rfl, rfl, by decide +kernel, rfl, by decide +kernel, by decide +kernel⟩
abbrev s_law_digest : Stmt := top 37
abbrev N_law_digest : List Str := ["text", "number", "char", "digits", "k"]
theorem sc_law_digest : FnScope N_law_digest ["text"] (defScope s_law_digest) := ⟨rfl, rfl, rfl, by decide +kernel, rfl, by decide +kernel, by decide +kernel⟩
abbrev s_law_mark : Stmt := top 39
abbrev N_law_mark : List Str := ["key", "text"]
theorem sc_law_mark : FnScope N_law_mark ["key", "text"] (defScope s_law_mark) := ⟨rfl, rfl, rfl, by decide +kernel, rfl, by decide +kernel, by decide +kernel⟩
abbrev s_law_counts : Stmt := top 40
abbrev N_law_counts : List Str := ["actual", "expected"]
theorem sc_law_counts : FnScope N_law_counts ["actual", "expected"] (defScope s_law_counts) := ⟨rfl, rfl, rfl, by decide +kernel, rfl, by decide +kernel, by decide +kernel⟩
def spSays : Sp := fun vs H Q _ => ∃ a b : Bool, vs = [.bl a, .bl b] ∧ Q (.bl (a == b)) H
def spLDig : Sp := fun vs H Q _ => ∃ z : Str, vs = [.str z] ∧ z.length ≤ 1000000 ∧ Q (.str (dgs z)) H
def spLMark : Sp := fun vs H Q _ => ∃ k t : Str, vs = [.str k, .str t] ∧ k.length ≤ 1000 ∧ t.length ≤ 100000 ∧ Q (.str (mkS k t)) H
def spLKey : Sp := fun vs H Q _ => ∃ s : Addr, vs = [.ref s] ∧ Strm H s ∧ ∀ (k : Str) (H' : Hp), kyS k = true → Kp [s] H H' → Strm H' s → Q (.str k) H'
def spLWord : Sp := fun vs H Q _ => ∃ s : Addr, vs = [.ref s] ∧ Strm H s ∧ ∀ (t : Str) (H' : Hp), prn t = true → t.length ≤ 60 → Kp [s] H H' → Strm H' s → Q (.str t) H'
def spCounts : Sp := fun vs H Q _ => ∃ a b : Int, vs = [.int a, .int b] ∧ Q (.bl (decide (a = b))) H
/-- the lowest k hexadecimal signs of n -/
def ldx : Nat → Nat → List Nat
  | 0, _ => []
  | k + 1, n => (Nat.digitChar (n / 16 ^ k % 16)).toNat :: ldx k n
theorem ldx_snoc : ∀ (k n : Nat), ldx (k + 1) n = ldx k (n / 16) ++ [(Nat.digitChar (n % 16)).toNat]
  | 0, n => by
    show [(Nat.digitChar (n / 16 ^ 0 % 16)).toNat] = _
    rw [Nat.pow_zero, Nat.div_one]; rfl
  | k + 1, n => by
    show (Nat.digitChar (n / 16 ^ (k + 1) % 16)).toNat :: ldx (k + 1) n = _
    rw [ldx_snoc k n]
    show _ = (Nat.digitChar (n / 16 / 16 ^ k % 16)).toNat :: ldx k (n / 16) ++ _
    rw [Nat.div_div_eq_div_mul, ← Nat.pow_succ']
    rfl
theorem ldx_zero : ∀ k, ldx k 0 = List.replicate k 48
  | 0 => rfl
  | k + 1 => by
    show (Nat.digitChar (0 / 16 ^ k % 16)).toNat :: ldx k 0 = _
    rw [Nat.zero_div, ldx_zero k]; rfl
theorem ldx_hx : ∀ (k n : Nat), n < 16 ^ (k + 1) → List.replicate (k + 1 - (hxT n).length) 48 ++ hxT n = ldx (k + 1) n
  | 0, n, h => by
    have h : n < 16 := h
    rw [hxT_one h, ldx_snoc, Nat.mod_eq_of_lt h]; rfl
  | k + 1, n, h => by
    rw [ldx_snoc]
    by_cases c : n < 16
    · rw [hxT_one c, Nat.div_eq_of_lt c, ldx_zero, Nat.mod_eq_of_lt c]
      rfl
    · have ih := ldx_hx k (n / 16) (by rw [Nat.pow_succ] at h; exact Nat.div_lt_of_lt_mul (by omega))
      rw [← ih, hxT_snoc c, List.length_append, List.append_assoc]
      congr 2
      show k + 1 + 1 - ((hxT (n / 16)).length + 1) = _
      omega
theorem ldx_len : ∀ (k n : Nat), (ldx k n).length = k
  | 0, _ => rfl
  | k + 1, n => by show (ldx k n).length + 1 = _; rw [ldx_len k n]
theorem hx_at : ∀ d : Nat, d < 16 → (Str.ofString "0123456789abcdef").cps.toList[d]? = some (Nat.digitChar d).toNat := by decide +kernel
theorem hx18_ldx {n : Nat} (h : n < dgD) : hx18 n = ldx 18 n := ldx_hx 17 n (Nat.lt_trans h (by decide))
section
variable {P : Program} {w : World} {K : PySem.W.Frag} {mg : Str → Option Value} {base : Heap} {f : Addr} {fd : FuncData}
theorem ok_says (F : Fun K "_law_says" "_law_says" s_law_says f fd) (B : Blt mg) : FnOk P w K mg base CX0 1 f fd ["actual", "expected"] spSays := by
  refine F.ok sc_law_says (fun vs H Q E h => ?_) (fun cdv A outer s H vs Q E hr h => ?_)
  · obtain ⟨a, b, rfl, _⟩ := h; rfl
  obtain ⟨a, b, rfl, q⟩ := h
  refine ⟨_, (pss_one (ps_ret (pe_and (B.isT (pv 0) B.v_bool) (pe_one (pe_cmpR op_eq (pv 0) (pv 1) (nomark _)))))), ?_⟩
  walk_at "wp"
  have e : decide (a = b) = (a == b) := by cases a <;> cases b <;> rfl
  rw [e]; exact q
theorem ok_counts (F : Fun K "_law_counts" "_law_counts" s_law_counts f fd) (B : Blt mg) : FnOk P w K mg base CX0 1 f fd ["actual", "expected"] spCounts := by
  refine F.ok sc_law_counts (fun vs H Q E h => ?_) (fun cdv A outer s H vs Q E hr h => ?_)
  · obtain ⟨a, b, rfl, _⟩ := h; rfl
  obtain ⟨a, b, rfl, q⟩ := h
  refine ⟨_, (pss_one (ps_ret (pe_and (B.isT (pv 0) B.v_int) (pe_and (pe_not (B.isT (pv 0) B.v_bool)) (pe_one (pe_cmpR op_eq (pv 0) (pv 1) (nomark _))))))), ?_⟩
  walk_at "wp"
  exact q
theorem ok_ldig (F : Fun K "_law_digest" "_law_digest" s_law_digest f fd) (B : Blt mg) : FnOk P w K mg base CX0 1 f fd ["text"] spLDig := by
  refine F.ok sc_law_digest (fun vs H Q E h => ?_) (fun cdv A outer s H vs Q E hr h => ?_)
  · obtain ⟨z, rfl, _⟩ := h; rfl
  obtain ⟨z, rfl, hz, q⟩ := h
  refine ⟨_, (pss_cons (ps_set (i := 1) sc_law_digest.nd rfl (Or.inl rfl) (pe_op op_add (B.len_s (pa_cons (pv 0) pa_nil)) pe_int))
    (pss_cons (ps_for PassesOwn.never rfl (pi_str (pv 0)) (pg_name (i := 2) sc_law_digest.nd rfl (Or.inl rfl)) (pss_one (ps_set (i := 1) sc_law_digest.nd rfl (Or.inl rfl) (pe_op op_add (pe_op op_mul (pv 1) pe_int) (B.ord_ (pa_cons (pv 2) pa_nil))))))
    (pss_cons (ps_set (i := 1) sc_law_digest.nd rfl (Or.inl rfl) (pe_op op_mod (B.int_i (pa_cons (pv 1) pa_nil)) (pe_op op_sub (pe_op op_mul (pe_op op_pow pe_int pe_int) pe_int) pe_int)))
    (pss_cons (ps_set (i := 3) sc_law_digest.nd rfl (Or.inl rfl) pe_str)
    (pss_cons (ps_for PassesOwn.never rfl (B.range1 (pa_cons pe_int pa_nil)) (pg_name (i := 4) sc_law_digest.nd rfl (Or.inl rfl)) (pss_cons (ps_set (i := 3) sc_law_digest.nd rfl (Or.inl rfl) (pe_op op_add_str (pe_ix ix_str pe_str (pe_op op_mod (B.int_i (pa_cons (pv 1) pa_nil)) pe_int) (fun _ _ => rfl)) (pv 3)))
    (pss_one (ps_set (i := 1) sc_law_digest.nd rfl (Or.inl rfl) (pe_op op_fdivW (pv 1) pe_int)))))
    (pss_one (ps_ret (pv 3)))))))), ?_⟩
  walk_at "wp"
  have lim : sizeLine = 16777216 := sizeLine_eq
  refine ⟨by omega, _, rfl, z, rfl, ?_⟩
  refine for_it walk_str (fun i σ H' => H' = H ∧ ∃ o : Option V, σ = [some (.str z), some (.int (((z.cps.toList.take i).foldl rawF (z.length + 1) : Nat) : Int)), o, none, none]) ⟨rfl, _, rfl⟩ (fun _ _ _ _ _ => True.intro) (fun i x σ H1 H2 hi ⟨hH, o, hσ⟩ ⟨h2, c, hc, hx⟩ => ?_) (fun σ H1 ⟨hH, o, hσ⟩ => ?_)
  · subst hσ
    subst hx
    subst h2
    subst hH
    walk_at "wp"
    refine ⟨.inr ⟨by decide, by decide⟩, by rfl, ?_⟩
    rw [take1 (cps_at hc), List.foldl_append]
    exact ⟨rfl, _, rfl⟩
  · subst hσ
    subst hH
    walk_at "wp"
    rw [take_cps, show z.length = z.cps.toList.length from (cps_len z).symm]
    have hd := dgN_lt z.cps.toList
    have e : ((rawN z.cps.toList : Nat) : Int) % (2 ^ Int.toNat 64 * 128 - 231) = ((dgN z.cps.toList : Nat) : Int) := by
      rw [← dgN_raw, show (2 ^ Int.toNat 64 * 128 - 231 : Int) = ((dgD : Nat) : Int) by decide, Int.natCast_emod]
    refine ⟨by refine ⟨?_, ?_, ?_⟩ <;> decide, .inr ⟨by decide, by decide⟩, by decide, ?_⟩
    show tFor _ _ _ _ [some (.str z), some (.int (((rawN z.cps.toList : Nat) : Int) % (2 ^ Int.toNat 64 * 128 - 231))), _, _, _] H1
    rw [e]
    have q : Q (.str ⟨(hx18 (dgN z.cps.toList)).toArray⟩) H1 := q
    rw [hx18_ldx hd] at q
    generalize dgN z.cps.toList = n at hd q ⊢
    refine ⟨18, rfl, by decide, by decide, for_range (lo := 0) (n := 18) (fun i σ H' => H' = H1 ∧ ∃ o4 : Option V, σ = [some (.str z), some (.int ((n / 16 ^ i : Nat) : Int)), o, some (.str ⟨(ldx i n).toArray⟩), o4]) ⟨rfl, _, by rw [Nat.pow_zero, Nat.div_one]; rfl⟩ (fun i σ H2 hi ⟨hH, o4, hσ⟩ => ?_) (fun σ H2 ⟨hH, o4, hσ⟩ => ?_)⟩
    · subst hσ
      subst hH
      walk_at "wp"
      refine ⟨by decide, Str.ofString "0123456789abcdef", ((n / 16 ^ i % 16 : Nat) : Int), (Nat.digitChar (n / 16 ^ i % 16)).toNat, rfl, by rw [Int.natCast_emod]; rfl, by decide +kernel, atI_nat (hx_at _ (Nat.mod_lt _ (by decide))), ⟨#[(Nat.digitChar (n / 16 ^ i % 16)).toNat]⟩, rfl, ?_, two200 (by decide) (by decide), rfl, ?_, ?_, _, rfl⟩
      · show 1 + (ldx i n).toArray.size ≤ _
        rw [List.size_toArray, ldx_len]; omega
      · rw [Nat.pow_succ, ← Nat.div_div_eq_div_mul, Int.natCast_ediv]; rfl
      · refine TL.ext_tl ?_
        rw [TL.tl_append]
        rfl
    · subst hσ
      subst hH
      walk_at "wp"
      exact q
theorem ok_lmark (F : Fun K "_law_mark" "_law_mark" s_law_mark f fd) (B : Blt mg) (c_law_digest : Cal P w K mg base CX0 1 "_law_digest" spLDig) : FnOk P w K mg base CX0 2 f fd ["key", "text"] spLMark := by
  refine F.ok sc_law_mark (fun vs H Q E h => ?_) (fun cdv A outer s H vs Q E hr h => ?_)
  · obtain ⟨k, t, rfl, _⟩ := h; rfl
  obtain ⟨k, t, rfl, hk, ht, q⟩ := h
  refine ⟨_, (pss_one (ps_ret (c_law_digest.pe hr (pa_cons (pe_op op_add_str (pe_op op_add_str (pv 0) pe_str) (pv 1)) pa_nil)))), ?_⟩
  walk_at "wp"
  have lim : sizeLine = 16777216 := sizeLine_eq
  have l1 : (Str.ofString " ").length = 1 := by decide +kernel
  have la : ∀ x y : Str, (x ++ y).length = x.length + y.length := fun x y => by rw [TL.len_tl, TL.tl_append, List.length_append, ← TL.len_tl, ← TL.len_tl]
  exact ⟨by omega, by rw [la]; omega, _, rfl, by rw [la, la]; omega, q⟩
end

/-! plain trees and their sizes -/
def okT (d : Nat) (t : Tr) (n : Nat) : Prop := pl d t = true ∧ sml t = true ∧ (txt t).length ≤ n
theorem okT_str {d m : Nat} {z : Str} (p : prn z = true) (h : z.length ≤ m) (hm : m ≤ 1000) : okT d (.str z) (m + 21) := by
  refine ⟨by cases d <;> exact p, decide_eq_true (show z.length ≤ 10000000 by omega), ?_⟩
  have := dig_len (n := z.length) (by omega)
  show (dig z.length ++ 58 :: TL.tl z).length ≤ _
  rw [List.length_append, List.length_cons, ← TL.len_tl]
  omega
theorem okT_int {d : Nat} {i : Int} (h0 : 0 ≤ i) (h1 : i ≤ 99999999999999999999) : okT d (.int i) 21 := by
  refine ⟨by cases d <;> exact (by rw [Bool.and_eq_true, decide_eq_true_eq, decide_eq_true_eq]; exact ⟨h0, h1⟩ : (decide (0 ≤ i) && decide (i ≤ 99999999999999999999)) = true), rfl, ?_⟩
  have := dig_len (n := i.toNat) (by omega)
  show (dig i.toNat ++ [46]).length ≤ _
  rw [List.length_append, List.length_singleton]
  omega
theorem okT.le {d n m : Nat} {t : Tr} (h : okT d t n) (l : n ≤ m) : okT d t m := ⟨h.1, h.2.1, Nat.le_trans h.2.2 l⟩
theorem okT_all {d n : Nat} : ∀ {ts : List Tr}, (∀ t ∈ ts, okT d t n) → pls d ts = true ∧ smls ts = true ∧ (txts ts).length ≤ ts.length * n
  | [], _ => ⟨rfl, rfl, by simp [txts]⟩
  | t :: ts, h => by
    obtain ⟨a1, a2, a3⟩ := h t List.mem_cons_self
    obtain ⟨b1, b2, b3⟩ := okT_all fun u m => h u (List.mem_cons_of_mem _ m)
    refine ⟨by show (pl d t && pls d ts) = true; rw [a1, b1]; rfl, by show (sml t && smls ts) = true; rw [a2, b2]; rfl, ?_⟩
    show (txt t ++ txts ts).length ≤ (ts.length + 1) * n
    rw [List.length_append, Nat.succ_mul]; omega
theorem okT_tup {d n m : Nat} {ts : List Tr} (h : ∀ t ∈ ts, okT d t n) (l : ts.length ≤ m) (hm : m ≤ 1000) : okT (d + 1) (.tup ts) (m * n + 2) := by
  obtain ⟨b1, b2, b3⟩ := okT_all h
  refine ⟨b1, by show (smls ts && decide (ts.length ≤ 1000000)) = true; rw [b2, decide_eq_true (by omega)]; rfl, ?_⟩
  show (91 :: (txts ts ++ [93])).length ≤ _
  rw [List.length_cons, List.length_append, List.length_singleton]
  have := Nat.mul_le_mul_right n l
  omega
/-- a pair, near a seal, or whatever -/
def Fine (H : Hp) (x : V) (d n : Nat) : Prop := ∃ t, Rep H x t ∧ okT d t n
theorem Fine.any {S : List Addr} {H H' : Hp} {x : V} {d n : Nat} (k : Kp S H H') (g : Fine H x d n) : Fine H' x d n :=
  let ⟨t, a, b⟩ := g
  ⟨t, a.any k (pl_pure _ _ b.1), b⟩
theorem Fine.le {H : Hp} {x : V} {d n m : Nat} (g : Fine H x d n) (l : n ≤ m) : Fine H x d m :=
  let ⟨t, a, b⟩ := g
  ⟨t, a, b.le l⟩
theorem fine_str {H : Hp} {z : Str} {d m : Nat} (p : prn z = true) (h : z.length ≤ m) (hm : m ≤ 1000) : Fine H (.str z) d (m + 21) := ⟨_, .str z, okT_str p h hm⟩
theorem fine_int {H : Hp} {i : Int} {d : Nat} (h0 : 0 ≤ i) (h1 : i ≤ 99999999999999999999) : Fine H (.int i) d 21 := ⟨_, .int i, okT_int h0 h1⟩
theorem atI_mem {xs : List V} {i : Int} (h0 : 0 ≤ i) (h1 : i < (xs.length : Nat)) : ∃ x, atI xs i = some x ∧ x ∈ xs := by
  obtain ⟨x, hx⟩ : ∃ x, xs[i.toNat]? = some x := ⟨_, List.getElem?_eq_getElem (by omega)⟩
  refine ⟨x, ?_, List.mem_of_getElem? hx⟩
  rw [show i = ((i.toNat : Nat) : Int) by omega]
  exact atI_nat hx
theorem fines {H : Hp} {d n : Nat} : ∀ {xs : List V}, (∀ x ∈ xs, Fine H x d n) → ∃ ts, RepAll H xs ts ∧ ∀ t ∈ ts, okT d t n
  | [], _ => ⟨[], .nil, fun t h => absurd h List.not_mem_nil⟩
  | x :: xs, h => by
    obtain ⟨t, a, b⟩ := h x List.mem_cons_self
    obtain ⟨ts, c, e⟩ := fines fun y m => h y (List.mem_cons_of_mem _ m)
    exact ⟨t :: ts, .cons a c, fun u m => by
      rcases List.mem_cons.mp m with rfl | m
      · exact b
      · exact e u m⟩
theorem fine_tup {H : Hp} {p : Addr} {xs : List V} {d n m : Nat} (e : H p = some (.tup xs)) (h : ∀ x ∈ xs, Fine H x d n) (l : xs.length ≤ m) (hm : m ≤ 1000) : Fine H (.ref p) (d + 1) (m * n + 2) := by
  obtain ⟨ts, r, a⟩ := fines h
  exact ⟨_, .tup e r, okT_tup a (by rw [← r.len]; exact l) hm⟩

/-! seal -/
abbrev s_different_keys : Stmt := top 28
abbrev N_different_keys : List Str := ["keys", "different"]
theorem sc_different_keys : FnScope N_different_keys ["keys"] (defScope s_different_keys) := ⟨rfl, rfl, rfl, by decide +kernel, rfl, by decide +kernel, by decide +kernel⟩
abbrev s_seal : Stmt := top 27
abbrev N_seal : List Str := ["office", "text", "keys", "different", "blank", "key"]
theorem sc_seal : FnScope N_seal ["office", "text", "keys"] (defScope s_seal) := ⟨rfl, rfl, rfl, by decide +kernel, rfl, by decide +kernel, by decide +kernel⟩
structure MsC (mg : Str → Option Value) : Prop where
  c_MOST_SEALS : ∃ t, mg "MOST_SEALS" = some (.int 32 t)
theorem if_no {p : Prop} [Decidable p] {A B : Prop} (h : ¬ p) (b : B) : if p then A else B := by rw [if_neg h]; exact b
theorem if_yes {p : Prop} [Decidable p] {A B : Prop} (h : p) (b : A) : if p then A else B := by rw [if_pos h]; exact b
/-- the tree of a sealed text -/
def rowT (z k : Str) : Tr := .tup [.str k, .str (mkS k z)]
def sealT (z : Str) (ys : List Str) : Tr := .tup [.str z, .tup (ys.map (rowT z))]
/-- what is made of the pairs of the keys with a text -/
def madeA (made : List (Str × Str)) (z : Str) (ys : List Str) : List (Str × Str) := ys.foldl (fun m k => addP m (k, z)) made
def blk : Str := ⟨(List.replicate 18 48).toArray⟩
def rowB (b k : Str) : Tr := .tup [.str k, .str b]
def sealB (z b : Str) (ys : List Str) : Tr := .tup [.str z, .tup (ys.map (rowB b))]
theorem kyl12 {k : Str} (h : kyS k = true) : k.length ≤ 12 := by
  unfold kyS at h
  simp only [Bool.and_eq_true, decide_eq_true_eq] at h
  exact h.1.1.2
theorem ky_prn {z : Str} (h : kyS z = true) : prn z = true := by
  unfold prn
  rw [List.all_eq_true]
  intro c hc
  unfold kyS at h
  simp only [Bool.and_eq_true, decide_eq_true_eq] at h
  obtain ⟨⟨⟨h1, h2⟩, h3⟩, h4⟩ := h
  have hl : z.cps.toList.length = z.length := cps_lenP z
  cases e : z.cps.toList with
  | nil => rw [e] at hl; simp at hl; omega
  | cons d r =>
    have hc : c ∈ d :: r := by rw [← e]; exact hc
    rw [e] at h3
    have h3 : d = 107 := Option.some.inj h3
    rcases List.mem_cons.mp hc with hc | hc
    · rw [hc, h3]; decide +kernel
    · unfold inT at h4
      rw [List.all_eq_true] at h4
      have e2 : (cutS z (some 1) none).cps.toList = r := by
        have := cut_from z 1
        rw [show TL.tl z = d :: r from e] at this
        exact this
      have := of_decide_eq_true (h4 c (by rw [e2]; exact hc))
      exact (by decide +kernel : ∀ c ∈ (Str.ofString "0123456789").cps.toList, prc c = true) c this
theorem rows_pure (b : Str) : ∀ ys : List Str, pures (ys.map (rowB b)) = true
  | [] => rfl
  | y :: ys => rows_pure b ys
theorem rowsT_pure (z : Str) : ∀ ys : List Str, pures (ys.map (rowT z)) = true
  | [] => rfl
  | y :: ys => rowsT_pure z ys
theorem mkS_len (k z : Str) : (mkS k z).length = 18 := by
  show (⟨(hx18 (dgN (k ++ Str.ofString " " ++ z).cps.toList)).toArray⟩ : Str).length = 18
  rw [S_len, hx18_ldx (dgN_lt _), ldx_len]
theorem pls_rowB {n : Nat} {b : Str} (hb : prn b = true) : ∀ {ys : List Str}, (∀ k ∈ ys, prn k = true) → pls (n + 1) (ys.map (rowB b)) = true
  | [], _ => rfl
  | y :: ys, h => by
    show ((prn y && (prn b && true)) && pls (n + 1) (ys.map (rowB b))) = true
    rw [h y List.mem_cons_self, hb, pls_rowB hb fun k m => h k (List.mem_cons_of_mem _ m)]; rfl
theorem pl_sealB {z b : Str} {ys : List Str} (hz : prn z = true) (hb : prn b = true) (hk : ∀ k ∈ ys, prn k = true) : pl 8 (sealB z b ys) = true := by
  show (prn z && (pls 6 (ys.map (rowB b)) && true)) = true
  rw [hz, pls_rowB hb hk]; rfl
theorem smls_rowB {b : Str} (hb : b.length ≤ 10000000) : ∀ {ys : List Str}, (∀ k ∈ ys, k.length ≤ 12) → smls (ys.map (rowB b)) = true
  | [], _ => rfl
  | y :: ys, h => by
    show (((decide (y.length ≤ 10000000) && (decide (b.length ≤ 10000000) && true)) && decide (2 ≤ 1000000)) && smls (ys.map (rowB b))) = true
    rw [decide_eq_true (show y.length ≤ 10000000 by have := h y List.mem_cons_self; omega), decide_eq_true hb, smls_rowB hb fun k m => h k (List.mem_cons_of_mem _ m)]; rfl
theorem sml_sealB {z b : Str} {ys : List Str} (hz : z.length ≤ 10000000) (hb : b.length ≤ 10000000) (ly : ys.length ≤ 32) (hk : ∀ k ∈ ys, k.length ≤ 12) : sml (sealB z b ys) = true := by
  show ((decide (z.length ≤ 10000000) && ((smls (ys.map (rowB b)) && decide ((ys.map (rowB b)).length ≤ 1000000)) && true)) && decide (2 ≤ 1000000)) = true
  rw [decide_eq_true hz, smls_rowB hb hk, List.length_map, decide_eq_true (show ys.length ≤ 1000000 by omega)]; rfl
theorem mkS_prn (k z : Str) : prn (mkS k z) = true := by
  unfold prn
  rw [List.all_eq_true]
  intro c hc
  have h := hx18_in _ c hc
  exact (by decide +kernel : ∀ c ∈ hxs, prc c = true) c h
theorem pls_rowT {n : Nat} {z : Str} (hz : prn z = true) : ∀ {ys : List Str}, (∀ k ∈ ys, prn k = true) → pls (n + 1) (ys.map (rowT z)) = true
  | [], _ => rfl
  | y :: ys, h => by
    show ((prn y && (prn (mkS y z) && true)) && pls (n + 1) (ys.map (rowT z))) = true
    rw [h y List.mem_cons_self, mkS_prn, pls_rowT hz fun k m => h k (List.mem_cons_of_mem _ m)]; rfl
theorem pl_sealT {z : Str} {ys : List Str} (hz : prn z = true) (hk : ∀ k ∈ ys, prn k = true) : pl 8 (sealT z ys) = true := by
  show (prn z && (pls 6 (ys.map (rowT z)) && true)) = true
  rw [hz, pls_rowT hz hk]; rfl
theorem rowsB_len (z : Str) : ∀ ys : List Str, (txts (ys.map (rowT z))).length = (txts (ys.map (rowB blk))).length
  | [] => rfl
  | y :: ys => by
    have e : ∀ m : Str, m.length = 18 → (txt (.tup [.str y, .str m])).length = (dig y.length).length + (y.length + 1) + ((dig 18).length + 19) + 2 := fun m hm => by
      show (91 :: (((dig y.length ++ 58 :: TL.tl y) ++ ((dig m.length ++ 58 :: TL.tl m) ++ [])) ++ [93])).length = _
      rw [hm]
      simp only [List.length_cons, List.length_append, List.length_nil, ← TL.len_tl, hm]
      try omega
    show (txt (.tup [.str y, .str (mkS y z)]) ++ txts (ys.map (rowT z))).length = (txt (.tup [.str y, .str blk]) ++ txts (ys.map (rowB blk))).length
    rw [List.length_append, List.length_append, rowsB_len z ys, e _ (mkS_len y z), e blk (by decide +kernel)]
theorem sealB_len (z : Str) (ys : List Str) : (txt (sealT z ys)).length = (txt (sealB z blk ys)).length := by
  have e : ∀ ts : List Tr, (txt (.tup [.str z, .tup ts])).length = (txt (.str z)).length + (txts ts).length + 4 := fun ts => by
    show (91 :: ((txt (.str z) ++ ((91 :: (txts ts ++ [93])) ++ [])) ++ [93])).length = _
    simp only [List.length_cons, List.length_append, List.length_nil]
    omega
  show (txt (.tup [.str z, .tup (ys.map (rowT z))])).length = (txt (.tup [.str z, .tup (ys.map (rowB blk))])).length
  rw [e, e, rowsB_len]
theorem madeA_len (made : List (Str × Str)) (z : Str) : ∀ ys : List Str, (madeA made z ys).length ≤ made.length + ys.length := by
  intro ys
  induction ys generalizing made with
  | nil => exact Nat.le_refl _
  | cons y ys ih =>
    have := ih (addP made (y, z))
    have := addP_len made (y, z)
    show (madeA (addP made (y, z)) z ys).length ≤ made.length + (ys.length + 1)
    omega
theorem madeA_snoc (made : List (Str × Str)) (z k : Str) (ys : List Str) : madeA made z (ys ++ [k]) = addP (madeA made z ys) (k, z) := by
  unfold madeA
  rw [List.foldl_append]; rfl
def spDiff (CK : Addr) (K : PySem.W.Frag) (Ts : List Addr) : Sp := fun vs H Q E => ∃ (a : Addr) (xs : List V), vs = [.ref a] ∧ SqL K H a xs ∧ xs.length ≤ 1000 ∧ (∀ x ∈ xs, (∃ t, tyN H x = some t) ∧ szV x) ∧ Tabs Ts H ∧
  (xs.all kyV = false → ∀ H', Kp Ts H H' → Tabs Ts H' → E (.ref CK) none H') ∧
  ∀ ks : List Str, xs = ks.map V.str → (∀ k ∈ ks, kyS k = true) → ∀ ys : List Str, asc ys = true → (∀ z, z ∈ ys ↔ z ∈ ks) → (32 < ys.length → ∀ H', Kp Ts H H' → Tabs Ts H' → E (.ref CK) none H') ∧
    (ys.length ≤ 32 → ∀ (p : Addr) (H' : Hp), Kp Ts H H' → Tabs Ts H' → H p = none → H' p = some (.lst (ys.map V.str)) → Q (.ref p) H')
section
variable {P : Program} {w : World} {K : PySem.W.Frag} {mg : Str → Option Value} {base : Heap} {f : Addr} {fd : FuncData} {C CK CT : Addr} {Ts : List Addr}
theorem kys_of : ∀ {xs : List V}, xs.all kyV = true → ∃ ks : List Str, xs = ks.map V.str ∧ ∀ k ∈ ks, kyS k = true
  | [], _ => ⟨[], rfl, fun _ m => absurd m List.not_mem_nil⟩
  | x :: xs, h => by
    rw [List.all_cons, Bool.and_eq_true] at h
    obtain ⟨ks, e, hk⟩ := kys_of h.2
    obtain ⟨k, rfl⟩ : ∃ k, x = .str k := by
      cases x with
      | str k => exact ⟨k, rfl⟩
      | _ => cases h.1
    refine ⟨k :: ks, by rw [e]; rfl, fun y m => ?_⟩
    rcases List.mem_cons.mp m with rfl | m
    · exact h.1
    · exact hk y m
theorem ok_diff {oc kV doc pm ct : Value} {od an : Option Addr} {osl : Array (Option Value)} {c Pt Pc : Addr} (B : Blt mg) (zsort : mg "sorted" = none) (zset : mg "set" = none) (TB : GxR.TabB base mg c Pt) (DO : MsC mg) (T : SlC K mg C CK CT) (mt : Pt ∈ Ts) (mc : Pc ∈ Ts)
    (lk : K.lookup f = some ⟨oc, od, .func (PySem.W.fnOf "_different_keys" "_different_keys" (defArgs s_different_keys) (defBody s_different_keys) (defScope s_different_keys) .none kV doc pm an (.ref c) ct), osl⟩) (hcd : PySem.W.codeIn K (.ref c) "_different_keys" = true)
    (c_is_key : Cal P w K mg base CX0 4 "is_key" (spNm kyV Pc)) :
    FnOk P w K mg base (L2.CX P w) 8 f (PySem.W.fnOf "_different_keys" "_different_keys" (defArgs s_different_keys) (defBody s_different_keys) (defScope s_different_keys) .none kV doc pm an (.ref c) ct) ["keys"] (spDiff CK K Ts) := by
  refine fn_of (CX := L2.CX P w) lk hcd sc_different_keys (fun vs H Q E h => ?_) (fun A outer s H vs Q E hr h => ?_)
  · obtain ⟨a, xs, rfl, _⟩ := h; rfl
  obtain ⟨a, xs, rfl, hS, hl, hx, hG, qe, q⟩ := h
  refine ⟨_, (pss_cons (ps_if (pt_not (pt_val (pe_allG (N := ["key"]) (nt := 1) (fr := []) rfl hr B TB rfl (gnOf (by decide +kernel)) (by show freeOk _ (defScope s_different_keys) = true; decide +kernel) (by show capOk _ _ _ N_different_keys _ (defScope s_different_keys) = true; decide +kernel)
      (pi_list (pv 0)) (fun _ _ _ _ _ hr => (pg_name (i := 0) (by show List.Nodup (["key"] : List Str); decide +kernel) rfl (Or.inl rfl))) (fun _ _ _ _ _ hr => pts_nil) (fun _ _ _ _ _ hr => (c_is_key.pe hr (pa_cons (pv 0) pa_nil))) (fun _ => rfl)))) (pss_one (T.BadKey.raise (takes_of rfl rfl rfl rfl))) pss_nil)
    (pss_cons (ps_set (i := 1) sc_different_keys.nd rfl (Or.inl rfl) (pe_sortSet rfl rfl zsort rfl zset (pv 0)))
    (pss_cons (ps_if (pt_cmpR op_gt (B.len_q (pa_cons (pv 1) pa_nil)) (pe_cE DO.c_MOST_SEALS) (nomark _)) (pss_one (T.BadKey.raise (takes_of rfl rfl rfl rfl))) pss_nil)
    (pss_one (ps_ret (pv 1)))))), ?_⟩
  walk_at "wp"
  refine ⟨_, rfl, a, rfl, ⟨xs, hS⟩, hG _ mt, fun H2 hT => ?_⟩
  have g2 := hG.tab hT mt
  have k2 : Kp Ts H H2 := Kp.tab (hG _ mt) hT mt
  refine for_list (K := K) (a := a) (xs := xs) (fun i σ H' => (∃ o : Option V, σ = [o]) ∧ Kp Ts H H' ∧ Tabs Ts H' ∧ (xs.take i).all kyV = true) ⟨⟨_, rfl⟩, k2, g2, rfl⟩ (fun i σ H' _ ⟨_, k, _⟩ => k.seqs hG hS) (fun i x σ H' hi ⟨⟨o, hσ⟩, k3, g3, ha⟩ => ?_) (fun σ H' ⟨⟨o, hσ⟩, k3, g3, ha⟩ => ?_)
  · subst hσ
    have mx := List.mem_of_getElem? hi
    have tk : xs.take (i + 1) = xs.take i ++ [x] := by rw [List.take_add_one, hi]; rfl
    unfold tbAll
    simp only [tYes, if_true, gName, List.set_cons_zero]
    obtain ⟨⟨ty, hty⟩, sz⟩ := hx x mx
    refine ⟨x, rfl, x, rfl, g3 _ mc, ⟨ty, k3.tys hG hty⟩, sz, fun H4 k4 g4 => ⟨_, rfl, ?_⟩⟩
    have K4 := k3.trans (k4.in1 mc)
    have G4 := g3.kp1 k4 g4
    cases hb : kyV x with
    | true => exact if_yes rfl ⟨⟨_, rfl⟩, K4, G4, by rw [tk, List.all_append, ha]; simp [hb]⟩
    | false =>
      refine if_no (by decide) ?_
      walk_at "wp"
      exact qe (List.all_eq_false.mpr ⟨x, mx, by rw [hb]; decide⟩) H4 K4 G4
  · rw [List.take_length] at ha
    obtain ⟨ks, rfl, hk⟩ := kys_of ha
    walk_at "wp"
    refine ⟨_, rfl, a, ks, rfl, k3.seqs hG hS, by rw [List.length_map] at hl; exact hl, fun ys p hy mem hp => ⟨p, rfl, _, .inl (SqL.of upd_same), ?_⟩⟩
    obtain ⟨q1, q2⟩ := q ks rfl hk ys hy mem
    have kn := Kp.new (S := []) hp (.lst (ys.map V.str))
    have KF : Kp Ts H (upd H' p (.lst (ys.map V.str))) := k3.trans kn.in0
    have GF := g3.kp0 kn
    rw [List.length_map]
    by_cases c : 32 < ys.length
    · exact if_yes (by omega) (q1 c _ KF GF)
    · refine if_no (by omega) (q2 (by omega) p _ KF GF ?_ upd_same)
      cases e : H p with
      | none => rfl
      | some o =>
        exfalso
        by_cases m : p ∈ Ts
        · exact g3.ne0 hp m
        · have := k3.keep p o m e
          rw [hp] at this; cases this
/-- seal(office, text, keys) -/
def spSeal2 (C CK CT : Addr) (K : PySem.W.Frag) (Ts : List Addr) : Sp := fun vs H Q E => ∃ (o dm a : Addr) (made : List (Str × Str)) (tv : V) (xs : List V), vs = [.ref o, tv, .ref a] ∧ Ofc C o dm made H ∧ made.length ≤ 900 ∧ SqL K H a xs ∧ xs.length ≤ 1000 ∧ (∀ x ∈ xs, (∃ t, tyN H x = some t) ∧ szV x) ∧
  (∃ t, tyN H tv = some t) ∧ (∀ z, tv = .str z → z.length ≤ 10000000) ∧ Tabs Ts H ∧ (xs.all kyV = false → ∀ H', Kp Ts H H' → Tabs Ts H' → E (.ref CK) none H') ∧
  ∀ ks ys : List Str, xs = ks.map V.str → (∀ k ∈ ks, kyS k = true) → asc ys = true → (∀ z, z ∈ ys ↔ z ∈ ks) → (32 < ys.length → ∀ H', Kp Ts H H' → Tabs Ts H' → E (.ref CK) none H') ∧
    (ys.length ≤ 32 → (prV tv = false → ∀ H', Kp Ts H H' → Tabs Ts H' → E (.ref CT) none H') ∧ ∀ z, tv = .str z → prn z = true → (100000 < (txt (sealT z ys)).length → ∀ H', Kp Ts H H' → Tabs Ts H' → E (.ref CT) none H') ∧
      ((txt (sealT z ys)).length ≤ 100000 → ∀ H', Kp (dm :: Ts) H H' → Tabs Ts H' → Ofc C o dm (madeA made z ys) H' → Q (.str ⟨(txt (sealT z ys)).toArray⟩) H'))
theorem ok_seal2 {Pp : Addr} (F : Fun K "seal" "seal" s_seal f fd) (B : Blt mg) (DG : DgC mg) (T : SlC K mg C CK CT) (mp : Pp ∈ Ts) (c_different_keys : Cal P w K mg base (L2.CX P w) 8 "_different_keys" (spDiff CK K Ts)) (c_is_printable : Cal P w K mg base CX0 3 "is_printable" (spPrn Pp))
    (c_encode : Cal P w K mg base (L2.CX P w) 23 "encode" (spEnc CT Pp)) (m_make : CalM P w K mg base (L2.CX P w) 5 C "make" (spMake C CK CT Ts)) :
    FnOk P w K mg base (L2.CX P w) 24 f fd ["office", "text", "keys"] (spSeal2 C CK CT K Ts) := by
  refine F.okX sc_seal (fun vs H Q E h => ?_) (fun cdv A outer s H vs Q E hr h => ?_)
  · obtain ⟨o, dm, a, made, tv, xs, rfl, _⟩ := h; rfl
  obtain ⟨o, dm, a, made, tv, xs, rfl, hO, lm, hS, hl, hx, ⟨tt, htt⟩, hz, hG, qe, q⟩ := h
  refine ⟨_, (pss_cons (ps_set (i := 3) sc_seal.nd rfl (Or.inl rfl) (c_different_keys.pex hr (passX (takes_of rfl rfl rfl rfl) fun _ _ _ _ h => h) (pa_cons (pv 2) pa_nil)))
    (pss_cons (ps_if (pt_not (pt_val (c_is_printable.pe hr (pa_cons (pv 1) pa_nil)))) (pss_one (T.bad.raise (takes_of rfl rfl rfl rfl))) pss_nil)
    (pss_cons (ps_set (i := 4) sc_seal.nd rfl (Or.inr rfl) (pe_op op_mulS pe_str (pe_cE DG.c_DIGEST_LENGTH)))
    (pss_cons (ps_expr (c_encode.pex hr (passX (takes_of rfl rfl rfl rfl) fun _ _ _ _ h => h) (pa_cons (pe_tup (pa_cons (pv 1) (pa_cons (B.tuple_l (pa_cons (pe_lc (own := [("key", 5)]) (g := gName 5) (tt := tYes) rfl sc_seal.nd (pi_list (pv 3)) (blkOk_by (own := [("key", 5)]) (N := N_seal) (sc := defScope s_seal) (by decide +kernel)) (fun _ _ _ _ _ => pg_name (i := 5) sc_seal.nd rfl (Or.inl rfl)) (fun _ _ _ _ _ => pts_nil) (fun _ _ _ _ _ => (pe_tup (pa_cons (pv 5) (pa_cons (pv 4) pa_nil))))) pa_nil)) pa_nil))) pa_nil)))
    (pss_one (ps_ret (c_encode.pex hr (passX (takes_of rfl rfl rfl rfl) fun _ _ _ _ h => h) (pa_cons (pe_tup (pa_cons (pv 1) (pa_cons (B.tuple_l (pa_cons (pe_lc (own := [("key", 5)]) (g := gName 5) (tt := tYes) rfl sc_seal.nd (pi_list (pv 3)) (blkOk_by (own := [("key", 5)]) (N := N_seal) (sc := defScope s_seal) (by decide +kernel)) (fun _ _ _ _ _ => pg_name (i := 5) sc_seal.nd rfl (Or.inl rfl)) (fun _ _ _ _ _ => pts_nil) (fun _ _ _ _ _ => (pe_tup (pa_cons (pv 5) (pa_cons (m_make.peL hr (pv 0) (pa_cons (pv 5) (pa_cons (pv 1) pa_nil))) pa_nil))))) pa_nil)) pa_nil))) pa_nil)))))))), ?_⟩
  walk_at "wp"
  refine ⟨a, xs, rfl, hS, hl, hx, hG, qe, fun ks e hk ys ha mem => ⟨fun h32 => (q ks ys e hk ha mem).1 h32, fun h32 p H1 k1 g1 hp e1 => ?_⟩⟩
  obtain ⟨q1, q2⟩ := (q ks ys e hk ha mem).2 h32
  refine ⟨tv, rfl, g1 _ mp, ⟨tt, k1.tys hG htt⟩, fun H2 k2 g2 => ⟨_, rfl, ?_⟩⟩
  have K2 : Kp Ts H H2 := k1.trans (k2.in1 mp)
  have G2 := g1.kp1 k2 g2
  cases hp2 : prV tv with
  | false => exact if_yes rfl (q1 hp2 H2 K2 G2)
  | true =>
  refine if_no (by decide) ?_
  obtain ⟨z, rfl, hpz⟩ : ∃ z, tv = .str z ∧ prn z = true := by
    cases tv with
    | str z => exact ⟨z, rfl, hp2⟩
    | _ => cases hp2
  obtain ⟨q3, q4⟩ := q2 z rfl hpz
  have lim : sizeLine = 16777216 := sizeLine_eq
  have e2 : H2 p = some (.lst (ys.map V.str)) := (k2.in1 mp).get g1 e1
  have kky : ∀ k ∈ ys, kyS k = true := fun k m => hk k ((mem k).mp m)
  have zl : z.length ≤ 10000000 := hz z rfl
  have O2 := hO.tabs K2 hG
  refine ⟨48, rfl, by decide, by decide, ?_⟩
  have eb : (⟨(List.replicate (Int.toNat 18) 48).toArray⟩ : Str) = blk := rfl
  rw [eb]
  refine ⟨_, rfl, p, rfl, ⟨_, SqL.of e2⟩, fun D hD => ?_⟩
  have nDp : p ≠ D := ne_of_none e2 hD
  refine lc_list (K := K) (a := p) (xs := ys.map V.str) (fun i H' => Kp [] H2 H' ∧ ∃ vs, H' D = some (.lst vs) ∧ RepAll H' vs ((ys.take i).map (rowB blk))) ⟨Kp.new hD _, [], upd_same, .nil⟩ (fun i H' _ ⟨k, _⟩ => SqL.of (k.keep _ _ List.not_mem_nil e2)) (fun i x H' hi ⟨k3, vs, eD, rD⟩ => ?_) (fun H' ⟨k3, vs, eD, rD⟩ => ?_)
  · rw [List.getElem?_map] at hi
    obtain ⟨k, hi2, rfl⟩ := Option.map_eq_some_iff.mp hi
    have tk : ys.take (i + 1) = ys.take i ++ [k] := by rw [List.take_add_one, hi2]; rfl
    have li := (List.getElem?_eq_some_iff.mp hi2).1
    have lv := rD.len
    rw [List.length_map, List.length_take] at lv
    refine ⟨rfl, ?_⟩
    simp only [tYes, if_true]
    walk_at "wp"
    refine ⟨_, rfl, _, rfl, by omega, fun r hr2 => ?_⟩
    have kr := Kp.new (S := []) hr2 (.tup [V.str k, V.str blk])
    have nrD : D ≠ r := ne_of_none eD hr2
    refine ⟨vs, by rw [upd_ne nrD]; exact eD, by omega, ?_, ?_⟩
    · exact (k3.trans kr).upd hD (by rw [upd_ne nrD]; exact eD)
    · have kl : Kp [D] (upd H' r (.tup [V.str k, V.str blk])) (upd (upd H' r (.tup [V.str k, V.str blk])) D (.lst (vs ++ [V.ref r]))) := Kp.lst (by rw [upd_ne nrD]; exact eD) (List.mem_singleton.mpr rfl)
      rw [tk, List.map_append]
      exact ((rD.kp0 kr).any kl (rows_pure _ _)).app (.cons (.tup (kl.tup _ _ upd_same) (.cons (.str _) (.cons (.str _) .nil))) .nil)
  rw [List.length_map, List.take_length] at rD
  refine ⟨D, rfl, vs, .inl ⟨SqL.of eD, fun l hl2 => ⟨by omega, fun p2 h2 => ?_⟩⟩⟩
  have kl := Kp.new (S := []) hl2 (.tup vs)
  have kp2 := Kp.new (S := []) h2 (.tup [V.str z, V.ref l])
  have K4 : Kp [] H2 (upd (upd H' l (.tup vs)) p2 (.tup [V.str z, V.ref l])) := (k3.trans kl).trans kp2
  have R4 : Rep (upd (upd H' l (.tup vs)) p2 (.tup [V.str z, V.ref l])) (.ref p2) (sealB z blk ys) := .tup upd_same (.cons (.str _) (.cons (.tup (kp2.tup _ _ upd_same) ((rD.kp0 kl).kp0 kp2)) .nil))
  have hpl : pl 8 (sealB z blk ys) = true := pl_sealB hpz (by decide +kernel) fun k m => ky_prn (kky k m)
  have hsm : sml (sealB z blk ys) = true := sml_sealB zl (by decide +kernel) (by omega) fun k m => kyl12 (kky k m)
  have lenE : (txt (sealT z ys)).length = (txt (sealB z blk ys)).length := sealB_len z ys
  generalize upd (upd H' l (.tup vs)) p2 (.tup [V.str z, V.ref l]) = H4 at K4 R4 ⊢
  have G4 := G2.kp0 K4
  refine ⟨.ref p2, sealB z blk ys, rfl, R4, hsm, G4 _ mp, fun _ lo H5 k5 g5 => ?_, fun no H5 k5 g5 => q3 (by
    have : ¬ (txt (sealB z blk ys)).length ≤ 100000 := fun z => no ⟨hpl, z⟩
    omega) H5 ((K2.trans K4.in0).trans (k5.in1 mp)) (G4.kp1 k5 g5)⟩
  have K5 : Kp Ts H2 H5 := (K4.in0 : Kp Ts H2 H4).trans (k5.in1 mp)
  have G5 := G4.kp1 k5 g5
  have O5 := (O2.tabs K5 G2)
  have e5 := K5.get G2 e2
  have tl0 : (txt (sealT z ys)).length ≤ 100000 := by omega
  clear R4 eD rD kl kp2 k3 nDp hD
  refine ⟨_, rfl, p, rfl, ⟨_, SqL.of e5⟩, fun D hD => ?_⟩
  have nDd : D ≠ dm := (ne_of_none O5.dc hD).symm
  have nDo : D ≠ o := let ⟨dx, ho⟩ := O5.ob; (ne_of_none ho hD).symm
  have nDT : D ∉ Ts := G5.ne0 hD
  have npd : p ≠ dm := ne_of e5 O5.dc (by intro z; cases z)
  refine lc_list (K := K) (a := p) (xs := ys.map V.str) (fun i H' => Kp (dm :: Ts) H5 H' ∧ Tabs Ts H' ∧ Ofc C o dm (madeA made z (ys.take i)) H' ∧ ∃ vs, H' D = some (.lst vs) ∧ RepAll H' vs ((ys.take i).map (rowT z)))
    ⟨Kp.new hD _, G5.new hD _, O5.kp (Kp.new hD _ : Kp [] _ _) List.not_mem_nil List.not_mem_nil, [], upd_same, .nil⟩ (fun i H' _ ⟨k, g, _⟩ => SqL.of (k.keep _ _ (fun m => (List.mem_cons.mp m).elim npd (G5.ne e5)) e5)) (fun i x H' hi ⟨k6, g6, O6, vs, eD, rD⟩ => ?_) (fun H' ⟨k6, g6, O6, vs, eD, rD⟩ => ?_)
  · rw [List.getElem?_map] at hi
    obtain ⟨k, hi2, rfl⟩ := Option.map_eq_some_iff.mp hi
    have tk : ys.take (i + 1) = ys.take i ++ [k] := by rw [List.take_add_one, hi2]; rfl
    have li := (List.getElem?_eq_some_iff.mp hi2).1
    have mk := List.mem_of_getElem? hi2
    have lv := rD.len
    rw [List.length_map, List.length_take] at lv
    have lmi := madeA_len made z (ys.take i)
    rw [List.length_take] at lmi
    refine ⟨rfl, ?_⟩
    simp only [tYes, if_true]
    walk_at "wp"
    obtain ⟨dx, ho⟩ := O6.ob
    refine ⟨_, rfl, _, rfl, o, rfl, dx, _, ho, rfl, _, rfl, _, rfl, o, dm, madeA made z (ys.take i), .str k, .str z, rfl, O6, by omega, g6, ⟨_, rfl⟩, ⟨_, rfl⟩, ?_, fun y e => by rw [← V.str.inj e]; exact zl, fun e => ?_, fun _ e => ?_, fun k' t' ek et _ _ H7 k7 g7 O7 => ⟨by omega, fun r hr2 => ?_⟩⟩
    · have := kyl12 (kky k mk)
      show k.length ≤ sizeLine
      omega
    · have : kyS k = false := e
      rw [kky k mk] at this; cases this
    · have : prn z = false := e
      rw [hpz] at this; cases this
    cases ek
    cases et
    have kr := Kp.new (S := []) hr2 (.tup [V.str k, V.str (mkS k z)])
    have nDS : D ∉ dm :: Ts := fun m => (List.mem_cons.mp m).elim nDd nDT
    have e7 := k7.keep D _ nDS eD
    have nrD : D ≠ r := ne_of_none e7 hr2
    have e8 : upd H7 r (.tup [V.str k, V.str (mkS k z)]) D = some (.lst vs) := by rw [upd_ne nrD]; exact e7
    have kl : Kp [D] (upd H7 r (.tup [V.str k, V.str (mkS k z)])) (upd (upd H7 r (.tup [V.str k, V.str (mkS k z)])) D (.lst (vs ++ [V.ref r]))) := Kp.lst e8 (List.mem_singleton.mpr rfl)
    refine ⟨vs, e8, by omega, ?_, ?_, ?_, ?_⟩
    · exact ((k6.trans k7).trans kr.in0).upd hD e8
    · exact (g7.kp0 kr).kp kl fun P m z => nDT (by rw [← List.mem_singleton.mp z]; exact m)
    · rw [tk, madeA_snoc]
      exact (O7.kp kr List.not_mem_nil List.not_mem_nil).kp kl (by simpa using nDo.symm) (by simpa using nDd.symm)
    · rw [tk, List.map_append]
      exact (((rD.any k7 (rowsT_pure _ _)).kp0 kr).any kl (rowsT_pure _ _)).app (.cons (.tup (kl.tup _ _ upd_same) (.cons (.str _) (.cons (.str _) .nil))) .nil)
  rw [List.length_map, List.take_length] at rD O6
  refine ⟨D, rfl, vs, .inl ⟨SqL.of eD, fun l hl2 => ⟨by omega, fun p2 h2 => ?_⟩⟩⟩
  have kl := Kp.new (S := []) hl2 (.tup vs)
  have kp2 := Kp.new (S := []) h2 (.tup [V.str z, V.ref l])
  have R9 : Rep (upd (upd H' l (.tup vs)) p2 (.tup [V.str z, V.ref l])) (.ref p2) (sealT z ys) := .tup upd_same (.cons (.str _) (.cons (.tup (kp2.tup _ _ upd_same) ((rD.kp0 kl).kp0 kp2)) .nil))
  have G9 := (g6.kp0 kl).kp0 kp2
  have O9 := (O6.kp kl List.not_mem_nil List.not_mem_nil).kp kp2 List.not_mem_nil List.not_mem_nil
  have K9 : Kp (dm :: Ts) H (upd (upd H' l (.tup vs)) p2 (.tup [V.str z, V.ref l])) := (((K2.trans K5).mono fun b hb => List.mem_cons_of_mem _ hb).trans k6).trans (kl.trans kp2).in0
  have hplT : pl 8 (sealT z ys) = true := pl_sealT hpz fun k m => ky_prn (kky k m)
  have hsmT : sml (sealT z ys) = true := sml_of 8 _ hplT (by omega)
  exact ⟨.ref p2, sealT z ys, rfl, R9, hsmT, G9 _ mp, fun _ lo H5 k5 g5 => q4 tl0 H5 (K9.trans ((k5.in1 mp).mono fun b hb => List.mem_cons_of_mem _ hb)) (G9.kp1 k5 g5) (O9.tabs (k5.in1 mp) G9), fun no => absurd ⟨hplT, tl0⟩ no⟩
end

/-! the state of a law with an office, and keys that it draws -/
structure SO (Ts : List Addr) (C : Addr) (H0 : Hp) (st o d : Addr) (mo : List (Str × Str)) (H : Hp) : Prop where
  L : LT Ts st H0 H
  O : Ofc C o d mo H
  f1 : H0 d = none
section
variable {Ts S : List Addr} {C : Addr} {H0 H H' : Hp} {st o d : Addr} {mo mo' : List (Str × Str)}
theorem SO.kp0 (h : SO Ts C H0 st o d mo H) (k : Kp [] H H') : SO Ts C H0 st o d mo H' := ⟨h.L.kp0 k, h.O.kp k List.not_mem_nil List.not_mem_nil, h.f1⟩
theorem SO.take (h : SO Ts C H0 st o d mo H) (k : Kp [st] H H') (s : Strm H' st) : SO Ts C H0 st o d mo H' := by
  obtain ⟨x, y, e⟩ := h.L.s
  obtain ⟨dx, e1⟩ := h.O.ob
  have one : ∀ {b : Addr}, b ≠ st → b ∉ [st] := fun h m => h (List.mem_singleton.mp m)
  exact ⟨h.L.take k s, h.O.kp k (one (ne_of e1 e (by intro z; cases z))) (one (ne_of h.O.dc e (by intro z; cases z))), h.f1⟩
theorem SO.tabs (h : SO Ts C H0 st o d mo H) (k : Kp Ts H H') (g : Tabs Ts H') : SO Ts C H0 st o d mo H' :=
  ⟨h.L.tabs k g, h.O.tabs k h.L.g, h.f1⟩
theorem SO.nd (h : SO Ts C H0 st o d mo H) {b : Addr} {u : HO} (e : H b = some u) (no : ∀ m, u ≠ .dT m := by intro m z; cases z) : b ≠ d := fun z => by
  rw [z, h.O.dc] at e
  exact no _ (Option.some.inj e).symm
/-- what is tracked stands through a seal -/
theorem SO.keep (h : SO Ts C H0 st o d mo H) (k : Kp (d :: Ts) H H') {b : Addr} {u : HO} (e : H b = some u) (no : ∀ m, u ≠ .dT m := by intro m z; cases z) (no2 : ∀ ps, u ≠ .tbl ps := by intro ps z; cases z) : H' b = some u :=
  k.keep _ _ (fun m => (List.mem_cons.mp m).elim (h.nd e no) (h.L.g.ne e no2)) e
theorem SO.made (h : SO Ts C H0 st o d mo H) (k : Kp (d :: Ts) H H') (g : Tabs Ts H') (O : Ofc C o d mo' H') : SO Ts C H0 st o d mo' H' := by
  have s' : Strm H' st := let ⟨x, y, e⟩ := h.L.s; ⟨x, y, h.keep k e⟩
  exact ⟨h.L.go k (fun b hb => by
    rcases List.mem_cons.mp hb with z | z
    · exact .inr (by rw [z]; exact h.f1)
    · exact .inl z) g s', O, h.f1⟩
end
def kS (step x : Int) : Str := Str.ofString "k" ++ Str.ofString (toString (step * x))
theorem ky_num {n : Int} (h0 : 0 ≤ n) (h1 : n < 100000000000) : kyS (Str.ofString "k" ++ Str.ofString (toString n)) = true ∧ (Str.ofString (toString n)).length ≤ 11 ∧ n.natAbs.log2 < 1920 := by
  obtain ⟨m, rfl⟩ : ∃ m : Nat, n = (m : Nat) := ⟨n.toNat, by omega⟩
  have hm : m < 10 ^ 11 := by have : (10 : Nat) ^ 11 = 100000000000 := by decide
                              omega
  have dl : (dig m).length ≤ 11 := TL.numL_len (by decide) hm
  obtain ⟨a, r, e, _⟩ := dig_first m
  have e1 : TL.tl (Str.ofString (toString ((m : Nat) : Int))) = dig m := TL.tl_num m
  have e2 : TL.tl (Str.ofString "k" ++ Str.ofString (toString ((m : Nat) : Int))) = 107 :: dig m := by rw [TL.tl_append, e1]; rfl
  have l1 := TL.len_tl (Str.ofString (toString ((m : Nat) : Int)))
  have l2 := TL.len_tl (Str.ofString "k" ++ Str.ofString (toString ((m : Nat) : Int)))
  rw [e1] at l1
  rw [e2, List.length_cons] at l2
  have d1 : 1 ≤ (dig m).length := by rw [e]; simp
  refine ⟨?_, by omega, (intT h0 (by omega)).1⟩
  unfold kyS
  rw [decide_eq_true (by omega), decide_eq_true (by omega), Bool.true_and, Bool.true_and, Bool.and_eq_true]
  refine ⟨decide_eq_true ?_, ?_⟩
  · rw [show (Str.ofString "k" ++ Str.ofString (toString ((m : Nat) : Int))).cps.toList = 107 :: dig m from e2]; rfl
  · unfold inT
    have e3 : TL.tl (cutS (Str.ofString "k" ++ Str.ofString (toString ((m : Nat) : Int))) (some 1) none) = dig m := by
      have := cut_from (Str.ofString "k" ++ Str.ofString (toString ((m : Nat) : Int))) 1
      rw [e2] at this
      exact this
    rw [show (cutS (Str.ofString "k" ++ Str.ofString (toString ((m : Nat) : Int))) (some 1) none).cps.toList = dig m from e3]
    refine List.all_eq_true.mpr fun c hc => ?_
    have := dig_isD m c hc
    unfold isD at this
    rw [Bool.and_eq_true, decide_eq_true_eq, decide_eq_true_eq] at this
    exact (by decide +kernel : ∀ c < 58, 48 ≤ c → decide (c ∈ (Str.ofString "0123456789").cps.toList) = true) c (by omega) this.1
/-- 'k' + str(step * n) for n below 32 -/
structure StepOk (step : Int) : Prop where
  b : ∀ x : Int, 0 ≤ x → x < 32 → 0 ≤ step * x ∧ step * x < 100000000000
  m : ∀ x : Int, 0 ≤ x → x < 32 → CMul step x
theorem step_ok {step : Int} (hs : step = 1 ∨ step = 7 ∨ step = 3000000001) : StepOk step := by
  have num : ∀ x : Int, 0 ≤ x → x < 32 → 0 ≤ step * x ∧ step * x < 100000000000 := fun x x0 x1 => by
    rcases hs with rfl | rfl | rfl <;> omega
  refine ⟨num, fun x x0 x1 => ?_⟩
  have e : (2 : Int) ^ 64 = 18446744073709551616 := by decide
  have := num x x0 x1
  exact .inr ⟨by omega, by omega⟩
def KeyOf (step : Int) (k : Str) : Prop := ∃ x : Int, 0 ≤ x ∧ x < 32 ∧ k = kS step x
theorem KeyOf.ky {step : Int} (h : StepOk step) {k : Str} (hk : KeyOf step k) : kyS k = true := by
  obtain ⟨x, x0, x1, rfl⟩ := hk
  obtain ⟨a, b⟩ := h.b x x0 x1
  exact (ky_num a b).1
theorem nodup_le : ∀ {l m : List Str}, l.Nodup → (∀ x ∈ l, x ∈ m) → l.length ≤ m.length
  | [], _, _, _ => Nat.zero_le _
  | x :: l, m, h, s => by
    have hx := s x List.mem_cons_self
    rw [List.nodup_cons] at h
    have := nodup_le (m := m.erase x) h.2 fun y hy => (List.mem_erase_of_ne (fun e => h.1 (by rw [← e]; exact hy))).mpr (s y (List.mem_cons_of_mem _ hy))
    rw [List.length_erase_of_mem hx] at this
    have := List.length_pos_of_mem hx
    simp only [List.length_cons]
    omega
/-- at most 32 different keys -/
theorem keys_32 {step : Int} {ys : List Str} (ha : asc ys = true) (h : ∀ k ∈ ys, KeyOf step k) : ys.length ≤ 32 := by
  have := nodup_le (m := (List.range 32).map fun n => kS step (n : Nat)) (asc_nodup ha) fun k m => by
    obtain ⟨x, x0, x1, rfl⟩ := h k m
    exact List.mem_map.mpr ⟨x.toNat, List.mem_range.mpr (by omega), by rw [show ((x.toNat : Nat) : Int) = x by omega]⟩
  rw [List.length_map, List.length_range] at this
  exact this
theorem addP_mem (mo : List (Str × Str)) (p q : Str × Str) : q ∈ addP mo p ↔ q ∈ mo ∨ q = p := by
  unfold addP
  split
  · rename_i c
    exact ⟨.inl, fun h => h.elim id fun e => e ▸ c⟩
  · rw [List.mem_append, List.mem_singleton]
theorem madeA_mem {made : List (Str × Str)} {z : Str} : ∀ {ys : List Str} {p : Str × Str}, p ∈ madeA made z ys ↔ p ∈ made ∨ (p.2 = z ∧ p.1 ∈ ys) := by
  intro ys
  induction ys generalizing made with
  | nil => intro p; exact ⟨.inl, fun h => h.elim id fun q => absurd q.2 List.not_mem_nil⟩
  | cons y ys ih =>
    intro p
    show p ∈ madeA (addP made (y, z)) z ys ↔ _
    rw [ih, addP_mem]
    constructor
    · rintro ((h | rfl) | ⟨h1, h2⟩)
      · exact .inl h
      · exact .inr ⟨rfl, List.mem_cons_self⟩
      · exact .inr ⟨h1, List.mem_cons_of_mem _ h2⟩
    · rintro (h | ⟨h1, h2⟩)
      · exact .inl (.inl h)
      · rcases List.mem_cons.mp h2 with h2 | h2
        · exact .inl (.inr (by rw [← h1, ← h2]))
        · exact .inr ⟨h1, h2⟩
theorem madeA_same {made : List (Str × Str)} {z : Str} : ∀ {ys : List Str}, (∀ k ∈ ys, (k, z) ∈ made) → madeA made z ys = made := by
  intro ys
  induction ys with
  | nil => intro _; rfl
  | cons y ys ih =>
    intro h
    show madeA (addP made (y, z)) z ys = made
    have : addP made (y, z) = made := by unfold addP; rw [if_pos (h y List.mem_cons_self)]
    rw [this]
    exact ih fun k m => h k (List.mem_cons_of_mem _ m)
theorem madeA_new {z : Str} : ∀ {ys : List Str} {made : List (Str × Str)}, ys.Nodup → (∀ k ∈ ys, (k, z) ∉ made) → (madeA made z ys).length = made.length + ys.length := by
  intro ys
  induction ys with
  | nil => intro made _ _; rfl
  | cons y ys ih =>
    intro made hn h
    rw [List.nodup_cons] at hn
    have e : addP made (y, z) = made ++ [(y, z)] := by unfold addP; rw [if_neg (h y List.mem_cons_self)]
    show (madeA (addP made (y, z)) z ys).length = _
    rw [e, ih hn.2 fun k m => by
      intro hm
      rcases List.mem_append.mp hm with hm | hm
      · exact h k (List.mem_cons_of_mem _ m) hm
      · exact hn.1 (by rw [← (Prod.mk.inj (List.mem_singleton.mp hm)).1]; exact m)]
    simp only [List.length_append, List.length_cons, List.length_nil]
    omega

/-! the text of a seal is small, and opened reads it back -/
theorem sealT_ok {z : Str} {ys : List Str} (pz : prn z = true) (lz : z.length ≤ 1000) (ly : ys.length ≤ 32) (hk : ∀ k ∈ ys, kyS k = true) : okT 8 (sealT z ys) 6000 := by
  have a1 : ∀ t ∈ ys.map (rowT z), okT 6 t 80 := fun t ht => by
    obtain ⟨k, hm, rfl⟩ := List.mem_map.mp ht
    have q1 : okT 5 (.str k) 39 := okT_str (m := 18) (ky_prn (hk k hm)) (by have := kyl12 (hk k hm); omega) (by omega)
    have q2 : okT 5 (.str (mkS k z)) 39 := okT_str (m := 18) (mkS_prn k z) (by rw [mkS_len]; omega) (by omega)
    exact okT_tup (d := 5) (n := 39) (m := 2) (ts := [.str k, .str (mkS k z)]) (fun t ht => by
      rcases List.mem_cons.mp ht with rfl | ht
      · exact q1
      · rw [List.mem_singleton.mp ht]; exact q2) (by simp) (by omega)
  have a2 : okT 7 (.tup (ys.map (rowT z))) 2562 := okT_tup (m := 32) a1 (by rw [List.length_map]; exact ly) (by omega)
  have a3 : okT 7 (.str z) 2562 := (okT_str (m := 1000) pz lz (by omega)).le (by omega)
  exact (okT_tup (d := 7) (n := 2562) (m := 2) (ts := [.str z, .tup (ys.map (rowT z))]) (fun t ht => by
    rcases List.mem_cons.mp ht with rfl | ht
    · exact a3
    · rw [List.mem_singleton.mp ht]; exact a2) (by simp) (by omega)).le (by omega)
theorem sealT_co {z : Str} {ys : List Str} (ly : ys.length ≤ 32) (hk : ∀ k ∈ ys, kyS k = true) (ha : asc ys = true) : isCo (sealT z ys) = true := by
  show (decide ((ys.map (rowT z)).length ≤ 32) && (ys.map (rowT z)).all isSl && asc ((ys.map (rowT z)).map keyT)) = true
  rw [decide_eq_true (by rw [List.length_map]; omega), Bool.true_and, Bool.and_eq_true]
  refine ⟨List.all_eq_true.mpr fun t ht => ?_, ?_⟩
  · obtain ⟨k, hm, rfl⟩ := List.mem_map.mp ht
    show (kyS k && decide ((mkS k z).length ≤ 40)) = true
    rw [hk k hm, mkS_len]; rfl
  · rw [List.map_map]
    have : ys.map (keyT ∘ rowT z) = ys := by
      rw [show (keyT ∘ rowT z) = id from rfl, List.map_id]
    rw [this]; exact ha
theorem opn_txtT {t : Tr} {n : Nat} (h : okT 8 t n) (hn : n ≤ 100000) (c : isCo t = true) : opn ⟨(txt t).toArray⟩ t := by
  refine ⟨?_, txt_prn h.1, ?_, c⟩
  · rw [TL.len_tl]; exact Nat.le_trans h.2.2 hn
  · have := pval_txt 8 t [] h.1 h.2.1
    rw [List.append_nil] at this
    exact this
theorem opn_one {t u : Tr} {n : Nat} (h : okT 8 t n) (o : opn ⟨(txt t).toArray⟩ u) : u = t := by
  have := pval_txt 8 t [] h.1 h.2.1
  rw [List.append_nil] at this
  have e := o.2.2.1
  rw [show TL.tl (⟨(txt t).toArray⟩ : Str) = txt t from rfl, this] at e
  exact (Prod.mk.inj (Option.some.inj e)).1.symm
section
variable {K : PySem.W.Frag} {C CK CT o dm l : Addr} {Ts : List Addr} {made : List (Str × Str)} {H : Hp} {Q : VK} {E : XK} {z : Str} {ls ys : List Str} {tv : V} {xs : List V}
/-- a call of seal that signs, or whose text is too long -/
theorem seal_at (O : Ofc C o dm made H) (lm : made.length ≤ 900) (e1 : H l = some (.lst (ls.map V.str))) (ll : ls.length ≤ 1000) (lk : ∀ k ∈ ls, kyS k = true) (pz : prn z = true) (lz : z.length ≤ 10000000) (G : Tabs Ts H)
    (h : ∀ ys, asc ys = true → (∀ x, x ∈ ys ↔ x ∈ ls) → ys.length ≤ 32 ∧ (100000 < (txt (sealT z ys)).length → ∀ H', Kp Ts H H' → Tabs Ts H' → E (.ref CT) none H') ∧ ((txt (sealT z ys)).length ≤ 100000 → ∀ H', Kp (dm :: Ts) H H' → Tabs Ts H' → Ofc C o dm (madeA made z ys) H' → Q (.str ⟨(txt (sealT z ys)).toArray⟩) H')) :
    spSeal2 C CK CT K Ts [.ref o, .str z, .ref l] H Q E := by
  have lim : sizeLine = 16777216 := sizeLine_eq
  refine ⟨o, dm, l, made, .str z, _, rfl, O, lm, SqL.of e1, by rw [List.length_map]; omega, fun x mx => ?_, ⟨_, rfl⟩, fun y e => (by rw [← V.str.inj e]; omega), G, fun hb => ?_, fun ks2 ys2 ek hk2 ha2 m2 => ?_⟩
  · obtain ⟨k, mk, rfl⟩ := List.mem_map.mp mx
    have := kyl12 (lk k mk)
    exact ⟨⟨_, rfl⟩, by show k.length ≤ sizeLine; omega⟩
  · obtain ⟨x, mx, hx⟩ := List.all_eq_false.mp hb
    obtain ⟨k, mk, rfl⟩ := List.mem_map.mp mx
    exact absurd (show kyV (.str k) = true from lk k mk) hx
  · have ek2 : ks2 = ls := (List.map_inj_right (fun _ _ h => V.str.inj h)).mp ek.symm
    subst ek2
    obtain ⟨l32, big, q⟩ := h ys2 ha2 m2
    refine ⟨fun h => absurd l32 (by omega), fun _ => ⟨fun h => ?_, fun z2 ez _ => ?_⟩⟩
    · rw [show prV (.str z) = true from pz] at h; cases h
    · cases V.str.inj ez
      exact ⟨big, q⟩
/-- a call of seal with a value that is no key, or with too many keys -/
theorem seal_badK (O : Ofc C o dm made H) (lm : made.length ≤ 900) (e1 : SqL K H l xs) (ll : xs.length ≤ 1000) (hx : ∀ x ∈ xs, (∃ t, tyN H x = some t) ∧ szV x) (ht : ∃ t, tyN H tv = some t) (lz : ∀ z, tv = .str z → z.length ≤ 10000000) (G : Tabs Ts H)
    (bad : xs.all kyV = false ∨ ∀ ks ys : List Str, xs = ks.map V.str → asc ys = true → (∀ z, z ∈ ys ↔ z ∈ ks) → 32 < ys.length) (qE : ∀ H', Kp Ts H H' → Tabs Ts H' → E (.ref CK) none H') : spSeal2 C CK CT K Ts [.ref o, tv, .ref l] H Q E := by
  refine ⟨o, dm, l, made, tv, _, rfl, O, lm, e1, ll, hx, ht, lz, G, fun _ => qE, fun ks ys e hk ha m => ⟨fun _ => qE, fun h32 => ?_⟩⟩
  exfalso
  rcases bad with b | b
  · obtain ⟨x, mx, hx⟩ := List.all_eq_false.mp b
    rw [e] at mx
    obtain ⟨k, mk, rfl⟩ := List.mem_map.mp mx
    exact absurd (show kyV (.str k) = true from hk k mk) hx
  · have := b ks ys e ha m
    omega
/-- a call of seal with keys, and a text that is none -/
theorem seal_badT (O : Ofc C o dm made H) (lm : made.length ≤ 900) (e1 : H l = some (.lst (ls.map V.str))) (ll : ls.length ≤ 1000) (lk : ∀ k ∈ ls, kyS k = true) (l32 : ∀ ys, asc ys = true → (∀ z, z ∈ ys ↔ z ∈ ls) → ys.length ≤ 32) (ht : ∃ t, tyN H tv = some t) (lz : ∀ z, tv = .str z → z.length ≤ 10000000) (bad : prV tv = false) (G : Tabs Ts H)
    (qE : ∀ H', Kp Ts H H' → Tabs Ts H' → E (.ref CT) none H') : spSeal2 C CK CT K Ts [.ref o, tv, .ref l] H Q E := by
  have lim : sizeLine = 16777216 := sizeLine_eq
  refine ⟨o, dm, l, made, tv, _, rfl, O, lm, SqL.of e1, by rw [List.length_map]; omega, fun x mx => ?_, ht, lz, G, fun hb => ?_, fun ks2 ys2 ek hk2 ha2 m2 => ?_⟩
  · obtain ⟨k, mk, rfl⟩ := List.mem_map.mp mx
    have := kyl12 (lk k mk)
    exact ⟨⟨_, rfl⟩, by show k.length ≤ sizeLine; omega⟩
  · obtain ⟨x, mx, hx⟩ := List.all_eq_false.mp hb
    obtain ⟨k, mk, rfl⟩ := List.mem_map.mp mx
    exact absurd (show kyV (.str k) = true from lk k mk) hx
  · have ek2 : ks2 = ls := (List.map_inj_right (fun _ _ h => V.str.inj h)).mp ek.symm
    subst ek2
    refine ⟨fun h => absurd (l32 ys2 ha2 m2) (by omega), fun _ => ⟨fun _ => qE, fun z2 ez hp => ?_⟩⟩
    subst ez
    rw [show prV (.str z2) = true from hp] at bad
    cases bad
end
theorem rows_len (z : Str) : ∀ ys : List Str, (∀ y ∈ ys, y.length = 4) → (txts (ys.map (rowT z))).length = 29 * ys.length
  | [], _ => rfl
  | y :: ys, h => by
    have hy := h y List.mem_cons_self
    have hm := mkS_len y z
    have e4 : (dig 4).length = 1 := by decide +kernel
    have e18 : (dig 18).length = 2 := by decide +kernel
    show ((91 :: (((dig y.length ++ 58 :: TL.tl y) ++ ((dig (mkS y z).length ++ 58 :: TL.tl (mkS y z)) ++ [])) ++ [93])) ++ txts (ys.map (rowT z))).length = _
    rw [hy, hm]
    have := rows_len z ys fun k m => h k (List.mem_cons_of_mem _ m)
    simp only [List.length_cons, List.length_append, List.length_nil, ← TL.len_tl, hm, hy, e4, e18, this]
    omega
theorem seal_len (z : Str) (ys : List Str) : (txt (sealT z ys)).length = (dig z.length).length + z.length + 5 + (txts (ys.map (rowT z))).length := by
  show (91 :: ((txt (.str z) ++ ((91 :: (txts (ys.map (rowT z)) ++ [93])) ++ [])) ++ [93])).length = _
  have e : (txt (.str z)).length = (dig z.length).length + (z.length + 1) := by
    show (dig z.length ++ 58 :: TL.tl z).length = _
    rw [List.length_append, List.length_cons, ← TL.len_tl]
  simp only [List.length_cons, List.length_append, List.length_nil, e]
  omega

/-! k15: the law -/
abbrev s_law_refusal : Stmt := top 41
abbrev N_law_refusal : List Str := ["office", "text", "keys", "sealed", "e"]
theorem sc_law_refusal : FnScope N_law_refusal ["office", "text", "keys"] (defScope s_law_refusal) := ⟨rfl, rfl, rfl, by decide +kernel, rfl, by decide +kernel, by decide +kernel⟩
abbrev s_law_border : Stmt := top 42
abbrev N_law_border : List Str := ["office", "keys", "count", "more", "size", "actual"]
theorem sc_law_border : FnScope N_law_border ["office", "keys", "count", "more"] (defScope s_law_border) := ⟨rfl, rfl, rfl, by decide +kernel, rfl, by decide +kernel, by decide +kernel⟩
abbrev s_law_nothing_new : Stmt := top 43
abbrev N_law_nothing_new : List Str := ["office", "keys", "text", "key"]
theorem sc_law_nothing_new : FnScope N_law_nothing_new ["office", "keys", "text"] (defScope s_law_nothing_new) := ⟨rfl, rfl, rfl, by decide +kernel, rfl, by decide +kernel, by decide +kernel⟩
abbrev s_law : Stmt := top 44
abbrev N_law : List Str := ["script", "stream", "office", "mode", "count", "keys", "text", "odd", "actual", "place", "k"]
theorem sc_law : FnScope N_law ["script"] (defScope s_law) := ⟨rfl, rfl, rfl, by decide +kernel, rfl, by decide +kernel, by decide +kernel⟩
/-- a suite that answers -n, if the error is none of D and one of C2 -/
def tsR (K : PySem.W.Frag) (C D C2 : Addr) (n : Int) : Addr → Value → Option Addr → TS := fun a cls d E σ H => (cls = .ref C ∧ d = none) ∧
  tRet (tOp (fun x y H Q => ∃ p xs i v, x = .ref p ∧ H p = some (.lst xs) ∧ y = .int i ∧ atI xs i = some v ∧ Q v H) (tLst (tCons (tUn (rU fun i => .int (-i)) (tC (.int n))) (tCons (tC (.int 0)) tNil)))
    (tCB (fun xs H Q => ∃ k : Bool, xs = [.bl k] ∧ Q (.int (if k then 1 else 0)) H) (tCons (tOrV (tCB (rIsE K C a) (tCons (tVar 4) (tCons (tC (.ref D)) tNil))) (tNotV (tCB (rIsE K C a) (tCons (tVar 4) (tCons (tC (.ref C2)) tNil))))) tNil))) E σ H
def spRefus (C CK CT : Addr) (K : PySem.W.Frag) (Ts : List Addr) : Sp := fun vs H Q _ => spSeal2 C CK CT K Ts vs H (fun v H' => ∃ z : Str, v = .str z ∧ z.length ≤ 100000 ∧ Q (.int z.length) H') (fun c d H' => (c = .ref CK ∧ d = none ∧ ∀ H2, Kp [] H' H2 → Q (.int (-1)) H2) ∨ (c = .ref CT ∧ d = none ∧ ∀ H2, Kp [] H' H2 → Q (.int (-2)) H2))
theorem spSeal2_mono {C CK CT : Addr} {K : PySem.W.Frag} {Ts : List Addr} {vs : List V} {H : Hp} {Q R : VK} {E F : XK} (h : ∀ v H', Q v H' → R v H') (g : ∀ c d H', E c d H' → F c d H') (s : spSeal2 C CK CT K Ts vs H Q E) : spSeal2 C CK CT K Ts vs H R F := by
  obtain ⟨o, dm, a, made, tv, xs, rfl, hO, lm, hS, hl, hx, ht, hz, hG, qe, q⟩ := s
  refine ⟨o, dm, a, made, tv, xs, rfl, hO, lm, hS, hl, hx, ht, hz, hG, fun b H' k t => g _ _ _ (qe b H' k t), fun ks ys e hk ha m => ?_⟩
  obtain ⟨q1, q2⟩ := q ks ys e hk ha m
  refine ⟨fun l H' k t => g _ _ _ (q1 l H' k t), fun l => ?_⟩
  obtain ⟨q3, q4⟩ := q2 l
  refine ⟨fun p H' k t => g _ _ _ (q3 p H' k t), fun z e p => ?_⟩
  obtain ⟨q5, q6⟩ := q4 z e p
  exact ⟨fun l H' k t => g _ _ _ (q5 l H' k t), fun l H' k t O => h _ _ (q6 l H' k t O)⟩
def mB : List (Str × Str) := [(Str.ofString "k5", Str.ofString "before")]
def spBord (C : Addr) (Ts : List Addr) : Sp := fun vs H Q _ => ∃ (o dm l : Addr) (ks : List Str) (count more : Int), vs = [.ref o, .ref l, .int count, .int more] ∧ Ofc C o dm mB H ∧ H l = some (.lst (ks.map V.str)) ∧ ks.length ≤ 72 ∧ Tabs Ts H ∧ (∀ k ∈ ks, kyS k = true) ∧
  ((ks = [] ∧ count = 0) ∨ ∃ y, (∀ x, x ∈ ks ↔ x = y) ∧ count = 1 ∧ y.length = 4) ∧ (more = 0 ∨ more = 1) ∧ ∀ H', Q (.bl true) H'
def spNew (C : Addr) (K : PySem.W.Frag) : Sp := fun vs H Q _ => ∃ (o dm l : Addr) (tv : V) (xs : List V), vs = [.ref o, .ref l, tv] ∧ Ofc C o dm mB H ∧ SqL K H l xs ∧ (∀ x ∈ xs, (∃ t, tyN H x = some t) ∧ ∀ k, x = .str k → k.length ≤ 1000 ∧ k ≠ Str.ofString "k5") ∧ (∃ t, tyN H tv = some t) ∧ (∀ z, tv = .str z → z.length ≤ 1000) ∧ ∀ H', Q (.bl true) H'
theorem ite_dec {p : Prop} [Decidable p] {A B : Prop} (h : p → A) (g : ¬ p → B) : if p then A else B := by
  split
  · exact h ‹_›
  · exact g ‹_›
section
variable {P : Program} {w : World} {K : PySem.W.Frag} {mg : Str → Option Value} {base : Heap} {f : Addr} {fd : FuncData} {C CK CT C2 : Addr} {Ts : List Addr}
theorem ok_refusal (F : Fun K "_law_refusal" "_law_refusal" s_law_refusal f fd) (B : Blt mg) (T : SlC K mg C CK CT) (EK : ExcC K CK) (ET : ExcC K CT) (gC2 : mg "ChartError" = some (.ref C2))
    (k1 : PySem.W.kitOne K (.ref CK) (.ref CT) = some false) (k2 : PySem.W.kitOne K (.ref CK) (.ref C2) = some true) (k3 : PySem.W.kitOne K (.ref CT) (.ref CK) = some false) (k4 : PySem.W.kitOne K (.ref CT) (.ref C2) = some true) (x1 : PySem.W.exmOne K (.ref CT) (.ref CK) = some false)
    (c_seal : Cal P w K mg base (L2.CX P w) 24 "seal" (spSeal2 C CK CT K Ts)) : FnOk P w K mg base CX0 25 f fd ["office", "text", "keys"] (spRefus C CK CT K Ts) := by
  refine F.ok sc_law_refusal (fun vs H Q E h => ?_) (fun cdv A outer s H vs Q E hr h => ?_)
  · obtain ⟨o, dm, a, made, tv, xs, rfl, _⟩ := h; rfl
  have h0 := h
  obtain ⟨o, dm, a, made, tv, xs, rfl, _⟩ := h0
  refine ⟨_, (pss_cons (ps_try_asMany (i := 4) (tb := fun V => tAsg (tCallS (spSeal2 C CK CT K Ts) (WE V) (tCons (tVar 0) (tCons (tVar 1) (tCons (tVar 2) tNil)))) (gName 3)) (out := fun _ _ _ _ => False) (ks := [(.ref CK, tsR K CK CT C2 1), (.ref CT, tsR K CT CK C2 2)]) rfl rfl sc_law_refusal.nd rfl rfl takes0 (fun V held ex tk _ => pss_one (ps_set (i := 3) sc_law_refusal.nd rfl (Or.inl rfl) (by exact (c_seal.peS hr tk (by exact (pa_cons (pv 0) (pa_cons (pv 1) (pa_cons (pv 2) pa_nil)))))))) (.one ⟨rfl, by decide, .inl T.BadKey.g⟩ (fun a oe cls d pn hz hf => pss_given fun ⟨h1, h2⟩ => by subst h1; subst h2; exact pss_one (ps_ret (pe_ix ix_lM (pe_lst (pa_cons (pe_un un_neg pe_int) (pa_cons pe_int pa_nil))) (B.int_b (pa_cons (pe_or (pe_callB (call_isE EK hz hf) rfl B.isinstance (by decide +kernel) (by exact (pa_cons (pv 4) (pa_cons (pe_glob (v := .ref CT) rfl T.bad.g rfl) pa_nil)))) (pe_one (pe_not (pe_callB (call_isE EK hz hf) rfl B.isinstance (by decide +kernel) (by exact (pa_cons (pv 4) (pa_cons (pe_glob (v := .ref C2) rfl gC2 rfl) pa_nil))))))) pa_nil)) (fun _ _ => rfl)))) (.one ⟨rfl, by decide, .inl T.bad.g⟩ (fun a oe cls d pn hz hf => pss_given fun ⟨h1, h2⟩ => by subst h1; subst h2; exact pss_one (ps_ret (pe_ix ix_lM (pe_lst (pa_cons (pe_un un_neg pe_int) (pa_cons pe_int pa_nil))) (B.int_b (pa_cons (pe_or (pe_callB (call_isE ET hz hf) rfl B.isinstance (by decide +kernel) (by exact (pa_cons (pv 4) (pa_cons (pe_glob (v := .ref CK) rfl T.BadKey.g rfl) pa_nil)))) (pe_one (pe_not (pe_callB (call_isE ET hz hf) rfl B.isinstance (by decide +kernel) (by exact (pa_cons (pv 4) (pa_cons (pe_glob (v := .ref C2) rfl gC2 rfl) pa_nil))))))) pa_nil)) (fun _ _ => rfl)))) .none)))
    (pss_cons (ps_if (pt_not (pt_val (B.isT (pv 3) B.v_str))) (pss_one (ps_ret pe_int)) pss_nil)
    (pss_one (ps_ret (B.len_s (pa_cons (pv 3) pa_nil)))))), ?_⟩
  have rd : ∀ {C D : Addr} {n : Int} {a1 : Addr} {En : Ends} {v : V} {ov : Option V} {H' : Hp}, PySem.W.kitOne K (.ref C) (.ref D) = some false → PySem.W.kitOne K (.ref C) (.ref C2) = some true → (∀ H2, Kp [] H' H2 → En.rt (.int (-n)) H2) →
      tsR K C D C2 n a1 (.ref C) none En [some (.ref o), some tv, some (.ref a), ov, some (.ref a1)] H' := fun {C D n a1 En v ov H'} f1 f2 r => by
    unfold tsR
    refine ⟨⟨rfl, rfl⟩, ?_⟩
    walk_at "wp"
    refine ⟨by decide, fun p hp => ⟨.ref D, .ref D, false, rfl, fun u h => h, f1, false, rfl, ?_⟩⟩
    rw [if_neg (by decide)]
    exact ⟨.ref C2, .ref C2, true, rfl, fun u h => h, f2, true, rfl, _, upd_same, _, rfl, r _ (Kp.new hp _)⟩
  refine ⟨_, rfl, _, rfl, _, rfl, ?_⟩
  dsimp only [tNil]
  refine spSeal2_mono ?_ ?_ h
  · rintro v H' ⟨z, rfl, lz, hq⟩
    walk_at "wp"
    exact ⟨by have := sizeLine_eq; omega, hq⟩
  · rintro c d H' (⟨rfl, rfl, r⟩ | ⟨rfl, rfl, r⟩)
    · refine ⟨true, T.BadKey.em, ?_⟩
      rw [if_pos rfl]
      exact fun a ha => rd (v := V.non) k1 k2 r
    · refine ⟨false, x1, ?_⟩
      rw [if_neg (by decide)]
      refine ⟨true, T.bad.em, ?_⟩
      rw [if_pos rfl]
      exact fun a ha => rd (v := V.non) k3 k4 r
theorem ok_border (F : Fun K "_law_border" "_law_border" s_law_border f fd) (B : Blt mg) (c_law_counts : Cal P w K mg base CX0 1 "_law_counts" spCounts) (c_law_refusal : Cal P w K mg base CX0 25 "_law_refusal" (spRefus C CK CT K Ts)) (m_count : CalM P w K mg base CX0 1 C "count" (spCount C)) :
    FnOk P w K mg base CX0 26 f fd ["office", "keys", "count", "more"] (spBord C Ts) := by
  refine F.ok sc_law_border (fun vs H Q E h => ?_) (fun cdv A outer s H vs Q E hr h => ?_)
  · obtain ⟨o, dm, l, ks, count, more, rfl, _⟩ := h; rfl
  obtain ⟨o, dm, l, ks, count, more, rfl, hO, e1, lk, hG, hk, hc, hm, q⟩ := h
  refine ⟨_, (pss_cons (ps_set (i := 4) sc_law_border.nd rfl (Or.inl rfl) (pe_op op_add (pe_op op_sub pe_int (pe_op op_mul pe_int (pv 2))) (pv 3)))
    (pss_cons (ps_set (i := 5) sc_law_border.nd rfl (Or.inl rfl) (c_law_refusal.pe hr (pa_cons (pv 0) (pa_cons (pe_op op_mulS pe_str (pv 4)) (pa_cons (B.list_q (pa_cons (pv 1) pa_nil)) pa_nil)))))
    (pss_cons (ps_if (pt_cmpR op_gt (pv 3) pe_int (nomark _)) (pss_one (ps_ret (pe_and (pe_cmpR op_eq (pv 5) (pe_un un_neg pe_int) (nomark _)) (pe_one (c_law_counts.pe hr (pa_cons (m_count.pe0 hr (pv 0)) (pa_cons pe_int pa_nil))))))) pss_nil)
    (pss_one (ps_ret (pe_and (pe_cmpR op_eq (pv 5) pe_int (nomark _)) (pe_one (c_law_counts.pe hr (pa_cons (m_count.pe0 hr (pv 0)) (pa_cons (pe_op op_add pe_int (pv 2)) pa_nil)))))))))), ?_⟩
  have lim : sizeLine = 16777216 := sizeLine_eq
  have d5 : ∀ n ∈ [99990, 99991, 99961, 99962], (dig n).length = 5 := by decide +kernel
  have hn : (99990 - 29 * count + more).toNat ∈ [99990, 99991, 99961, 99962] := by
    rcases hc with ⟨_, rfl⟩ | ⟨y, _, rfl, _⟩ <;> rcases hm with rfl | rfl <;> decide
  have cm : CMul 29 count := by
    have e : (2 : Int) ^ 64 = 18446744073709551616 := by decide
    exact .inr (by rcases hc with ⟨_, rfl⟩ | ⟨y, _, rfl, _⟩ <;> constructor <;> omega)
  walk_at "wp"
  refine ⟨cm, 97, rfl, by omega, by omega, _, .inl (SqL.of e1), fun l' hl' => ?_⟩
  have kn := Kp.new (S := []) hl' (.lst (ks.map V.str))
  have lz : (⟨(List.replicate (99990 - 29 * count + more).toNat 97).toArray⟩ : Str).length = (99990 - 29 * count + more).toNat := by
    rw [S_len, List.length_replicate]
  have pz : prn ⟨(List.replicate (99990 - 29 * count + more).toNat 97).toArray⟩ = true := by
    unfold prn
    rw [List.all_eq_true]
    intro c hc
    rw [show c = 97 from (List.mem_replicate.mp hc).2]
    decide +kernel
  generalize (⟨(List.replicate (99990 - 29 * count + more).toNat 97).toArray⟩ : Str) = z at lz pz ⊢
  unfold spRefus
  refine seal_at (hO.kp kn List.not_mem_nil List.not_mem_nil) (by decide) upd_same (by omega) hk pz (by omega) (hG.kp0 kn) fun ys hy mem => ?_
  have ly : ys.length ≤ 1 ∧ (ys.length : Int) = count ∧ ∀ y ∈ ys, y.length = 4 := by
    rcases hc with ⟨rfl, rfl⟩ | ⟨y, hy1, rfl, h4⟩
    · have : ys = [] := asc_eq hy rfl mem
      subst this
      exact ⟨by simp, rfl, fun y m => absurd m List.not_mem_nil⟩
    · have : ys = [y] := asc_eq hy rfl fun x => (mem x).trans ((hy1 x).trans List.mem_singleton.symm)
      subst this
      exact ⟨by simp, rfl, fun x m => by rw [List.mem_singleton.mp m]; exact h4⟩
  obtain ⟨l1, l2, l4⟩ := ly
  have lT := seal_len z ys
  rw [rows_len _ ys l4, lz, d5 _ hn] at lT
  have fresh : ∀ k ∈ ys, (k, z) ∉ mB := fun k m h => by
    have e := (Prod.mk.inj (List.mem_singleton.mp h)).2
    rw [e] at lz
    have : (Str.ofString "before").length = 6 := by decide +kernel
    omega
  refine ⟨by omega, fun big H3 k3 g3 => .inr ⟨rfl, rfl, fun H4 k4 => ?_⟩, fun sm H3 k3 g3 O3 => ⟨_, rfl, by rw [S_len]; exact sm, ?_⟩⟩
  · have m1 : more = 1 := by omega
    have O4 := ((hO.kp kn List.not_mem_nil List.not_mem_nil).tabs k3 (hG.kp0 kn)).kp k4 List.not_mem_nil List.not_mem_nil
    obtain ⟨dx, ho⟩ := O4.ob
    refine if_yes (by omega) ⟨rfl, if_yes rfl ⟨dx, _, ho, rfl, o, dm, _, rfl, O4, _, _, rfl, q _⟩⟩
  · have m0 : more = 0 := by omega
    have lS : ((⟨(txt (sealT z ys)).toArray⟩ : Str).length : Int) = 100000 := by rw [S_len]; omega
    obtain ⟨dx, ho⟩ := O3.ob
    rw [lS]
    refine if_no (by omega) ⟨rfl, if_yes rfl ⟨dx, _, ho, rfl, o, dm, _, rfl, O3, _, _, rfl, ?_⟩⟩
    rw [madeA_new (asc_nodup hy) fresh, decide_eq_true (by show ((1 + ys.length : Nat) : Int) = 1 + count; omega)]
    exact q _
theorem ok_nothing_new (F : Fun K "_law_nothing_new" "_law_nothing_new" s_law_nothing_new f fd) (B : Blt mg) (c_law_counts : Cal P w K mg base CX0 1 "_law_counts" spCounts) (c_law_says : Cal P w K mg base CX0 1 "_law_says" spSays) (c_law_mark : Cal P w K mg base CX0 2 "_law_mark" spLMark) (m_holds : CalM P w K mg base CX0 1 C "holds" (spHolds C)) (m_count : CalM P w K mg base CX0 1 C "count" (spCount C)) :
    FnOk P w K mg base CX0 4 f fd ["office", "keys", "text"] (spNew C K) := by
  refine F.ok sc_law_nothing_new (fun vs H Q E h => ?_) (fun cdv A outer s H vs Q E hr h => ?_)
  · obtain ⟨o, dm, l, tv, xs, rfl, _⟩ := h; rfl
  obtain ⟨o, dm, l, tv, xs, rfl, hO, hS, hx, ⟨tt, htt⟩, hz, q⟩ := h
  refine ⟨_, (pss_cons (ps_if (pt_not (pt_val (c_law_counts.pe hr (pa_cons (m_count.pe0 hr (pv 0)) (pa_cons pe_int pa_nil))))) (pss_one (ps_ret pe_bl)) pss_nil)
    (pss_cons (ps_if (pt_not (pt_val (c_law_says.pe hr (pa_cons (m_holds.pe hr (pv 0) (pa_cons pe_str (pa_cons pe_str (pa_cons (c_law_mark.pe hr (pa_cons pe_str (pa_cons pe_str pa_nil))) pa_nil)))) (pa_cons pe_bl pa_nil))))) (pss_one (ps_ret pe_bl)) pss_nil)
    (pss_cons (ps_for PassesOwn.never rfl (pi_list (pv 1)) (pg_name (i := 3) sc_law_nothing_new.nd rfl (Or.inl rfl)) (pss_one (ps_if (PW.pt (pw_and (pt_val (B.isT (pv 3) B.v_str)) (pw_and1 (pt_val (B.isT (pv 2) B.v_str))))) (pss_one (ps_if (pt_not (pt_val (c_law_says.pe hr (pa_cons (m_holds.pe hr (pv 0) (pa_cons (pv 3) (pa_cons (pv 2) (pa_cons (c_law_mark.pe hr (pa_cons (pv 3) (pa_cons (pv 2) pa_nil))) pa_nil)))) (pa_cons pe_bl pa_nil))))) (pss_one (ps_ret pe_bl)) pss_nil)) pss_nil)))
    (pss_one (ps_ret pe_bl))))), ?_⟩
  obtain ⟨dx, ho⟩ := hO.ob
  walk_at "wp"
  refine ⟨dx, _, ho, rfl, o, dm, mB, rfl, hO, _, _, rfl, _, rfl, if_no (by decide +kernel) ?_⟩
  refine ⟨dx, _, ho, rfl, _, _, rfl, by decide +kernel, by decide +kernel, o, dm, mB, _, _, _, rfl, hO, ⟨_, rfl⟩, ⟨_, rfl⟩, ⟨_, rfl⟩, fun H2 k2 => ⟨_, _, rfl, _, rfl, if_no (by decide +kernel) ?_⟩⟩
  refine ⟨_, rfl, l, rfl, ⟨_, k2.seqL List.not_mem_nil hS⟩, ?_⟩
  have ty : ∀ {H' : Hp} {x : V} {t : String}, Kp [] H H' → tyN H x = some t → tyN H' x = some t := fun k h => k.tys (fun _ m => absurd m List.not_mem_nil) h
  refine for_list (K := K) (a := l) (xs := xs) (fun i σ H' => (∃ o3 : Option V, σ = [some (.ref o), some (.ref l), some tv, o3]) ∧ Kp [] H H') ⟨⟨_, rfl⟩, k2⟩ (fun i σ H' _ ⟨_, k⟩ => k.seqL List.not_mem_nil hS) (fun i x σ H' hi ⟨⟨o3, hσ⟩, k3⟩ => ?_) (fun σ H' ⟨⟨o3, hσ⟩, k3⟩ => ?_)
  · subst hσ
    have mx := List.mem_of_getElem? hi
    obtain ⟨⟨tx, htx⟩, hxs⟩ := hx x mx
    walk_at "wp"
    refine ⟨tx, ty k3 htx, ite_dec (fun b1 => ⟨tt, ty k3 htt, ite_dec (fun b2 => ?_) (fun _ => ⟨⟨_, rfl⟩, k3⟩)⟩) (fun _ => ⟨⟨_, rfl⟩, k3⟩)⟩
    obtain ⟨k, rfl⟩ := isa_str htx b1
    obtain ⟨z, rfl⟩ := isa_str htt b2
    obtain ⟨lk, nk⟩ := hxs k rfl
    have lz := hz z rfl
    have O3 := hO.kp k3 List.not_mem_nil List.not_mem_nil
    obtain ⟨dx, ho⟩ := O3.ob
    refine ⟨dx, _, ho, rfl, k, z, rfl, by omega, by omega, o, dm, mB, _, _, _, rfl, O3, ⟨_, rfl⟩, ⟨_, rfl⟩, ⟨_, rfl⟩, fun H4 k4 => ⟨_, _, rfl, _, rfl, if_no ?_ ⟨⟨_, rfl⟩, k3.trans k4⟩⟩⟩
    have : hoV mB (.str k) (.str z) (.str (mkS k z)) = false := by
      show (decide ((k, z) ∈ mB) && decide (mkS k z = mkS k z)) = false
      rw [decide_eq_false (show ¬ (k, z) ∈ mB from fun h => nk (Prod.mk.inj (List.mem_singleton.mp h)).1)]; rfl
    rw [this]
    decide
  · subst hσ
    exact q _
/-- the keys that the law writes -/
def kT (i : Nat) : Str := Str.ofString "k" ++ Str.ofString (toString (100 + 7 * (0 + (i : Int))))
def KL (n : Nat) : List Str := (List.range n).map kT
theorem kT_tl (i : Nat) : TL.tl (kT i) = 107 :: dig (100 + 7 * i) := by
  have e : (100 + 7 * (0 + (i : Int))) = ((100 + 7 * i : Nat) : Int) := by omega
  unfold kT
  rw [e, TL.tl_append, TL.tl_num]; rfl
theorem kT_inj {i j : Nat} (h : kT i = kT j) : i = j := by
  have e : TL.tl (kT i) = TL.tl (kT j) := by rw [h]
  rw [kT_tl, kT_tl] at e
  have := TL.numL_inj (List.cons.inj e).2
  omega
theorem kT_ne5 (i : Nat) : kT i ≠ Str.ofString "k5" := fun h => by
  have e : TL.tl (kT i) = TL.tl (Str.ofString "k5") := by rw [h]
  rw [kT_tl, show TL.tl (Str.ofString "k5") = 107 :: dig 5 by decide +kernel] at e
  have := TL.numL_inj (List.cons.inj e).2
  omega
theorem kT_ky {i : Nat} (h : i < 100) : kyS (kT i) = true := (ky_num (by omega) (by omega)).1
theorem KL_mem {n : Nat} {x : Str} : x ∈ KL n ↔ ∃ i, i < n ∧ kT i = x := by
  unfold KL
  rw [List.mem_map]
  exact ⟨fun ⟨i, m, e⟩ => ⟨i, List.mem_range.mp m, e⟩, fun ⟨i, m, e⟩ => ⟨i, List.mem_range.mpr m, e⟩⟩
theorem KL_cnt {n : Nat} {ys : List Str} (ha : asc ys = true) (h : ∀ x, x ∈ ys ↔ x ∈ KL n) : ys.length = n := by
  have nd : (KL n).Nodup := by
    unfold KL List.Nodup
    rw [List.pairwise_map]
    exact List.nodup_range.imp fun hne e => hne (kT_inj e)
  have a := nodup_le (asc_nodup ha) fun x m => (h x).mp m
  have b := nodup_le nd fun x m => (h x).mpr m
  unfold KL at a b
  rw [List.length_map, List.length_range] at a b
  omega
/-- a value that stands while nothing of ns changes -/
structure Vok (ns : List Addr) (H : Hp) (v : V) : Prop where
  ty : ∃ t, tyN H v = some t
  sz : szV v
  rf : ∀ p, v = .ref p → p ∉ ns ∧ ∃ u, H p = some u ∧ ((∃ xs, u = .lst xs) ∨ ∃ xs, u = .tup xs)
theorem Vok.go {ns : List Addr} {H H' : Hp} {v : V} (h : Vok ns H v) (k : ∀ p u, H p = some u → ((∃ xs, u = .lst xs) ∨ ∃ xs, u = .tup xs) → p ∉ ns → H' p = some u) : Vok ns H' v := by
  obtain ⟨⟨t, ht⟩, sz, rf⟩ := h
  cases v with
  | ref p =>
    obtain ⟨n, u, e, hu⟩ := rf p rfl
    have e2 := k p u e hu n
    refine ⟨?_, sz, fun q hq => ?_⟩
    · rcases hu with ⟨xs, rfl⟩ | ⟨xs, rfl⟩
      · exact ⟨"list", by show (match H' p with | some (.lst _) => some "list" | some (.tup _) => some "tuple" | some (.dK _) => some "dict" | _ => none) = _; rw [e2]⟩
      · exact ⟨"tuple", by show (match H' p with | some (.lst _) => some "list" | some (.tup _) => some "tuple" | some (.dK _) => some "dict" | _ => none) = _; rw [e2]⟩
    · cases hq
      exact ⟨n, u, e2, hu⟩
  | _ => exact ⟨⟨t, ht⟩, sz, fun q hq => by cases hq⟩
theorem vok_str {ns : List Addr} {H : Hp} {z : Str} (h : z.length ≤ sizeLine) : Vok ns H (.str z) := ⟨⟨_, rfl⟩, h, fun p e => by cases e⟩
theorem vok_flat {ns : List Addr} {H : Hp} {v : V} (h : ∃ t, tyN H v = some t) (s : szV v) (n : ∀ p, v ≠ .ref p) : Vok ns H v := ⟨h, s, fun p e => absurd e (n p)⟩
theorem vok_lst {ns : List Addr} {H : Hp} {p : Addr} {xs : List V} (e : H p = some (.lst xs)) (n : p ∉ ns) : Vok ns H (.ref p) := ⟨⟨"list", by show (match H p with | some (.lst _) => some "list" | some (.tup _) => some "tuple" | some (.dK _) => some "dict" | _ => none) = _; rw [e]⟩, trivial, fun q h => by cases h; exact ⟨n, _, e, .inl ⟨_, rfl⟩⟩⟩
theorem vok_tup {ns : List Addr} {H : Hp} {p : Addr} {xs : List V} (e : H p = some (.tup xs)) (n : p ∉ ns) : Vok ns H (.ref p) := ⟨⟨"tuple", by show (match H p with | some (.lst _) => some "list" | some (.tup _) => some "tuple" | some (.dK _) => some "dict" | _ => none) = _; rw [e]⟩, trivial, fun q h => by cases h; exact ⟨n, _, e, .inr ⟨_, rfl⟩⟩⟩
theorem Vok.any {ns : List Addr} {H : Hp} {v : V} (h : Vok ns H v) : Vok [] H v := ⟨h.ty, h.sz, fun p e => ⟨List.not_mem_nil, (h.rf p e).2⟩⟩
theorem Vok.kp0 {ns : List Addr} {H H' : Hp} {v : V} (h : Vok ns H v) (k : Kp [] H H') : Vok ns H' v := h.go fun p u e _ _ => k.keep p u List.not_mem_nil e
theorem Vok.kp {ns S : List Addr} {H H' : Hp} {v : V} (h : Vok ns H v) (k : Kp S H H') (s : ∀ x ∈ S, x ∈ ns) : Vok ns H' v := h.go fun p u e _ n => k.keep p u (fun m => n (s p m)) e
theorem Vok.tabs {ns Ts : List Addr} {H H' : Hp} {v : V} (h : Vok ns H v) (k : Kp Ts H H') (g : Tabs Ts H) : Vok ns H' v := h.go fun p u e hu _ => k.keep p u (g.ne e (by rcases hu with ⟨xs, rfl⟩ | ⟨xs, rfl⟩ <;> (intro ps z; cases z))) e
theorem cutV_strs (ks : List Str) (lo hi : Option Int) : ∃ cs : List Str, cutV (ks.map V.str) lo hi = cs.map V.str ∧ cs.length ≤ ks.length ∧ ∀ x ∈ cs, x ∈ ks := by
  have h : cutV (ks.map V.str) lo hi = ((ks.drop (HT.sIx (ks.map V.str).length 0 lo)).take (HT.sIx (ks.map V.str).length (ks.map V.str).length hi - HT.sIx (ks.map V.str).length 0 lo)).map V.str := by
    unfold cutV
    rw [List.map_take, List.map_drop]
  refine ⟨_, h, ?_, fun x m => List.mem_of_mem_drop (List.mem_of_mem_take m)⟩
  have := cutV_length (ks.map V.str) lo hi
  rw [h] at this
  simp only [List.length_map] at this ⊢
  exact this
theorem SO.lst {Ts : List Addr} {C : Addr} {H0 H : Hp} {st o d D : Addr} {mo : List (Str × Str)} {xs ys : List V} (h : SO Ts C H0 st o d mo H) (e : H D = some (.lst xs)) (h0 : H0 D = none) (n : D ≠ st) : SO Ts C H0 st o d mo (upd H D (.lst ys)) := by
  obtain ⟨dx, e1⟩ := h.O.ob
  have kk : Kp [D] H (upd H D (.lst ys)) := Kp.lst e (List.mem_singleton.mpr rfl)
  have one : ∀ {b : Addr} {u : HO}, H b = some u → (∀ xs, u ≠ .lst xs) → b ∉ [D] := fun e3 no m => by
    rw [List.mem_singleton.mp m, e] at e3
    exact no _ (Option.some.inj e3).symm
  exact ⟨h.L.lst h0 e n, h.O.kp kk (one e1 (by intro xs z; cases z)) (one h.O.dc (by intro xs z; cases z)), h.f1⟩
def spLaw (K : PySem.W.Frag) (Ts : List Addr) : Sp := fun vs H Q _ => ∃ (a : Addr) (ns : List Int), vs = [.ref a] ∧ SqL K H a (ns.map V.int) ∧ Tabs Ts H ∧ ∀ H', Q (.bl true) H'
theorem ok_law (F : Fun K "law" "law" s_law f fd) (B : Blt mg) (T : SlC K mg C CK CT) (c_law_cell : Cal P w K mg base CX0 1 "_law_cell" (spCell K)) (c_law_stream : Cal P w K mg base CX0 1 "_law_stream" spStream) (c_law_take : Cal P w K mg base CX0 1 "_law_take" spTake) (c_law_string : Cal P w K mg base CX0 2 "_law_string" spString)
    (c_law_counts : Cal P w K mg base CX0 1 "_law_counts" spCounts) (c_seal : Cal P w K mg base (L2.CX P w) 24 "seal" (spSeal2 C CK CT K Ts)) (c_law_refusal : Cal P w K mg base CX0 25 "_law_refusal" (spRefus C CK CT K Ts)) (c_law_border : Cal P w K mg base CX0 26 "_law_border" (spBord C Ts)) (c_law_nothing_new : Cal P w K mg base CX0 4 "_law_nothing_new" (spNew C K)) (k_Seals : CalK P w K mg base CX0 1 C "Seals" (spInit C)) (m_count : CalM P w K mg base CX0 1 C "count" (spCount C)) :
    FnOk P w K mg base CX0 27 f fd ["script"] (spLaw K Ts) := by
  refine F.ok sc_law (fun vs H Q E h => ?_) (fun cdv A outer s H vs Q E hr h => ?_)
  · obtain ⟨a, ns, rfl, _⟩ := h; rfl
  obtain ⟨a, ns, rfl, hS, hT, q⟩ := h
  refine ⟨_, (pss_cons (ps_set (i := 1) sc_law.nd rfl (Or.inl rfl) (c_law_stream.pe hr (pa_cons (c_law_cell.pe hr (pa_cons (pv 0) (pa_cons pe_int pa_nil))) pa_nil)))
    (pss_cons (ps_set (i := 2) sc_law.nd rfl (Or.inl rfl) (k_Seals.pe0 hr))
    (pss_cons (ps_expr (c_seal.peL hr (pa_cons (pv 2) (pa_cons pe_str (pa_cons (pe_lst (pa_cons pe_str pa_nil)) pa_nil)))))
    (pss_cons (ps_set (i := 3) sc_law.nd rfl (Or.inl rfl) (c_law_take.pe hr (pa_cons (pv 1) (pa_cons pe_int pa_nil))))
    (pss_cons (ps_set (i := 4) sc_law.nd rfl (Or.inl rfl) (c_law_take.pe hr (pa_cons (pv 1) (pa_cons pe_int pa_nil))))
    (C8.pss_cut (ps_if (pt_cmpR op_eq (pv 3) pe_int (nomark _)) (pss_one (ps_set (i := 4) sc_law.nd rfl (Or.inl rfl) pe_int)) pss_nil)
    (C8.pss_cut (ps_if (pt_cmpR op_eq (pv 3) pe_int (nomark _)) (pss_one (ps_set (i := 4) sc_law.nd rfl (Or.inl rfl) (pe_op op_mod (B.int_i (pa_cons (pv 4) pa_nil)) pe_int))) pss_nil)
    (pss_cons (ps_setLc (i := 5) (own := [("k", 10)]) (g := gName 10) (tt := tYes) rfl sc_law.nd rfl rfl (sw_true rfl rfl rfl (by decide +kernel)) (B.range1 (pa_cons (pv 4) pa_nil)) (blkOk_by (own := [("k", 10)]) (N := N_law) (sc := defScope s_law) (by decide +kernel)) (fun _ _ _ _ _ => pg_name (i := 10) sc_law.nd rfl (Or.inl rfl)) (fun _ _ _ _ _ => pts_nil) (fun _ _ _ _ _ => (pe_op op_add_str pe_str (B.str_i (pa_cons (pe_op op_add pe_int (pe_op op_mul pe_int (pv 10))) pa_nil)))))
    (C8.pss_cut (ps_if (pt_cmpR op_eq (c_law_take.pe hr (pa_cons (pv 1) (pa_cons pe_int pa_nil))) pe_int (nomark _)) (pss_one (ps_set (i := 5) sc_law.nd rfl (Or.inl rfl) (pe_op op_cat (pe_revL (pv 5)) (pe_slice sl_list (pv 5) po_none (po_some pe_int))))) pss_nil)
    (C8.pss_cut (ps_if (pt_cmpR op_eq (pv 3) pe_int (nomark _)) (pss_one (ps_ret (c_law_border.pe hr (pa_cons (pv 2) (pa_cons (pv 5) (pa_cons (pv 4) (pa_cons (c_law_take.pe hr (pa_cons (pv 1) (pa_cons pe_int pa_nil))) pa_nil))))))) pss_nil)
    (pss_cons (ps_set (i := 6) sc_law.nd rfl (Or.inl rfl) (c_law_string.pe hr (pa_cons (pv 1) (pa_cons pe_int pa_nil))))
    (pss_cons (ps_set (i := 7) sc_law.nd rfl (Or.inl rfl) (c_law_take.pe hr (pa_cons (pv 1) (pa_cons pe_int pa_nil))))
    (C8.pss_cut (ps_if (PW.pt (pw_or (pt_cmpR op_eq (pv 3) pe_int (nomark _)) (pw_or1 (PW.pt (pw_and (pt_cmpR op_lt (pv 3) pe_int (nomark _)) (pw_and1 (pt_cmpR op_eq (c_law_take.pe hr (pa_cons (pv 1) (pa_cons pe_int pa_nil))) pe_int (nomark _)))))))) (pss_one (ps_set (i := 6) sc_law.nd rfl (Or.inl rfl) (pe_ix ix_lM (pe_lst (pa_cons pe_str (pa_cons pe_non (pa_cons pe_int (pa_cons (pe_lst (pa_cons (pv 6) pa_nil)) (pa_cons (pe_tup (pa_cons (pv 6) pa_nil)) pa_nil)))))) (pv 7) (fun _ _ => rfl)))) pss_nil)
    (C8.pss_cut (ps_if (PW.pt (pw_or (pt_cmpR op_eq (pv 3) pe_int (nomark _)) (pw_or1 (pt_cmpR op_eq (pv 3) pe_int (nomark _))))) (pss_cons (ps_set (i := 9) sc_law.nd rfl (Or.inl rfl) (c_law_take.pe hr (pa_cons (pv 1) (pa_cons (pe_op op_add (B.len_q (pa_cons (pv 5) pa_nil)) pe_int) pa_nil))))
    (pss_one (ps_expr (pe_bm PySem.F.plainAttrs_list PySem.F.slot_list_insert PySem.F.type_list_insert mt_insert (pv 5) (pa_cons (pv 9) (pa_cons (pe_ix ix_lM (pe_lst (pa_cons pe_str (pa_cons pe_str (pa_cons pe_str (pa_cons pe_str (pa_cons pe_str (pa_cons pe_non (pa_cons pe_int (pa_cons (pe_lst (pa_cons pe_str pa_nil)) (pa_cons (pe_tup (pa_cons pe_str pa_nil)) pa_nil)))))))))) (c_law_take.pe hr (pa_cons (pv 1) (pa_cons pe_int pa_nil))) (fun _ _ => rfl)) pa_nil)))))) pss_nil)
    (pss_cons (ps_set (i := 8) sc_law.nd rfl (Or.inl rfl) (c_law_refusal.pe hr (pa_cons (pv 2) (pa_cons (pv 6) (pa_cons (B.list_q (pa_cons (pv 5) pa_nil)) pa_nil)))))
    (pss_cons (ps_if (pt_cmpR op_gt (pv 3) pe_int (nomark _)) (pss_one (ps_ret (pe_and (pe_cmpR op_gt (pv 8) pe_int (nomark _)) (pe_one (c_law_counts.pe hr (pa_cons (m_count.pe0 hr (pv 2)) (pa_cons (pe_op op_add pe_int (pv 4)) pa_nil))))))) pss_nil)
    (pss_cons (ps_if (pt_cmpR op_ne (pv 8) (pe_ix ix_lM (pe_lst (pa_cons pe_int (pa_cons (pe_un un_neg pe_int) (pa_cons (pe_un un_neg pe_int) (pa_cons (pe_un un_neg pe_int) (pa_cons (pe_un un_neg pe_int) pa_nil)))))) (pv 3) (fun _ _ => rfl)) (nomark _)) (pss_one (ps_ret pe_bl)) pss_nil)
    (pss_one (ps_ret (c_law_nothing_new.pe hr (pa_cons (pv 2) (pa_cons (pv 5) (pa_cons (pv 6) pa_nil))))))))))))))))))))))), ?_⟩
  walk_at "wp"
  have lim : sizeLine = 16777216 := sizeLine_eq
  refine ⟨a, ns, 0, rfl, hS, _, rfl, fun st hst a0 b0 => ?_⟩
  have L1 : LT Ts st H (upd H st (.lst [.int a0, .int b0])) := LT.first hT hst
  generalize upd H st (.lst [.int a0, .int b0]) = H1 at L1 ⊢
  intro o dx n1 n2 n3
  refine ⟨o, dx, rfl, upd_same, fun dm H2 hd nm O1 k1 => ?_⟩
  have K1 := mk_kp n1 n2 n3 k1
  have Z2 : SO Ts C H st o dm [] H2 := ⟨L1.kp0 K1, O1, L1.free (mk_none hd)⟩
  clear K1 k1 hd nm n1 n2 n3 O1 L1
  refine ⟨rfl, by omega, fun p5 h5 => ?_⟩
  have Z3 := Z2.kp0 (Kp.new h5 (.lst [V.str (Str.ofString "k5")]))
  refine seal_at (ls := [Str.ofString "k5"]) Z3.O (by decide) upd_same (by decide) (fun k m => by rw [List.mem_singleton.mp m]; decide +kernel) (by decide +kernel) (by decide +kernel) Z3.L.g fun ys hy mem => ?_
  have ey : ys = [Str.ofString "k5"] := asc_eq hy rfl mem
  subst ey
  have TO := sealT_ok (z := Str.ofString "before") (ys := [Str.ofString "k5"]) (by decide +kernel) (by decide +kernel) (by decide) (fun k m => by rw [List.mem_singleton.mp m]; decide +kernel)
  have lTO := TO.2.2
  refine ⟨by decide, fun big => absurd big (by omega), fun _ H4 k4 g4 O4 => ?_⟩
  have em : madeA [] (Str.ofString "before") [Str.ofString "k5"] = mB := by
    show addP [] (Str.ofString "k5", Str.ofString "before") = mB
    unfold addP
    rw [if_neg List.not_mem_nil]; rfl
  rw [em] at O4
  have Z4 := Z3.made k4 g4 O4
  refine ⟨st, 8, rfl, Z4.L.s, ⟨by decide, by decide⟩, fun mode H5 m0 m1 k5 s5 => ⟨st, 33, rfl, s5, ⟨by decide, by decide⟩, fun c0 H6 c00 c01 k6 s6 => ?_⟩⟩
  have Z6 := (Z4.take k5 s5).take k6 s6
  clear Z4 Z3 Z2 k4 k5 k6 O4 lTO TO h5 mem hy s5 em
  refine ⟨fun σ' H' => ∃ count : Int, σ' = [some (.ref a), some (.ref st), some (.ref o), some (.int mode), some (.int count), none, none, none, none, none, none] ∧ 0 ≤ count ∧ (mode = 1 → count = 33) ∧ (mode ≠ 1 → count ≤ 32) ∧ SO Ts C H st o dm mB H', ?_, ?_⟩
  · walk_at "wp"
    refine ite_dec (fun e => ?_) (fun e => ?_)
    · exact ⟨by decide, fun _ => trivial, fun n => absurd e n, Z6⟩
    · exact ⟨c00, fun z => absurd z e, fun _ => by omega, Z6⟩
  rintro σ' HA ⟨c1, rfl, c10, c11, c12, Z7⟩
  clear Z6
  refine ⟨fun σ' H' => ∃ count : Int, σ' = [some (.ref a), some (.ref st), some (.ref o), some (.int mode), some (.int count), none, none, none, none, none, none] ∧ 0 ≤ count ∧ (mode = 1 → count = 33) ∧ (mode ≠ 1 → count ≤ 32) ∧ (mode = 0 → count ≤ 1) ∧ SO Ts C H st o dm mB H', ?_, ?_⟩
  · walk_at "wp"
    refine ite_dec (fun e => ?_) (fun e => ?_)
    · exact ⟨by decide, by omega, fun z => by omega, fun _ => by omega, fun _ => by omega, Z7⟩
    · exact ⟨c10, c11, c12, fun z => absurd z e, Z7⟩
  rintro σ' HB ⟨count, rfl, c0, c33, c32, cm1, Z8⟩
  clear Z7
  have c34 : count ≤ 33 := by
    by_cases e : mode = 1
    · have := c33 e; omega
    · have := c32 e; omega
  walk_at "wp"
  refine ⟨_, rfl, count, rfl, by omega, by omega, fun D hD => ?_⟩
  refine lc_range (lo := 0) (n := count.toNat) (fun i H' => Kp [] HB H' ∧ H' D = some (.lst ((KL i).map V.str))) ⟨Kp.new hD _, upd_same⟩ (fun i H' hi ⟨kc, e2⟩ => ?_) (fun H' ⟨kc, e2⟩ => ?_)
  · refine ⟨rfl, ?_⟩
    simp only [tYes, if_true]
    walk_at "wp"
    obtain ⟨hky, hln, hlg⟩ := ky_num (n := 100 + 7 * (0 + (i : Int))) (by omega) (by omega)
    have cm : CMul 7 (0 + (i : Int)) := by
      have e : (2 : Int) ^ 64 = 18446744073709551616 := by decide
      exact .inr ⟨by omega, by omega⟩
    have sn : KL (i + 1) = KL i ++ [kT i] := by unfold KL; rw [List.range_succ, List.map_append]; rfl
    refine ⟨_, rfl, 0 + (i : Int), rfl, cm, hlg, by show 1 + _ ≤ _; omega, (KL i).map V.str, e2, by unfold KL; rw [List.length_map, List.length_map, List.length_range]; omega, kc.upd hD e2, ?_⟩
    rw [sn, List.map_append]; rfl
  have Z9 := Z8.kp0 kc
  have lKL : (KL count.toNat).length = count.toNat := by unfold KL; rw [List.length_map, List.length_range]
  refine ⟨fun σ' H' => ∃ (pk : Addr) (ks : List Str), σ' = [some (.ref a), some (.ref st), some (.ref o), some (.int mode), some (.int count), some (.ref pk), none, none, none, none, none] ∧ H' pk = some (.lst (ks.map V.str)) ∧ ks.length ≤ 72 ∧ (∀ x, x ∈ ks ↔ x ∈ KL count.toNat) ∧ pk ≠ st ∧ H pk = none ∧ SO Ts C H st o dm mB H', ?_, ?_⟩
  · walk_at "wp"
    refine ⟨st, 2, rfl, Z9.L.s, ⟨by decide, by decide⟩, fun v HC v0 v1 k9 s9 => ⟨rfl, ?_⟩⟩
    have Z10 := Z9.take k9 s9
    have e3 := k9.keep D _ (by simpa using Z8.L.nst hD) e2
    refine ite_dec (fun _ => ?_) (fun _ => ⟨KL count.toNat, e3, by omega, fun _ => Iff.rfl, Z8.L.nst hD, Z8.L.free hD, Z10⟩)
    refine ⟨_, rfl, D, _, rfl, SqL.of e3, fun pr hpr => ?_⟩
    have kr := Kp.new (S := []) hpr (.lst ((KL count.toNat).map V.str).reverse)
    have e4 := kr.keep D _ List.not_mem_nil e3
    refine ⟨D, _, rfl, SqL.of e4, fun ps hps => ?_⟩
    have ks := Kp.new (S := []) hps (.lst (cutV ((KL count.toNat).map V.str) none (some 3)))
    have e5 := ks.keep pr _ List.not_mem_nil upd_same
    obtain ⟨cs, ec, lc, mc⟩ := cutV_strs (KL count.toNat) none (some 3)
    refine ⟨pr, ps, _, _, rfl, rfl, e5, upd_same, by rw [List.length_reverse, List.length_map, ec, List.length_map]; omega, fun pc hpc => ?_⟩
    have kc := Kp.new (S := []) hpc (.lst (((KL count.toNat).map V.str).reverse ++ cutV ((KL count.toNat).map V.str) none (some 3)))
    refine ⟨pc, rfl, (KL count.toNat).reverse ++ cs, by rw [upd_same, ec, List.map_append, List.map_reverse], by rw [List.length_append, List.length_reverse]; omega, fun x => ?_, ((Z10.kp0 kr).kp0 ks).L.nst hpc, ((Z10.kp0 kr).kp0 ks).L.free hpc, ((Z10.kp0 kr).kp0 ks).kp0 kc⟩
    rw [List.mem_append, List.mem_reverse]
    exact ⟨fun h => h.elim id (mc x), .inl⟩
  rintro σ' HC ⟨pk, ks, rfl, ep, lk, mk, npk, fpk, ZC⟩
  clear Z9 Z8 kc e2 hD
  have kky : ∀ k ∈ ks, kyS k = true := fun k m => by
    obtain ⟨i, hi, e⟩ := KL_mem.mp ((mk k).mp m)
    rw [← e]
    exact kT_ky (by omega)
  have kn5 : ∀ k ∈ ks, k ≠ Str.ofString "k5" := fun k m => by
    obtain ⟨i, hi, e⟩ := KL_mem.mp ((mk k).mp m)
    rw [← e]
    exact kT_ne5 i
  refine ⟨fun σ' H' => σ' = [some (.ref a), some (.ref st), some (.ref o), some (.int mode), some (.int count), some (.ref pk), none, none, none, none, none] ∧ mode ≠ 0 ∧ H' pk = some (.lst (ks.map V.str)) ∧ SO Ts C H st o dm mB H', ?_, ?_⟩
  · walk_at "wp"
    refine ite_dec (fun e => ?_) (fun e => ⟨e, ep, ZC⟩)
    refine ⟨st, 2, rfl, ZC.L.s, ⟨by decide, by decide⟩, fun v HD v0 v1 k9 s9 => ?_⟩
    have ZD := ZC.take k9 s9
    refine ⟨o, dm, pk, ks, count, v, rfl, ZD.O, k9.keep pk _ (by simpa using npk) ep, lk, ZD.L.g, kky, ?_, by omega, q⟩
    have := cm1 e
    by_cases c : count = 0
    · refine .inl ⟨List.eq_nil_iff_forall_not_mem.mpr fun x m => ?_, c⟩
      obtain ⟨i, hi, _⟩ := KL_mem.mp ((mk x).mp m)
      omega
    · have c1 : count = 1 := by omega
      refine .inr ⟨kT 0, fun x => (mk x).trans (KL_mem.trans ⟨fun ⟨i, hi, e⟩ => ?_, fun e => ⟨0, by omega, e.symm⟩⟩), c1, by decide +kernel⟩
      rw [← e, show i = 0 by omega]
  rintro σ' HD ⟨rfl, mn0, ep, ZD⟩
  clear ZC
  walk_at "wp"
  refine ⟨st, 20, rfl, ZD.L.s, by decide, by decide, fun z HE lz mz kE sE => ?_⟩
  have ZE := ZD.take kE sE
  refine ⟨st, 5, rfl, sE, ⟨by decide, by decide⟩, fun odd HF o0 o1 kF sF => ?_⟩
  have ZF := ZE.take kF sF
  have lz : z.length ≤ 20 := lz
  have pz : prn z = true := by
    unfold prn
    rw [List.all_eq_true]
    exact fun c hc => (by decide +kernel : ∀ c ∈ abc, prc c = true) c (mz c hc)
  refine ⟨fun σ' H' => ∃ tv : V, σ' = [some (.ref a), some (.ref st), some (.ref o), some (.int mode), some (.int count), some (.ref pk), some tv, some (.int odd), none, none, none] ∧ H' pk = some (.lst (ks.map V.str)) ∧ Vok [st, pk] H' tv ∧ (∀ z, tv = .str z → z.length ≤ 20) ∧ (mode = 3 → prV tv = false) ∧ (3 < mode → ∃ z, tv = .str z ∧ prn z = true) ∧ SO Ts C H st o dm mB H', ?_, ?_⟩
  · have OT : ∀ {H1 : Hp}, mode ≤ 3 → H1 pk = some (.lst (ks.map V.str)) → SO Ts C H st o dm mB H1 → ∀ (p p1 p2 : Addr), H1 p = none → upd H1 p (.lst [V.str z]) p1 = none → upd (upd H1 p (.lst [V.str z])) p1 (.tup [V.str z]) p2 = none →
        ∃ x, atI [V.str (Str.ofString "a\nb"), V.non, V.int 5, V.ref p, V.ref p1] odd = some x ∧ upd (upd (upd H1 p (.lst [V.str z])) p1 (.tup [V.str z])) p2 (.lst [V.str (Str.ofString "a\nb"), V.non, V.int 5, V.ref p, V.ref p1]) pk = some (.lst (ks.map V.str)) ∧
          Vok [st, pk] (upd (upd (upd H1 p (.lst [V.str z])) p1 (.tup [V.str z])) p2 (.lst [V.str (Str.ofString "a\nb"), V.non, V.int 5, V.ref p, V.ref p1])) x ∧ (∀ z : Str, x = V.str z → z.length ≤ 20) ∧ (mode = 3 → prV x = false) ∧ (3 < mode → ∃ z, x = V.str z ∧ prn z = true) ∧
          SO Ts C H st o dm mB (upd (upd (upd H1 p (.lst [V.str z])) p1 (.tup [V.str z])) p2 (.lst [V.str (Str.ofString "a\nb"), V.non, V.int 5, V.ref p, V.ref p1])) := fun {H1} m3 e Z p p1 p2 hp hp1 hp2 => by
      have q1 := Kp.new (S := []) hp (.lst [V.str z])
      have q2 := Kp.new (S := []) hp1 (.tup [V.str z])
      have q3 := Kp.new (S := []) hp2 (.lst [V.str (Str.ofString "a\nb"), V.non, V.int 5, V.ref p, V.ref p1])
      have Y1 := Z.kp0 q1
      have Y3 := (Y1.kp0 q2).kp0 q3
      have e3 := ((q1.trans q2).trans q3).keep pk _ List.not_mem_nil e
      have f1 := q3.keep p _ List.not_mem_nil (q2.keep p _ List.not_mem_nil upd_same)
      have f2 := q3.keep p1 _ List.not_mem_nil upd_same
      have n1 : p ∉ [st, pk] := by
        have a1 := Z.L.nst hp
        have a2 : pk ≠ p := ne_of_none e hp
        simp only [List.mem_cons, List.not_mem_nil, or_false, not_or]
        exact ⟨a1, a2.symm⟩
      have n2 : p1 ∉ [st, pk] := by
        have a1 := Y1.L.nst hp1
        have a2 : pk ≠ p1 := ne_of_none (q1.keep pk _ List.not_mem_nil e) hp1
        simp only [List.mem_cons, List.not_mem_nil, or_false, not_or]
        exact ⟨a1, a2.symm⟩
      have : odd = 0 ∨ odd = 1 ∨ odd = 2 ∨ odd = 3 ∨ odd = 4 := by omega
      rcases this with rfl | rfl | rfl | rfl | rfl
      · exact ⟨_, rfl, e3, vok_str (by decide +kernel), fun y e => by rw [← V.str.inj e]; decide +kernel, fun _ => by decide +kernel, fun h => absurd h (by omega), Y3⟩
      · exact ⟨_, rfl, e3, vok_flat ⟨_, rfl⟩ trivial (fun _ h => by cases h), fun y e => (by cases e), fun _ => rfl, fun h => absurd h (by omega), Y3⟩
      · exact ⟨_, rfl, e3, vok_flat ⟨_, rfl⟩ trivial (fun _ h => by cases h), fun y e => (by cases e), fun _ => rfl, fun h => absurd h (by omega), Y3⟩
      · exact ⟨_, rfl, e3, vok_lst f1 n1, fun y e => (by cases e), fun _ => rfl, fun h => absurd h (by omega), Y3⟩
      · exact ⟨_, rfl, e3, vok_tup f2 n2, fun y e => (by cases e), fun _ => rfl, fun h => absurd h (by omega), Y3⟩
    have ePF := kF.keep pk _ (by simpa using npk) (kE.keep pk _ (by simpa using npk) ep)
    walk_at "wp"
    refine ite_dec (fun e => ⟨by omega, fun p hp => ⟨by omega, fun p1 hp1 => ⟨by omega, fun p2 hp2 => OT (by omega) ePF ZF p p1 p2 hp hp1 hp2⟩⟩⟩) (fun e => ite_dec (fun e2 => ?_) (fun e2 => ⟨ePF, vok_str (by omega), fun y e => by rw [← e]; exact lz, fun h => absurd h e, fun _ => pz, ZF⟩))
    refine ⟨st, 2, rfl, sF, ⟨by decide, by decide⟩, fun v H1 v0 v1 k1 s1 => ⟨rfl, ?_⟩⟩
    have e1 := k1.keep pk _ (by simpa using npk) ePF
    have Z1 := ZF.take k1 s1
    exact ite_dec (fun _ => ⟨by omega, fun p hp => ⟨by omega, fun p1 hp1 => ⟨by omega, fun p2 hp2 => OT (by omega) e1 Z1 p p1 p2 hp hp1 hp2⟩⟩⟩) (fun _ => ⟨e1, vok_str (by omega), fun y e => by rw [← e]; exact lz, fun h => absurd h e, fun h => absurd h (by omega), Z1⟩)
  rintro σ' HG ⟨tv, rfl, eG, vT, lT, t3, t4, ZG⟩
  refine ⟨fun σ' H' => ∃ (xs : List V) (o9 : Option V), σ' = [some (.ref a), some (.ref st), some (.ref o), some (.int mode), some (.int count), some (.ref pk), some tv, some (.int odd), none, o9, none] ∧ H' pk = some (.lst xs) ∧ xs.length ≤ 73 ∧ (∀ x ∈ xs, Vok [] H' x ∧ ∀ k, x = .str k → k.length ≤ 100 ∧ k ≠ Str.ofString "k5") ∧ Vok [] H' tv ∧ (mode = 2 ∨ mode = 4 → xs.all kyV = false) ∧ (mode ≠ 2 → mode ≠ 4 → xs = ks.map V.str) ∧ SO Ts C H st o dm mB H', ?_, ?_⟩
  · walk_at "wp"
    refine ite_dec (fun e => ?_) (fun e => ite_dec (fun e4 => ?_) (fun e4 => ⟨_, eG, by rw [List.length_map]; omega, fun y my => ?_, vT.any, fun h => by omega, fun _ _ => rfl, ZG⟩))
    ·
      refine ⟨_, .inl (SqL.of eG), st, _, rfl, ZG.L.s, ⟨by rw [List.length_map]; omega, by rw [List.length_map]; omega⟩, fun pl H1 pl0 pl1 k1 s1 => ?_⟩
      rw [List.length_map] at pl1
      have ZI := ZG.take k1 s1
      have eI := k1.keep pk _ (by simpa using npk) eG
      have vI := vT.kp k1 (by simp)
      refine ⟨.inl ⟨rfl, _, SqL.of eI⟩, by omega, fun p hp => ⟨by omega, fun p1 hp1 => ⟨by omega, fun p2 hp2 => ?_⟩⟩⟩
      have q1 := Kp.new (S := []) hp (.lst [V.str (Str.ofString "k1")])
      have q2 := Kp.new (S := []) hp1 (.tup [V.str (Str.ofString "k1")])
      have q3 := Kp.new (S := []) hp2 (.lst [V.str (Str.ofString ""), V.str (Str.ofString "k"), V.str (Str.ofString "K1"), V.str (Str.ofString "k1 "), V.str (Str.ofString "k-1"), V.non, V.int 7, V.ref p, V.ref p1])
      have Y1 := ZI.kp0 q1
      have Y2 := Y1.kp0 q2
      have Y3 := Y2.kp0 q3
      have e3 := ((q1.trans q2).trans q3).keep pk _ List.not_mem_nil eI
      have v3 := vI.kp0 ((q1.trans q2).trans q3)
      have f1 := q3.keep p _ List.not_mem_nil (q2.keep p _ List.not_mem_nil upd_same)
      have f2 := q3.keep p1 _ List.not_mem_nil upd_same
      have a1 := ZI.L.nst hp
      have b1 : p ≠ pk := (ne_of_none eI hp).symm
      have a2 := Y1.L.nst hp1
      have b2 : p1 ≠ pk := (ne_of_none (q1.keep pk _ List.not_mem_nil eI) hp1).symm
      have a3 := Y2.L.nst hp2
      refine ⟨st, 9, rfl, Y3.L.s, ⟨by decide, by decide⟩, fun u H2 u0 u1 k2 s2 => ?_⟩
      have Z2 := Y3.take k2 s2
      have e2 := k2.keep pk _ (by simpa using npk) e3
      have v2 := v3.kp k2 (by simp)
      have g1 := k2.keep p _ (by simpa using a1) f1
      have g2 := k2.keep p1 _ (by simpa using a2) f2
      have g3 := k2.keep p2 _ (by simpa using a3) upd_same
      obtain ⟨x, ex, bx, wx, sx⟩ : ∃ x, atI [V.str (Str.ofString ""), V.str (Str.ofString "k"), V.str (Str.ofString "K1"), V.str (Str.ofString "k1 "), V.str (Str.ofString "k-1"), V.non, V.int 7, V.ref p, V.ref p1] u = some x ∧ kyV x = false ∧ Vok [pk] H2 x ∧ ∀ k, x = .str k → k.length ≤ 100 ∧ k ≠ Str.ofString "k5" := by
        have : u = 0 ∨ u = 1 ∨ u = 2 ∨ u = 3 ∨ u = 4 ∨ u = 5 ∨ u = 6 ∨ u = 7 ∨ u = 8 := by omega
        rcases this with rfl | rfl | rfl | rfl | rfl | rfl | rfl | rfl | rfl
        · exact ⟨_, rfl, by decide +kernel, vok_str (by decide +kernel), fun k e => by rw [← V.str.inj e]; exact ⟨by decide +kernel, by decide +kernel⟩⟩
        · exact ⟨_, rfl, by decide +kernel, vok_str (by decide +kernel), fun k e => by rw [← V.str.inj e]; exact ⟨by decide +kernel, by decide +kernel⟩⟩
        · exact ⟨_, rfl, by decide +kernel, vok_str (by decide +kernel), fun k e => by rw [← V.str.inj e]; exact ⟨by decide +kernel, by decide +kernel⟩⟩
        · exact ⟨_, rfl, by decide +kernel, vok_str (by decide +kernel), fun k e => by rw [← V.str.inj e]; exact ⟨by decide +kernel, by decide +kernel⟩⟩
        · exact ⟨_, rfl, by decide +kernel, vok_str (by decide +kernel), fun k e => by rw [← V.str.inj e]; exact ⟨by decide +kernel, by decide +kernel⟩⟩
        · exact ⟨_, rfl, rfl, vok_flat ⟨_, rfl⟩ trivial (fun _ h => by cases h), fun k e => by cases e⟩
        · exact ⟨_, rfl, rfl, vok_flat ⟨_, rfl⟩ trivial (fun _ h => by cases h), fun k e => by cases e⟩
        · exact ⟨_, rfl, rfl, vok_lst g1 (by simpa using b1), fun k e => by cases e⟩
        · exact ⟨_, rfl, rfl, vok_tup g2 (by simpa using b2), fun k e => by cases e⟩
      have kl : Kp [pk] H2 (upd H2 pk (.lst ((ks.map V.str).take pl.toNat ++ [x] ++ (ks.map V.str).drop pl.toNat))) := Kp.lst e2 (List.mem_singleton.mpr rfl)
      refine ⟨_, g3, u, rfl, x, ex, _, pl, rfl, e2, by rw [List.length_map]; omega, pl0, by omega, ?_, fun y my => ?_, ?_, fun _ => ?_, fun n2 n4 => ?_, Z2.lst e2 fpk npk⟩
      · simp only [List.length_append, List.length_take, List.length_drop, List.length_map, List.length_cons, List.length_nil]
        omega
      · rcases List.mem_append.mp my with my | my
        · rcases List.mem_append.mp my with my | my
          · obtain ⟨k, mk, rfl⟩ := List.mem_map.mp (List.mem_of_mem_take my)
            have := kyl12 (kky k mk)
            exact ⟨vok_str (by omega), fun k2 e => by rw [← V.str.inj e]; exact ⟨by omega, kn5 k mk⟩⟩
          · rw [List.mem_singleton.mp my]
            exact ⟨(wx.kp kl (fun _ m => m)).any, sx⟩
        · obtain ⟨k, mk, rfl⟩ := List.mem_map.mp (List.mem_of_mem_drop my)
          have := kyl12 (kky k mk)
          exact ⟨vok_str (by omega), fun k2 e => by rw [← V.str.inj e]; exact ⟨by omega, kn5 k mk⟩⟩
      · exact (v2.kp kl (by simp)).any
      · exact List.all_eq_false.mpr ⟨x, List.mem_append_left _ (List.mem_append_right _ (List.mem_singleton.mpr rfl)), by rw [bx]; decide⟩
      · omega
    ·
      refine ⟨_, .inl (SqL.of eG), st, _, rfl, ZG.L.s, ⟨by rw [List.length_map]; omega, by rw [List.length_map]; omega⟩, fun pl H1 pl0 pl1 k1 s1 => ?_⟩
      rw [List.length_map] at pl1
      have ZI := ZG.take k1 s1
      have eI := k1.keep pk _ (by simpa using npk) eG
      have vI := vT.kp k1 (by simp)
      refine ⟨.inl ⟨rfl, _, SqL.of eI⟩, by omega, fun p hp => ⟨by omega, fun p1 hp1 => ⟨by omega, fun p2 hp2 => ?_⟩⟩⟩
      have q1 := Kp.new (S := []) hp (.lst [V.str (Str.ofString "k1")])
      have q2 := Kp.new (S := []) hp1 (.tup [V.str (Str.ofString "k1")])
      have q3 := Kp.new (S := []) hp2 (.lst [V.str (Str.ofString ""), V.str (Str.ofString "k"), V.str (Str.ofString "K1"), V.str (Str.ofString "k1 "), V.str (Str.ofString "k-1"), V.non, V.int 7, V.ref p, V.ref p1])
      have Y1 := ZI.kp0 q1
      have Y2 := Y1.kp0 q2
      have Y3 := Y2.kp0 q3
      have e3 := ((q1.trans q2).trans q3).keep pk _ List.not_mem_nil eI
      have v3 := vI.kp0 ((q1.trans q2).trans q3)
      have f1 := q3.keep p _ List.not_mem_nil (q2.keep p _ List.not_mem_nil upd_same)
      have f2 := q3.keep p1 _ List.not_mem_nil upd_same
      have a1 := ZI.L.nst hp
      have b1 : p ≠ pk := (ne_of_none eI hp).symm
      have a2 := Y1.L.nst hp1
      have b2 : p1 ≠ pk := (ne_of_none (q1.keep pk _ List.not_mem_nil eI) hp1).symm
      have a3 := Y2.L.nst hp2
      refine ⟨st, 9, rfl, Y3.L.s, ⟨by decide, by decide⟩, fun u H2 u0 u1 k2 s2 => ?_⟩
      have Z2 := Y3.take k2 s2
      have e2 := k2.keep pk _ (by simpa using npk) e3
      have v2 := v3.kp k2 (by simp)
      have g1 := k2.keep p _ (by simpa using a1) f1
      have g2 := k2.keep p1 _ (by simpa using a2) f2
      have g3 := k2.keep p2 _ (by simpa using a3) upd_same
      obtain ⟨x, ex, bx, wx, sx⟩ : ∃ x, atI [V.str (Str.ofString ""), V.str (Str.ofString "k"), V.str (Str.ofString "K1"), V.str (Str.ofString "k1 "), V.str (Str.ofString "k-1"), V.non, V.int 7, V.ref p, V.ref p1] u = some x ∧ kyV x = false ∧ Vok [pk] H2 x ∧ ∀ k, x = .str k → k.length ≤ 100 ∧ k ≠ Str.ofString "k5" := by
        have : u = 0 ∨ u = 1 ∨ u = 2 ∨ u = 3 ∨ u = 4 ∨ u = 5 ∨ u = 6 ∨ u = 7 ∨ u = 8 := by omega
        rcases this with rfl | rfl | rfl | rfl | rfl | rfl | rfl | rfl | rfl
        · exact ⟨_, rfl, by decide +kernel, vok_str (by decide +kernel), fun k e => by rw [← V.str.inj e]; exact ⟨by decide +kernel, by decide +kernel⟩⟩
        · exact ⟨_, rfl, by decide +kernel, vok_str (by decide +kernel), fun k e => by rw [← V.str.inj e]; exact ⟨by decide +kernel, by decide +kernel⟩⟩
        · exact ⟨_, rfl, by decide +kernel, vok_str (by decide +kernel), fun k e => by rw [← V.str.inj e]; exact ⟨by decide +kernel, by decide +kernel⟩⟩
        · exact ⟨_, rfl, by decide +kernel, vok_str (by decide +kernel), fun k e => by rw [← V.str.inj e]; exact ⟨by decide +kernel, by decide +kernel⟩⟩
        · exact ⟨_, rfl, by decide +kernel, vok_str (by decide +kernel), fun k e => by rw [← V.str.inj e]; exact ⟨by decide +kernel, by decide +kernel⟩⟩
        · exact ⟨_, rfl, rfl, vok_flat ⟨_, rfl⟩ trivial (fun _ h => by cases h), fun k e => by cases e⟩
        · exact ⟨_, rfl, rfl, vok_flat ⟨_, rfl⟩ trivial (fun _ h => by cases h), fun k e => by cases e⟩
        · exact ⟨_, rfl, rfl, vok_lst g1 (by simpa using b1), fun k e => by cases e⟩
        · exact ⟨_, rfl, rfl, vok_tup g2 (by simpa using b2), fun k e => by cases e⟩
      have kl : Kp [pk] H2 (upd H2 pk (.lst ((ks.map V.str).take pl.toNat ++ [x] ++ (ks.map V.str).drop pl.toNat))) := Kp.lst e2 (List.mem_singleton.mpr rfl)
      refine ⟨_, g3, u, rfl, x, ex, _, pl, rfl, e2, by rw [List.length_map]; omega, pl0, by omega, ?_, fun y my => ?_, ?_, fun _ => ?_, fun n2 n4 => ?_, Z2.lst e2 fpk npk⟩
      · simp only [List.length_append, List.length_take, List.length_drop, List.length_map, List.length_cons, List.length_nil]
        omega
      · rcases List.mem_append.mp my with my | my
        · rcases List.mem_append.mp my with my | my
          · obtain ⟨k, mk, rfl⟩ := List.mem_map.mp (List.mem_of_mem_take my)
            have := kyl12 (kky k mk)
            exact ⟨vok_str (by omega), fun k2 e => by rw [← V.str.inj e]; exact ⟨by omega, kn5 k mk⟩⟩
          · rw [List.mem_singleton.mp my]
            exact ⟨(wx.kp kl (fun _ m => m)).any, sx⟩
        · obtain ⟨k, mk, rfl⟩ := List.mem_map.mp (List.mem_of_mem_drop my)
          have := kyl12 (kky k mk)
          exact ⟨vok_str (by omega), fun k2 e => by rw [← V.str.inj e]; exact ⟨by omega, kn5 k mk⟩⟩
      · exact (v2.kp kl (by simp)).any
      · exact List.all_eq_false.mpr ⟨x, List.mem_append_left _ (List.mem_append_right _ (List.mem_singleton.mpr rfl)), by rw [bx]; decide⟩
      · omega
    · obtain ⟨k, mk, rfl⟩ := List.mem_map.mp my
      have := kyl12 (kky k mk)
      exact ⟨vok_str (by omega), fun k2 e => by rw [← V.str.inj e]; exact ⟨by omega, kn5 k mk⟩⟩
  rintro σ' HH ⟨xs, o9, rfl, eH, lx, vx, vT, x2, x3, ZH⟩
  walk_at "wp"
  refine ⟨_, .inl (SqL.of eH), fun pl hpl => ?_⟩
  have kn := Kp.new (S := []) hpl (.lst xs)
  have ZI := ZH.kp0 kn
  have eI := kn.keep pk _ List.not_mem_nil eH
  have el : upd HH pl (.lst xs) pl = some (.lst xs) := upd_same
  have vI := fun x m => And.intro ((vx x m).1.kp0 kn) (vx x m).2
  have tI := vT.kp0 kn
  generalize upd HH pl (.lst xs) = HI at ZI eI el vI tI ⊢
  unfold spRefus
  have lmB : mB.length ≤ 900 := by decide
  by_cases c1 : mode = 1 ∨ mode = 2 ∨ mode = 4
  · refine seal_badK ZI.O lmB (SqL.of el) (by omega) (fun x m => ⟨(vI x m).1.ty, (vI x m).1.sz⟩) tI.ty (fun y e => by have := lT y e; omega) ZI.L.g ?_ (fun H' k' g' => .inl ⟨rfl, rfl, fun H2 k2 => ?_⟩)
    · rcases c1 with c | c | c
      · refine .inr fun ks2 ys2 ek ha hm => ?_
        rw [x3 (by omega) (by omega)] at ek
        have ek2 : ks = ks2 := (List.map_inj_right (fun _ _ h => V.str.inj h)).mp ek
        subst ek2
        have := KL_cnt ha fun x => (hm x).trans (mk x)
        have := c33 c
        omega
      · exact .inl (x2 (.inl c))
      · exact .inl (x2 (.inr c))
    refine if_no (by omega) ⟨by omega, fun p hp => ⟨.int (-1), by rcases c1 with rfl | rfl | rfl <;> rfl, rfl, if_no (fun h => h rfl) ?_⟩⟩
    have kq := Kp.new (S := []) hp (.lst [V.int 0, V.int (-1), V.int (-1), V.int (-2), V.int (-1)])
    have KT := (k'.trans k2.in0).trans kq.in0
    exact ⟨o, dm, pk, tv, xs, rfl, ((ZI.O.tabs k' ZI.L.g).kp k2 List.not_mem_nil List.not_mem_nil).kp kq List.not_mem_nil List.not_mem_nil, SqL.of (KT.get ZI.L.g eI), fun x m => ⟨((vI x m).1.tabs KT ZI.L.g).ty, fun k e => by have := (vI x m).2 k e; exact ⟨by omega, this.2⟩⟩, (tI.tabs KT ZI.L.g).ty, fun y e => by have := lT y e; omega, q⟩
  have ex := x3 (by omega) (by omega)
  subst ex
  have l32 : ∀ ys, asc ys = true → (∀ x, x ∈ ys ↔ x ∈ ks) → ys.length = count.toNat ∧ ys.length ≤ 32 := fun ys ha hm => by
    have a := KL_cnt ha fun x => (hm x).trans (mk x)
    have b := c32 (by omega)
    exact ⟨a, by omega⟩
  by_cases c3 : mode = 3
  · refine seal_badT ZI.O lmB el (by omega) kky (fun ys ha hm => (l32 ys ha hm).2) tI.ty (fun y e => by have := lT y e; omega) (t3 c3) ZI.L.g (fun H' k' g' => .inr ⟨rfl, rfl, fun H2 k2 => ?_⟩)
    refine if_no (by omega) ⟨by omega, fun p hp => ⟨.int (-2), by subst c3; rfl, rfl, if_no (fun h => h rfl) ?_⟩⟩
    have kq := Kp.new (S := []) hp (.lst [V.int 0, V.int (-1), V.int (-1), V.int (-2), V.int (-1)])
    have KT := (k'.trans k2.in0).trans kq.in0
    exact ⟨o, dm, pk, tv, _, rfl, ((ZI.O.tabs k' ZI.L.g).kp k2 List.not_mem_nil List.not_mem_nil).kp kq List.not_mem_nil List.not_mem_nil, SqL.of (KT.get ZI.L.g eI), fun x m => ⟨((vI x m).1.tabs KT ZI.L.g).ty, fun k e => by have := (vI x m).2 k e; exact ⟨by omega, this.2⟩⟩, (tI.tabs KT ZI.L.g).ty, fun y e => by have := lT y e; omega, q⟩
  obtain ⟨y, rfl, py⟩ := t4 (by omega)
  have ly := lT y rfl
  refine seal_at ZI.O lmB el (by omega) kky py (by omega) ZI.L.g fun ys ha hm => ?_
  obtain ⟨n1, n2⟩ := l32 ys ha hm
  have yky : ∀ k ∈ ys, kyS k = true := fun k m => kky k ((hm k).mp m)
  have TO := sealT_ok (z := y) py (by omega) n2 yky
  have lTO := TO.2.2
  have sl := seal_len y ys
  refine ⟨n2, fun big => absurd big (by omega), fun sm H3 k3 g3 O3 => ⟨_, rfl, by rw [S_len]; exact sm, if_yes (by omega) ⟨_, rfl, if_yes (by rw [S_len]; omega) ?_⟩⟩⟩
  obtain ⟨dx, ho⟩ := O3.ob
  refine ⟨dx, _, ho, rfl, o, dm, _, rfl, O3, _, _, rfl, ?_⟩
  have fresh : ∀ k ∈ ys, (k, y) ∉ mB := fun k m h => kn5 k ((hm k).mp m) (Prod.mk.inj (List.mem_singleton.mp h)).1
  rw [madeA_new (asc_nodup ha) fresh, decide_eq_true (by show ((1 + ys.length : Nat) : Int) = 1 + count; omega)]
  exact q _
end

open PySem.Spec PyProof.Rows in
theorem all_mk {l : PySem.W.OpenLaw} {q : Program} {lo : List Str} {mean : ExcName → Option Value} {w : World} {K : PySem.W.Frag} {h : Heap} {mg mb : Str → Option Value} {fa : Addr} (T : Top q lo mean mg mb h) (X : K.In h) (G : h.Ns mainGlobals mg) (hfa : mg "law" = some (.ref fa))
    {C_Seals : Addr} (aC_Seals : PySem.W.nsIn K mainGlobals "Seals" = some (some (.ref C_Seals)))
    (pg_Seals : PySem.W.plainGet K C_Seals Str.empty = true)
    (hd_Seals : PySem.W.hasDictIn K C_Seals = true)
    (po_Seals : PySem.W.plainOver K C_Seals = true)
    (sa_Seals : PySem.W.findIn K (.ref C_Seals) "__setattr__" = some (some (.builtin "object.__setattr__")))
    (mk_Seals : PySem.W.makesIn K C_Seals = true)
    (kc_Seals : PySem.W.keepIn K (.ref C_Seals) = true)
    (na_marks_Seals : PySem.W.findIn K (.ref C_Seals) "_marks" = some none)
    {oc0 kV0 doc0 pm0 cd0 ct0 : Value} {od0 an0 : Option Addr} {sl0 : Array (Option Value)} {f0 : Addr}
    (a0 : PySem.W.nsIn K mainGlobals "digest" = some (some (.ref f0)))
    (l0 : K.lookup f0 = some ⟨oc0, od0, .func (PySem.W.fnOf "digest" "digest" (defArgs s_digest) (defBody s_digest) (defScope s_digest) .none kV0 doc0 pm0 an0 cd0 ct0), sl0⟩) (cc0 : PySem.W.codeIn K cd0 "digest" = true) (k0 : PySem.W.keepIn K (.ref f0) = true)
    {oc1 kV1 doc1 pm1 cd1 ct1 : Value} {od1 an1 : Option Addr} {sl1 : Array (Option Value)} {f1 : Addr}
    (a1 : PySem.W.nsIn K mainGlobals "is_key" = some (some (.ref f1)))
    (l1 : K.lookup f1 = some ⟨oc1, od1, .func (PySem.W.fnOf "is_key" "is_key" (defArgs s_is_key) (defBody s_is_key) (defScope s_is_key) .none kV1 doc1 pm1 an1 cd1 ct1), sl1⟩) (cc1 : PySem.W.codeIn K cd1 "is_key" = true) (k1 : PySem.W.keepIn K (.ref f1) = true)
    {oc2 kV2 doc2 pm2 ct2 : Value} {od2 an2 : Option Addr} {sl2 : Array (Option Value)} {c2 Pt2 f2 : Addr}
    (a2 : PySem.W.nsIn K mainGlobals "_consists_of" = some (some (.ref f2)))
    (l2 : K.lookup f2 = some ⟨oc2, od2, .func (PySem.W.fnOf "_consists_of" "_consists_of" (defArgs s_consists_of) (defBody s_consists_of) (defScope s_consists_of) .none kV2 doc2 pm2 an2 (.ref c2) ct2), sl2⟩) (cc2 : PySem.W.codeIn K (.ref c2) "_consists_of" = true) (k2 : PySem.W.keepIn K (.ref f2) = true)
    {oc3 kV3 doc3 pm3 ct3 : Value} {od3 an3 : Option Addr} {sl3 : Array (Option Value)} {c3 Pt3 f3 : Addr}
    (a3 : PySem.W.nsIn K mainGlobals "is_printable" = some (some (.ref f3)))
    (l3 : K.lookup f3 = some ⟨oc3, od3, .func (PySem.W.fnOf "is_printable" "is_printable" (defArgs s_is_printable) (defBody s_is_printable) (defScope s_is_printable) .none kV3 doc3 pm3 an3 (.ref c3) ct3), sl3⟩) (cc3 : PySem.W.codeIn K (.ref c3) "is_printable" = true) (k3 : PySem.W.keepIn K (.ref f3) = true)
    {oc4 kV4 doc4 pm4 cd4 ct4 : Value} {od4 an4 : Option Addr} {sl4 : Array (Option Value)} {f4 : Addr}
    (a4 : PySem.W.nsIn K mainGlobals "is_integer" = some (some (.ref f4)))
    (l4 : K.lookup f4 = some ⟨oc4, od4, .func (PySem.W.fnOf "is_integer" "is_integer" (defArgs s_is_integer) (defBody s_is_integer) (defScope s_is_integer) .none kV4 doc4 pm4 an4 cd4 ct4), sl4⟩) (cc4 : PySem.W.codeIn K cd4 "is_integer" = true) (k4 : PySem.W.keepIn K (.ref f4) = true)
    {oc5 kV5 doc5 pm5 cd5 ct5 : Value} {od5 an5 : Option Addr} {sl5 : Array (Option Value)} {f5 : Addr}
    (a5 : PySem.W.nsIn K mainGlobals "encode" = some (some (.ref f5)))
    (l5 : K.lookup f5 = some ⟨oc5, od5, .func (PySem.W.fnOf "encode" "encode" (defArgs s_encode) (defBody s_encode) (defScope s_encode) .none kV5 doc5 pm5 an5 cd5 ct5), sl5⟩) (cc5 : PySem.W.codeIn K cd5 "encode" = true) (k5 : PySem.W.keepIn K (.ref f5) = true)
    {oc6 kV6 doc6 pm6 cd6 ct6 : Value} {od6 an6 : Option Addr} {sl6 : Array (Option Value)} {f6 : Addr}
    (a6 : PySem.W.nsIn K mainGlobals "_text_of" = some (some (.ref f6)))
    (l6 : K.lookup f6 = some ⟨oc6, od6, .func (PySem.W.fnOf "_text_of" "_text_of" (defArgs s_text_of) (defBody s_text_of) (defScope s_text_of) .none kV6 doc6 pm6 an6 cd6 ct6), sl6⟩) (cc6 : PySem.W.codeIn K cd6 "_text_of" = true) (k6 : PySem.W.keepIn K (.ref f6) = true)
    {oc7 kV7 doc7 pm7 cd7 ct7 : Value} {od7 an7 : Option Addr} {sl7 : Array (Option Value)} {f7 : Addr}
    (a7 : PySem.W.nsIn K mainGlobals "_tuple_text" = some (some (.ref f7)))
    (l7 : K.lookup f7 = some ⟨oc7, od7, .func (PySem.W.fnOf "_tuple_text" "_tuple_text" (defArgs s_tuple_text) (defBody s_tuple_text) (defScope s_tuple_text) .none kV7 doc7 pm7 an7 cd7 ct7), sl7⟩) (cc7 : PySem.W.codeIn K cd7 "_tuple_text" = true) (k7 : PySem.W.keepIn K (.ref f7) = true)
    {oc8 kV8 doc8 pm8 cd8 ct8 : Value} {od8 an8 : Option Addr} {sl8 : Array (Option Value)} {f8 : Addr}
    (a8 : PySem.W.nsIn K mainGlobals "_greatest_integer" = some (some (.ref f8)))
    (l8 : K.lookup f8 = some ⟨oc8, od8, .func (PySem.W.fnOf "_greatest_integer" "_greatest_integer" (defArgs s_greatest_integer) (defBody s_greatest_integer) (defScope s_greatest_integer) .none kV8 doc8 pm8 an8 cd8 ct8), sl8⟩) (cc8 : PySem.W.codeIn K cd8 "_greatest_integer" = true) (k8 : PySem.W.keepIn K (.ref f8) = true)
    {oc9 kV9 doc9 pm9 cd9 ct9 : Value} {od9 an9 : Option Addr} {sl9 : Array (Option Value)} {f9 : Addr}
    (a9 : PySem.W.nsIn K mainGlobals "seal" = some (some (.ref f9)))
    (l9 : K.lookup f9 = some ⟨oc9, od9, .func (PySem.W.fnOf "seal" "seal" (defArgs s_seal) (defBody s_seal) (defScope s_seal) .none kV9 doc9 pm9 an9 cd9 ct9), sl9⟩) (cc9 : PySem.W.codeIn K cd9 "seal" = true) (k9 : PySem.W.keepIn K (.ref f9) = true)
    {oc10 kV10 doc10 pm10 ct10 : Value} {od10 an10 : Option Addr} {sl10 : Array (Option Value)} {c10 Pt10 f10 : Addr}
    (a10 : PySem.W.nsIn K mainGlobals "_different_keys" = some (some (.ref f10)))
    (l10 : K.lookup f10 = some ⟨oc10, od10, .func (PySem.W.fnOf "_different_keys" "_different_keys" (defArgs s_different_keys) (defBody s_different_keys) (defScope s_different_keys) .none kV10 doc10 pm10 an10 (.ref c10) ct10), sl10⟩) (cc10 : PySem.W.codeIn K (.ref c10) "_different_keys" = true) (k10 : PySem.W.keepIn K (.ref f10) = true)
    {oc11 kV11 doc11 pm11 cd11 ct11 : Value} {od11 an11 : Option Addr} {sl11 : Array (Option Value)} {f11 : Addr}
    (a11 : PySem.W.findIn K (.ref C_Seals) "__init__" = some (some (.ref f11))) (i11 : PySem.W.isFn K (.ref f11) = true)
    (l11 : K.lookup f11 = some ⟨oc11, od11, .func (PySem.W.fnOf "__init__" "Seals.__init__" (defArgs s_Seals___init) (defBody s_Seals___init) (defScope s_Seals___init) .none kV11 doc11 pm11 an11 cd11 ct11), sl11⟩) (cc11 : PySem.W.codeIn K cd11 "Seals.__init__" = true) (k11 : PySem.W.keepIn K (.ref f11) = true)
    {oc12 kV12 doc12 pm12 cd12 ct12 : Value} {od12 an12 : Option Addr} {sl12 : Array (Option Value)} {f12 : Addr}
    (a12 : PySem.W.findIn K (.ref C_Seals) "make" = some (some (.ref f12))) (i12 : PySem.W.isFn K (.ref f12) = true)
    (l12 : K.lookup f12 = some ⟨oc12, od12, .func (PySem.W.fnOf "make" "Seals.make" (defArgs s_Seals_make) (defBody s_Seals_make) (defScope s_Seals_make) .none kV12 doc12 pm12 an12 cd12 ct12), sl12⟩) (cc12 : PySem.W.codeIn K cd12 "Seals.make" = true) (k12 : PySem.W.keepIn K (.ref f12) = true)
    {oc13 kV13 doc13 pm13 cd13 ct13 : Value} {od13 an13 : Option Addr} {sl13 : Array (Option Value)} {f13 : Addr}
    (a13 : PySem.W.findIn K (.ref C_Seals) "holds" = some (some (.ref f13))) (i13 : PySem.W.isFn K (.ref f13) = true)
    (l13 : K.lookup f13 = some ⟨oc13, od13, .func (PySem.W.fnOf "holds" "Seals.holds" (defArgs s_Seals_holds) (defBody s_Seals_holds) (defScope s_Seals_holds) .none kV13 doc13 pm13 an13 cd13 ct13), sl13⟩) (cc13 : PySem.W.codeIn K cd13 "Seals.holds" = true) (k13 : PySem.W.keepIn K (.ref f13) = true)
    {oc14 kV14 doc14 pm14 cd14 ct14 : Value} {od14 an14 : Option Addr} {sl14 : Array (Option Value)} {f14 : Addr}
    (a14 : PySem.W.findIn K (.ref C_Seals) "count" = some (some (.ref f14))) (i14 : PySem.W.isFn K (.ref f14) = true)
    (l14 : K.lookup f14 = some ⟨oc14, od14, .func (PySem.W.fnOf "count" "Seals.count" (defArgs s_Seals_count) (defBody s_Seals_count) (defScope s_Seals_count) .none kV14 doc14 pm14 an14 cd14 ct14), sl14⟩) (cc14 : PySem.W.codeIn K cd14 "Seals.count" = true) (k14 : PySem.W.keepIn K (.ref f14) = true)
    {oc15 kV15 doc15 pm15 cd15 ct15 : Value} {od15 an15 : Option Addr} {sl15 : Array (Option Value)} {f15 : Addr}
    (a15 : PySem.W.nsIn K mainGlobals "_law_cell" = some (some (.ref f15)))
    (l15 : K.lookup f15 = some ⟨oc15, od15, .func (PySem.W.fnOf "_law_cell" "_law_cell" (defArgs s_law_cell) (defBody s_law_cell) (defScope s_law_cell) .none kV15 doc15 pm15 an15 cd15 ct15), sl15⟩) (cc15 : PySem.W.codeIn K cd15 "_law_cell" = true) (k15 : PySem.W.keepIn K (.ref f15) = true)
    {oc16 kV16 doc16 pm16 cd16 ct16 : Value} {od16 an16 : Option Addr} {sl16 : Array (Option Value)} {f16 : Addr}
    (a16 : PySem.W.nsIn K mainGlobals "_law_stream" = some (some (.ref f16)))
    (l16 : K.lookup f16 = some ⟨oc16, od16, .func (PySem.W.fnOf "_law_stream" "_law_stream" (defArgs s_law_stream) (defBody s_law_stream) (defScope s_law_stream) .none kV16 doc16 pm16 an16 cd16 ct16), sl16⟩) (cc16 : PySem.W.codeIn K cd16 "_law_stream" = true) (k16 : PySem.W.keepIn K (.ref f16) = true)
    {oc17 kV17 doc17 pm17 cd17 ct17 : Value} {od17 an17 : Option Addr} {sl17 : Array (Option Value)} {f17 : Addr}
    (a17 : PySem.W.nsIn K mainGlobals "_law_take" = some (some (.ref f17)))
    (l17 : K.lookup f17 = some ⟨oc17, od17, .func (PySem.W.fnOf "_law_take" "_law_take" (defArgs s_law_take) (defBody s_law_take) (defScope s_law_take) .none kV17 doc17 pm17 an17 cd17 ct17), sl17⟩) (cc17 : PySem.W.codeIn K cd17 "_law_take" = true) (k17 : PySem.W.keepIn K (.ref f17) = true)
    {oc18 kV18 doc18 pm18 cd18 ct18 : Value} {od18 an18 : Option Addr} {sl18 : Array (Option Value)} {f18 : Addr}
    (a18 : PySem.W.nsIn K mainGlobals "_law_char" = some (some (.ref f18)))
    (l18 : K.lookup f18 = some ⟨oc18, od18, .func (PySem.W.fnOf "_law_char" "_law_char" (defArgs s_law_char) (defBody s_law_char) (defScope s_law_char) .none kV18 doc18 pm18 an18 cd18 ct18), sl18⟩) (cc18 : PySem.W.codeIn K cd18 "_law_char" = true) (k18 : PySem.W.keepIn K (.ref f18) = true)
    {oc19 kV19 doc19 pm19 cd19 ct19 : Value} {od19 an19 : Option Addr} {sl19 : Array (Option Value)} {f19 : Addr}
    (a19 : PySem.W.nsIn K mainGlobals "_law_string" = some (some (.ref f19)))
    (l19 : K.lookup f19 = some ⟨oc19, od19, .func (PySem.W.fnOf "_law_string" "_law_string" (defArgs s_law_string) (defBody s_law_string) (defScope s_law_string) .none kV19 doc19 pm19 an19 cd19 ct19), sl19⟩) (cc19 : PySem.W.codeIn K cd19 "_law_string" = true) (k19 : PySem.W.keepIn K (.ref f19) = true)
    {oc20 kV20 doc20 pm20 cd20 ct20 : Value} {od20 an20 : Option Addr} {sl20 : Array (Option Value)} {f20 : Addr}
    (a20 : PySem.W.nsIn K mainGlobals "_law_digest" = some (some (.ref f20)))
    (l20 : K.lookup f20 = some ⟨oc20, od20, .func (PySem.W.fnOf "_law_digest" "_law_digest" (defArgs s_law_digest) (defBody s_law_digest) (defScope s_law_digest) .none kV20 doc20 pm20 an20 cd20 ct20), sl20⟩) (cc20 : PySem.W.codeIn K cd20 "_law_digest" = true) (k20 : PySem.W.keepIn K (.ref f20) = true)
    {oc21 kV21 doc21 pm21 cd21 ct21 : Value} {od21 an21 : Option Addr} {sl21 : Array (Option Value)} {f21 : Addr}
    (a21 : PySem.W.nsIn K mainGlobals "_law_says" = some (some (.ref f21)))
    (l21 : K.lookup f21 = some ⟨oc21, od21, .func (PySem.W.fnOf "_law_says" "_law_says" (defArgs s_law_says) (defBody s_law_says) (defScope s_law_says) .none kV21 doc21 pm21 an21 cd21 ct21), sl21⟩) (cc21 : PySem.W.codeIn K cd21 "_law_says" = true) (k21 : PySem.W.keepIn K (.ref f21) = true)
    {oc22 kV22 doc22 pm22 cd22 ct22 : Value} {od22 an22 : Option Addr} {sl22 : Array (Option Value)} {f22 : Addr}
    (a22 : PySem.W.nsIn K mainGlobals "_law_mark" = some (some (.ref f22)))
    (l22 : K.lookup f22 = some ⟨oc22, od22, .func (PySem.W.fnOf "_law_mark" "_law_mark" (defArgs s_law_mark) (defBody s_law_mark) (defScope s_law_mark) .none kV22 doc22 pm22 an22 cd22 ct22), sl22⟩) (cc22 : PySem.W.codeIn K cd22 "_law_mark" = true) (k22 : PySem.W.keepIn K (.ref f22) = true)
    {oc23 kV23 doc23 pm23 cd23 ct23 : Value} {od23 an23 : Option Addr} {sl23 : Array (Option Value)} {f23 : Addr}
    (a23 : PySem.W.nsIn K mainGlobals "_law_counts" = some (some (.ref f23)))
    (l23 : K.lookup f23 = some ⟨oc23, od23, .func (PySem.W.fnOf "_law_counts" "_law_counts" (defArgs s_law_counts) (defBody s_law_counts) (defScope s_law_counts) .none kV23 doc23 pm23 an23 cd23 ct23), sl23⟩) (cc23 : PySem.W.codeIn K cd23 "_law_counts" = true) (k23 : PySem.W.keepIn K (.ref f23) = true)
    {oc24 kV24 doc24 pm24 cd24 ct24 : Value} {od24 an24 : Option Addr} {sl24 : Array (Option Value)} {f24 : Addr}
    (a24 : PySem.W.nsIn K mainGlobals "_law_refusal" = some (some (.ref f24)))
    (l24 : K.lookup f24 = some ⟨oc24, od24, .func (PySem.W.fnOf "_law_refusal" "_law_refusal" (defArgs s_law_refusal) (defBody s_law_refusal) (defScope s_law_refusal) .none kV24 doc24 pm24 an24 cd24 ct24), sl24⟩) (cc24 : PySem.W.codeIn K cd24 "_law_refusal" = true) (k24 : PySem.W.keepIn K (.ref f24) = true)
    {oc25 kV25 doc25 pm25 cd25 ct25 : Value} {od25 an25 : Option Addr} {sl25 : Array (Option Value)} {f25 : Addr}
    (a25 : PySem.W.nsIn K mainGlobals "_law_border" = some (some (.ref f25)))
    (l25 : K.lookup f25 = some ⟨oc25, od25, .func (PySem.W.fnOf "_law_border" "_law_border" (defArgs s_law_border) (defBody s_law_border) (defScope s_law_border) .none kV25 doc25 pm25 an25 cd25 ct25), sl25⟩) (cc25 : PySem.W.codeIn K cd25 "_law_border" = true) (k25 : PySem.W.keepIn K (.ref f25) = true)
    {oc26 kV26 doc26 pm26 cd26 ct26 : Value} {od26 an26 : Option Addr} {sl26 : Array (Option Value)} {f26 : Addr}
    (a26 : PySem.W.nsIn K mainGlobals "_law_nothing_new" = some (some (.ref f26)))
    (l26 : K.lookup f26 = some ⟨oc26, od26, .func (PySem.W.fnOf "_law_nothing_new" "_law_nothing_new" (defArgs s_law_nothing_new) (defBody s_law_nothing_new) (defScope s_law_nothing_new) .none kV26 doc26 pm26 an26 cd26 ct26), sl26⟩) (cc26 : PySem.W.codeIn K cd26 "_law_nothing_new" = true) (k26 : PySem.W.keepIn K (.ref f26) = true)
    {oc27 kV27 doc27 pm27 cd27 ct27 : Value} {od27 an27 : Option Addr} {sl27 : Array (Option Value)} {f27 : Addr}
    (a27 : PySem.W.nsIn K mainGlobals "law" = some (some (.ref f27)))
    (l27 : K.lookup f27 = some ⟨oc27, od27, .func (PySem.W.fnOf "law" "law" (defArgs s_law) (defBody s_law) (defScope s_law) .none kV27 doc27 pm27 an27 cd27 ct27), sl27⟩) (cc27 : PySem.W.codeIn K cd27 "law" = true) (k27 : PySem.W.keepIn K (.ref f27) = true)
    (z_len : PySem.W.nsIn K mainGlobals "len" = some none)
    (z_int : PySem.W.nsIn K mainGlobals "int" = some none)
    (z_str : PySem.W.nsIn K mainGlobals "str" = some none)
    (z_bool : PySem.W.nsIn K mainGlobals "bool" = some none)
    (z_list : PySem.W.nsIn K mainGlobals "list" = some none)
    (z_tuple : PySem.W.nsIn K mainGlobals "tuple" = some none)
    (z_range : PySem.W.nsIn K mainGlobals "range" = some none)
    (z_isinstance : PySem.W.nsIn K mainGlobals "isinstance" = some none)
    (z_ord : PySem.W.nsIn K mainGlobals "ord" = some none)
    (z_all : PySem.W.nsIn K mainGlobals "all" = some none)
    {t_FACTOR : Tok} (v_FACTOR : PySem.W.nsIn K mainGlobals "_FACTOR" = some (some (.int 65599 t_FACTOR)))
    {t_DIVISOR : Tok} (v_DIVISOR : PySem.W.nsIn K mainGlobals "_DIVISOR" = some (some (.int 2361183241434822606617 t_DIVISOR)))
    {t_DIGEST_LENGTH : Tok} (v_DIGEST_LENGTH : PySem.W.nsIn K mainGlobals "DIGEST_LENGTH" = some (some (.int 18 t_DIGEST_LENGTH)))
    {t_DIGITS : Tok} (v_DIGITS : PySem.W.nsIn K mainGlobals "_DIGITS" = some (some (.str "0123456789" t_DIGITS)))
    {t_MOST_NAME : Tok} (v_MOST_NAME : PySem.W.nsIn K mainGlobals "_MOST_NAME" = some (some (.int 12 t_MOST_NAME)))
    {t_BARRED_CODE : Tok} (v_BARRED_CODE : PySem.W.nsIn K mainGlobals "_BARRED_CODE" = some (some (.int 37 t_BARRED_CODE)))
    {t_MOST_DIGITS : Tok} (v_MOST_DIGITS : PySem.W.nsIn K mainGlobals "MOST_DIGITS" = some (some (.int 20 t_MOST_DIGITS)))
    {t_MOST_DEPTH : Tok} (v_MOST_DEPTH : PySem.W.nsIn K mainGlobals "MOST_DEPTH" = some (some (.int 8 t_MOST_DEPTH)))
    {t_MOST_TEXT : Tok} (v_MOST_TEXT : PySem.W.nsIn K mainGlobals "MOST_TEXT" = some (some (.int 100000 t_MOST_TEXT)))
    {t_MOST_SEALS : Tok} (v_MOST_SEALS : PySem.W.nsIn K mainGlobals "MOST_SEALS" = some (some (.int 32 t_MOST_SEALS)))
    {C_BadKey : Addr} (g_BadKey : PySem.W.nsIn K mainGlobals "BadKey" = some (some (.ref C_BadKey))) (e_BadKey : PySem.W.excIn K C_BadKey [.type "ValueError", .type "Exception", .type "BaseException", .type "object"] "ValueError.__new__" = true) (ke_BadKey : PySem.W.keepIn K (.ref C_BadKey) = true) (be_BadKey : PySem.W.subIn K (.ref C_BadKey) (.type "BaseException") = some true) (te_BadKey : PySem.W.typeIn K (.ref C_BadKey) = some (.type "type")) (ie_BadKey : PySem.W.isClsIn K C_BadKey = true) (se_BadKey : PySem.W.subIn K (.ref C_BadKey) (.ref C_BadKey) = some true)
    {C_BadText : Addr} (g_BadText : PySem.W.nsIn K mainGlobals "BadText" = some (some (.ref C_BadText))) (e_BadText : PySem.W.excIn K C_BadText [.type "ValueError", .type "Exception", .type "BaseException", .type "object"] "ValueError.__new__" = true) (ke_BadText : PySem.W.keepIn K (.ref C_BadText) = true) (be_BadText : PySem.W.subIn K (.ref C_BadText) (.type "BaseException") = some true) (te_BadText : PySem.W.typeIn K (.ref C_BadText) = some (.type "type")) (ie_BadText : PySem.W.isClsIn K C_BadText = true) (se_BadText : PySem.W.subIn K (.ref C_BadText) (.ref C_BadText) = some true)
    (z_sorted : PySem.W.nsIn K mainGlobals "sorted" = some none) (z_set : PySem.W.nsIn K mainGlobals "set" = some none)
    {C2 : Addr} (g_ChartError : PySem.W.nsIn K mainGlobals "ChartError" = some (some (.ref C2))) (xk1 : PySem.W.kitOne K (.ref C_BadKey) (.ref C_BadText) = some false) (xk2 : PySem.W.kitOne K (.ref C_BadKey) (.ref C2) = some true) (xk3 : PySem.W.kitOne K (.ref C_BadText) (.ref C_BadKey) = some false) (xk4 : PySem.W.kitOne K (.ref C_BadText) (.ref C2) = some true) (xx1 : PySem.W.exmOne K (.ref C_BadText) (.ref C_BadKey) = some false) (xeK : ExcC K C_BadKey) (xeT : ExcC K C_BadText)
    {dd2 : DefRec} {cK2 : Value} {dc2 : Option Addr} {vs2 : Array Value} {sc2 : Array (Option Value)} (t1_2 : K.lookup c2 = some ⟨cK2, dc2, .fields vs2, sc2⟩) (u1_2 : vs2[11]? = some (.ref Pt2)) (n1_2 : K.lookup Pt2 = none) (r1_2 : (recsOf q).find? (fun e : DefRec => e.name == PySem.Str.ofString "_consists_of") = some dd2)
    {dd3 : DefRec} {cK3 : Value} {dc3 : Option Addr} {vs3 : Array Value} {sc3 : Array (Option Value)} (t1_3 : K.lookup c3 = some ⟨cK3, dc3, .fields vs3, sc3⟩) (u1_3 : vs3[11]? = some (.ref Pt3)) (n1_3 : K.lookup Pt3 = none) (r1_3 : (recsOf q).find? (fun e : DefRec => e.name == PySem.Str.ofString "is_printable") = some dd3)
    {dd10 : DefRec} {cK10 : Value} {dc10 : Option Addr} {vs10 : Array Value} {sc10 : Array (Option Value)} (t1_10 : K.lookup c10 = some ⟨cK10, dc10, .fields vs10, sc10⟩) (u1_10 : vs10[11]? = some (.ref Pt10)) (n1_10 : K.lookup Pt10 = none) (r1_10 : (recsOf q).find? (fun e : DefRec => e.name == PySem.Str.ofString "_different_keys") = some dd10) :
    LamX.LawAtS l w K CX0 27 63 "script" mg fa h := by
  have e := hfa.symm.trans (PySem.W.mg_of X G a27)
  cases e
  have F0 := fun_mk (st := s_digest) l0 cc0 k0
  have b0 := F0.binds (ps := ["text"]) fun _ _ _ _ _ _ us hl => match us, hl with | [_], _ => rfl
  have F1 := fun_mk (st := s_is_key) l1 cc1 k1
  have b1 := F1.binds (ps := ["value"]) fun _ _ _ _ _ _ us hl => match us, hl with | [_], _ => rfl
  have F2 := fun_mk (st := s_consists_of) l2 cc2 k2
  have b2 := F2.binds (ps := ["text", "marks"]) fun _ _ _ _ _ _ us hl => match us, hl with | [_, _], _ => rfl
  have F3 := fun_mk (st := s_is_printable) l3 cc3 k3
  have b3 := F3.binds (ps := ["value"]) fun _ _ _ _ _ _ us hl => match us, hl with | [_], _ => rfl
  have F4 := fun_mk (st := s_is_integer) l4 cc4 k4
  have b4 := F4.binds (ps := ["value", "least", "greatest"]) fun _ _ _ _ _ _ us hl => match us, hl with | [_, _, _], _ => rfl
  have F5 := fun_mk (st := s_encode) l5 cc5 k5
  have b5 := F5.binds (ps := ["value"]) fun _ _ _ _ _ _ us hl => match us, hl with | [_], _ => rfl
  have F6 := fun_mk (st := s_text_of) l6 cc6 k6
  have b6 := F6.binds (ps := ["value", "levels"]) fun _ _ _ _ _ _ us hl => match us, hl with | [_, _], _ => rfl
  have F7 := fun_mk (st := s_tuple_text) l7 cc7 k7
  have b7 := F7.binds (ps := ["parts", "levels"]) fun _ _ _ _ _ _ us hl => match us, hl with | [_, _], _ => rfl
  have F8 := fun_mk (st := s_greatest_integer) l8 cc8 k8
  have b8 := F8.binds (ps := []) fun _ _ _ _ _ _ us hl => match us, hl with | [], _ => rfl
  have F9 := fun_mk (st := s_seal) l9 cc9 k9
  have b9 := F9.binds (ps := ["office", "text", "keys"]) fun _ _ _ _ _ _ us hl => match us, hl with | [_, _, _], _ => rfl
  have F10 := fun_mk (st := s_different_keys) l10 cc10 k10
  have b10 := F10.binds (ps := ["keys"]) fun _ _ _ _ _ _ us hl => match us, hl with | [_], _ => rfl
  have F11 := fun_mk (st := s_Seals___init) l11 cc11 k11
  have b11 := F11.binds (ps := ["self"]) fun _ _ _ _ _ _ us hl => match us, hl with | [_], _ => rfl
  have F12 := fun_mk (st := s_Seals_make) l12 cc12 k12
  have b12 := F12.binds (ps := ["self", "key", "text"]) fun _ _ _ _ _ _ us hl => match us, hl with | [_, _, _], _ => rfl
  have F13 := fun_mk (st := s_Seals_holds) l13 cc13 k13
  have b13 := F13.binds (ps := ["self", "key", "text", "mark"]) fun _ _ _ _ _ _ us hl => match us, hl with | [_, _, _, _], _ => rfl
  have F14 := fun_mk (st := s_Seals_count) l14 cc14 k14
  have b14 := F14.binds (ps := ["self"]) fun _ _ _ _ _ _ us hl => match us, hl with | [_], _ => rfl
  have F15 := fun_mk (st := s_law_cell) l15 cc15 k15
  have b15 := F15.binds (ps := ["script", "k"]) fun _ _ _ _ _ _ us hl => match us, hl with | [_, _], _ => rfl
  have F16 := fun_mk (st := s_law_stream) l16 cc16 k16
  have b16 := F16.binds (ps := ["cell"]) fun _ _ _ _ _ _ us hl => match us, hl with | [_], _ => rfl
  have F17 := fun_mk (st := s_law_take) l17 cc17 k17
  have b17 := F17.binds (ps := ["stream", "many"]) fun _ _ _ _ _ _ us hl => match us, hl with | [_, _], _ => rfl
  have F18 := fun_mk (st := s_law_char) l18 cc18 k18
  have b18 := F18.binds (ps := ["k"]) fun _ _ _ _ _ _ us hl => match us, hl with | [_], _ => rfl
  have F19 := fun_mk (st := s_law_string) l19 cc19 k19
  have b19 := F19.binds (ps := ["stream", "most"]) fun _ _ _ _ _ _ us hl => match us, hl with | [_, _], _ => rfl
  have F20 := fun_mk (st := s_law_digest) l20 cc20 k20
  have b20 := F20.binds (ps := ["text"]) fun _ _ _ _ _ _ us hl => match us, hl with | [_], _ => rfl
  have F21 := fun_mk (st := s_law_says) l21 cc21 k21
  have b21 := F21.binds (ps := ["actual", "expected"]) fun _ _ _ _ _ _ us hl => match us, hl with | [_, _], _ => rfl
  have F22 := fun_mk (st := s_law_mark) l22 cc22 k22
  have b22 := F22.binds (ps := ["key", "text"]) fun _ _ _ _ _ _ us hl => match us, hl with | [_, _], _ => rfl
  have F23 := fun_mk (st := s_law_counts) l23 cc23 k23
  have b23 := F23.binds (ps := ["actual", "expected"]) fun _ _ _ _ _ _ us hl => match us, hl with | [_, _], _ => rfl
  have F24 := fun_mk (st := s_law_refusal) l24 cc24 k24
  have b24 := F24.binds (ps := ["office", "text", "keys"]) fun _ _ _ _ _ _ us hl => match us, hl with | [_, _, _], _ => rfl
  have F25 := fun_mk (st := s_law_border) l25 cc25 k25
  have b25 := F25.binds (ps := ["office", "keys", "count", "more"]) fun _ _ _ _ _ _ us hl => match us, hl with | [_, _, _, _], _ => rfl
  have F26 := fun_mk (st := s_law_nothing_new) l26 cc26 k26
  have b26 := F26.binds (ps := ["office", "keys", "text"]) fun _ _ _ _ _ _ us hl => match us, hl with | [_, _, _], _ => rfl
  have F27 := fun_mk (st := s_law) l27 cc27 k27
  have b27 := F27.binds (ps := ["script"]) fun _ _ _ _ _ _ us hl => match us, hl with | [_], _ => rfl
  have B : Blt mg := ⟨PySem.W.mg_none_of X G z_len, PySem.W.mg_none_of X G z_int, PySem.W.mg_none_of X G z_str, PySem.W.mg_none_of X G z_bool, PySem.W.mg_none_of X G z_list, PySem.W.mg_none_of X G z_tuple, PySem.W.mg_none_of X G z_range, PySem.W.mg_none_of X G z_isinstance, PySem.W.mg_none_of X G z_ord, PySem.W.mg_none_of X G z_all⟩
  have cl_Seals : Cls K C_Seals := ⟨pg_Seals, hd_Seals, po_Seals, sa_Seals⟩
  have E_BadKey : Err K mg "BadKey" C_BadKey := ⟨PySem.W.mg_of X G g_BadKey, e_BadKey, ke_BadKey, be_BadKey, te_BadKey, ie_BadKey, se_BadKey⟩
  have E_BadText : Err K mg "BadText" C_BadText := ⟨PySem.W.mg_of X G g_BadText, e_BadText, ke_BadText, be_BadText, te_BadText, ie_BadText, se_BadText⟩
  obtain ⟨hC2, hP2⟩ := tab_mk T X r1_2 a2 l2 rfl t1_2 u1_2
  obtain ⟨hC3, hP3⟩ := tab_mk T X r1_3 a3 l3 rfl t1_3 u1_3
  obtain ⟨hC10, hP10⟩ := tab_mk T X r1_10 a10 l10 rfl t1_10 u1_10
  have each : ∀ {φ : Addr × Addr → Prop}, φ (c2, Pt2) → φ (c3, Pt3) → φ (c10, Pt10) → ∀ p ∈ ([(c2, Pt2), (c3, Pt3), (c10, Pt10)] : List (Addr × Addr)), φ p := fun h2 h3 h10 p hp => by
    simp only [List.mem_cons, List.not_mem_nil, or_false] at hp
    rcases hp with rfl | rfl | rfl
    · exact h2
    · exact h3
    · exact h10
  have eachT : ∀ {φ : Addr → Prop}, φ Pt2 → φ Pt3 → φ Pt10 → ∀ p ∈ ([Pt2, Pt3, Pt10] : List Addr), φ p := fun h2 h3 h10 p hp => by
    simp only [List.mem_cons, List.not_mem_nil, or_false] at hp
    rcases hp with rfl | rfl | rfl
    · exact h2
    · exact h3
    · exact h10
  have m_Pt2 : Pt2 ∈ ([Pt2, Pt3, Pt10] : List Addr) := List.mem_cons_self
  have m_Pt3 : Pt3 ∈ ([Pt2, Pt3, Pt10] : List Addr) := List.mem_cons_of_mem _ (List.mem_cons_self)
  have m_Pt10 : Pt10 ∈ ([Pt2, Pt3, Pt10] : List Addr) := List.mem_cons_of_mem _ (List.mem_cons_of_mem _ (List.mem_cons_self))
  refine ⟨PySem.W.fnOf "law" "law" (defArgs s_law) (defBody s_law) (defScope s_law) .none kV27 doc27 pm27 an27 cd27 ct27, [(c2, Pt2), (c3, Pt3), (c10, Pt10)], spLaw K ([Pt2, Pt3, Pt10]), each hP2 hP3 hP10, each n1_2 n1_3 n1_10, each hC2 hC3 hC10, fun s v => .of_eq rfl, fun H a ns hl hb ht hS => ?_, fun base KB GB TBs => ?_⟩
  · have g : Tabs ([Pt2, Pt3, Pt10]) H := eachT ⟨#[], ht (c2, Pt2) (List.mem_cons_self), True.intro⟩ ⟨#[], ht (c3, Pt3) (List.mem_cons_of_mem _ (List.mem_cons_self)), True.intro⟩ ⟨#[], ht (c10, Pt10) (List.mem_cons_of_mem _ (List.mem_cons_of_mem _ (List.mem_cons_self))), True.intro⟩
    exact ⟨a, ns, rfl, hS, g, fun _ => rfl⟩
  have TB2 : GxR.TabB base mg c2 Pt2 := let z := TBs (c2, Pt2) (List.mem_cons_self); ⟨z.code, z.bm, z.gP⟩
  have TB3 : GxR.TabB base mg c3 Pt3 := let z := TBs (c3, Pt3) (List.mem_cons_of_mem _ (List.mem_cons_self)); ⟨z.code, z.bm, z.gP⟩
  have TB10 : GxR.TabB base mg c10 Pt10 := let z := TBs (c10, Pt10) (List.mem_cons_of_mem _ (List.mem_cons_of_mem _ (List.mem_cons_self))); ⟨z.code, z.bm, z.gP⟩
  have c_law_cell : Cal l.prog w K mg base CX0 (1) "_law_cell" (spCell K) := ⟨⟨f15, _, _, ok_cell F15 B, PySem.W.mg_of X G a15, k15, b15⟩⟩
  have c_law_stream : Cal l.prog w K mg base CX0 (1) "_law_stream" (spStream) := ⟨⟨f16, _, _, ok_stream F16 B, PySem.W.mg_of X G a16, k16, b16⟩⟩
  have c_law_take : Cal l.prog w K mg base CX0 (1) "_law_take" (spTake) := ⟨⟨f17, _, _, ok_take F17 B, PySem.W.mg_of X G a17, k17, b17⟩⟩
  have c_law_char : Cal l.prog w K mg base CX0 (1) "_law_char" (spChar) := ⟨⟨f18, _, _, ok_char F18, PySem.W.mg_of X G a18, k18, b18⟩⟩
  have c_law_string : Cal l.prog w K mg base CX0 (2) "_law_string" (spString) := ⟨⟨f19, _, _, ok_string F19 B c_law_take c_law_char, PySem.W.mg_of X G a19, k19, b19⟩⟩
  have c_law_digest : Cal l.prog w K mg base CX0 (1) "_law_digest" (spLDig) := ⟨⟨f20, _, _, ok_ldig F20 B, PySem.W.mg_of X G a20, k20, b20⟩⟩
  have c_law_says : Cal l.prog w K mg base CX0 (1) "_law_says" (spSays) := ⟨⟨f21, _, _, ok_says F21 B, PySem.W.mg_of X G a21, k21, b21⟩⟩
  have c_law_mark : Cal l.prog w K mg base CX0 (2) "_law_mark" (spLMark) := ⟨⟨f22, _, _, ok_lmark F22 B c_law_digest, PySem.W.mg_of X G a22, k22, b22⟩⟩
  have c_law_counts : Cal l.prog w K mg base CX0 (1) "_law_counts" (spCounts) := ⟨⟨f23, _, _, ok_counts F23 B, PySem.W.mg_of X G a23, k23, b23⟩⟩
  have D : DgC mg := ⟨⟨_, PySem.W.mg_of X G v_FACTOR⟩, ⟨_, PySem.W.mg_of X G v_DIVISOR⟩, ⟨_, PySem.W.mg_of X G v_DIGEST_LENGTH⟩⟩
  have DN : NmC mg := ⟨⟨_, PySem.W.mg_of X G v_DIGITS⟩, ⟨_, PySem.W.mg_of X G v_MOST_NAME⟩⟩
  have c_digest : Cal l.prog w K mg base CX0 (1) "digest" (spDigest) := ⟨⟨f0, _, _, ok_digest F0 B D, PySem.W.mg_of X G a0, k0, b0⟩⟩
  have c_consists_of : Cal l.prog w K mg base CX0 (3) "_consists_of" (spCons Pt2) := ⟨⟨f2, _, _, ok_consists B TB2 l2 cc2, PySem.W.mg_of X G a2, k2, b2⟩⟩
  have c_is_key : Cal l.prog w K mg base CX0 (4) "is_key" (spNm kyV Pt2) := ⟨⟨f1, _, _, ok_key F1 B DN c_consists_of, PySem.W.mg_of X G a1, k1, b1⟩⟩
  have c_is_printable : Cal l.prog w K mg base CX0 (3) "is_printable" (spPrn Pt3) := ⟨⟨f3, _, _, ok_printable B (PySem.W.mg_of X G v_BARRED_CODE) TB3 l3 cc3, PySem.W.mg_of X G a3, k3, b3⟩⟩
  have TS : SlC K mg C_Seals C_BadKey C_BadText := ⟨cl_Seals, na_marks_Seals, E_BadKey, E_BadText⟩
  have k_Seals : CalK l.prog w K mg base CX0 (1) C_Seals "Seals" (spInit C_Seals) := ⟨⟨f11, _, _, ok_sinit F11 TS, ⟨mk_Seals, a11, i11, kc_Seals⟩, b11⟩, PySem.W.mg_of X G aC_Seals⟩
  have m_make : CalM l.prog w K mg base (L2.CX l.prog w) (5) C_Seals "make" (spMake C_Seals C_BadKey C_BadText ([Pt2, Pt3, Pt10])) := ⟨⟨f12, _, _, ok_smake F12 B TS m_Pt3 m_Pt2 c_is_key c_is_printable c_digest, ⟨a12, i12, k12⟩, b12⟩, cl_Seals⟩
  have m_holds : CalM l.prog w K mg base CX0 (1) C_Seals "holds" (spHolds C_Seals) := ⟨⟨f13, _, _, ok_sholds F13 B TS, ⟨a13, i13, k13⟩, b13⟩, cl_Seals⟩
  have m_count : CalM l.prog w K mg base CX0 (1) C_Seals "count" (spCount C_Seals) := ⟨⟨f14, _, _, ok_scount F14 B TS, ⟨a14, i14, k14⟩, b14⟩, cl_Seals⟩
  have TX : TxtC K mg C_BadText t_MOST_DIGITS t_MOST_DEPTH t_MOST_TEXT := ⟨E_BadText, PySem.W.mg_of X G v_MOST_DIGITS, PySem.W.mg_of X G v_MOST_DEPTH, PySem.W.mg_of X G v_MOST_TEXT⟩
  have c_is_integer : Cal l.prog w K mg base CX0 (1) "is_integer" (spIntg) := ⟨⟨f4, _, _, ok_integer F4 B, PySem.W.mg_of X G a4, k4, b4⟩⟩
  have c_greatest_integer : Cal l.prog w K mg base CX0 (1) "_greatest_integer" (spGreat) := ⟨⟨f8, _, _, ok_great F8 B TX, PySem.W.mg_of X G a8, k8, b8⟩⟩
  have r_tuple : ∀ n : Nat, Cal l.prog w K mg base (L2.CX l.prog w) (2 * n + 4) "_tuple_text" (spTup C_BadText Pt3 n) := by
    intro n
    induction n with
    | zero => exact ⟨⟨f7, _, _, ok_tuple0 F7 B TX, PySem.W.mg_of X G a7, k7, b7⟩⟩
    | succ n ih =>
      have c1 : Cal l.prog w K mg base (L2.CX l.prog w) (2 * n + 5) "_text_of" (spText C_BadText Pt3 n) := ⟨⟨f6, _, _, ok_text_of (by omega) F6 B TX c_is_printable c_is_integer c_greatest_integer ih, PySem.W.mg_of X G a6, k6, b6⟩⟩
      exact ⟨⟨f7, _, _, ok_tuple (by omega) F7 B TX c1, PySem.W.mg_of X G a7, k7, b7⟩⟩
  have c_text8 : Cal l.prog w K mg base (L2.CX l.prog w) (21) "_text_of" (spText C_BadText Pt3 8) := ⟨⟨f6, _, _, ok_text_of (by omega) F6 B TX c_is_printable c_is_integer c_greatest_integer (r_tuple 8), PySem.W.mg_of X G a6, k6, b6⟩⟩
  have c_encode : Cal l.prog w K mg base (L2.CX l.prog w) (23) "encode" (spEnc C_BadText Pt3) := ⟨⟨f5, _, _, ok_encode F5 B TX (c_text8.mono (by decide)), PySem.W.mg_of X G a5, k5, b5⟩⟩
  have c_different_keys : Cal l.prog w K mg base (L2.CX l.prog w) (8) "_different_keys" (spDiff C_BadKey K ([Pt2, Pt3, Pt10])) := ⟨⟨f10, _, _, ok_diff B (PySem.W.mg_none_of X G z_sorted) (PySem.W.mg_none_of X G z_set) TB10 ⟨⟨_, PySem.W.mg_of X G v_MOST_SEALS⟩⟩ TS m_Pt10 m_Pt2 l10 cc10 c_is_key, PySem.W.mg_of X G a10, k10, b10⟩⟩
  have c_seal : Cal l.prog w K mg base (L2.CX l.prog w) (24) "seal" (spSeal2 C_Seals C_BadKey C_BadText K ([Pt2, Pt3, Pt10])) := ⟨⟨f9, _, _, ok_seal2 F9 B D TS m_Pt3 c_different_keys c_is_printable c_encode m_make, PySem.W.mg_of X G a9, k9, b9⟩⟩
  have c_law_refusal : Cal l.prog w K mg base CX0 (25) "_law_refusal" (spRefus C_Seals C_BadKey C_BadText K ([Pt2, Pt3, Pt10])) := ⟨⟨f24, _, _, ok_refusal F24 B TS xeK xeT (PySem.W.mg_of X G g_ChartError) xk1 xk2 xk3 xk4 xx1 c_seal, PySem.W.mg_of X G a24, k24, b24⟩⟩
  have c_law_border : Cal l.prog w K mg base CX0 (26) "_law_border" (spBord C_Seals ([Pt2, Pt3, Pt10])) := ⟨⟨f25, _, _, ok_border F25 B c_law_counts c_law_refusal m_count, PySem.W.mg_of X G a25, k25, b25⟩⟩
  have c_law_nothing_new : Cal l.prog w K mg base CX0 (4) "_law_nothing_new" (spNew C_Seals K) := ⟨⟨f26, _, _, ok_nothing_new F26 B c_law_counts c_law_says c_law_mark m_holds m_count, PySem.W.mg_of X G a26, k26, b26⟩⟩
  exact ok_law F27 B TS c_law_cell c_law_stream c_law_take c_law_string c_law_counts c_seal c_law_refusal c_law_border c_law_nothing_new k_Seals m_count
end SC
open PySem PySem.W PyProof.Rows
set_option maxRecDepth 100000 in
set_option maxHeartbeats 0 in
theorem PySem.Challenge.cw_sealchart_k15_what_seal_refuses_holds : PySem.Challenge.rw_sealchart_k15_what_seal_refuses.Holds := by
  w_on; o_law; k_head; (case hw => w_witness2)
  k_fill
  refine SC.walk_tab (l := PySem.Challenge.rw_sealchart_k15_what_seal_refuses) (CX := fun _ => L2.CX0) (k := 27) (n := 63) (x := "script") rfl (by decide) rfl ⟨rfl, by decide, by decide⟩ (fun w h Y => PySem.W.kIn_of Y) (fun _ _ _ _ _ z => z) ?F
  case F =>
    intro w mg mb lo mean fa h T KX G hmg
    refine' SC.all_mk T KX G hmg ?aC_Seals ?pg_Seals ?hd_Seals ?po_Seals ?sa_Seals ?mk_Seals ?kc_Seals ?na_marks_Seals ?a0 ?l0 ?cc0 ?k0 ?a1 ?l1 ?cc1 ?k1 ?a2 ?l2 ?cc2 ?k2 ?a3 ?l3 ?cc3 ?k3 ?a4 ?l4 ?cc4 ?k4 ?a5 ?l5 ?cc5 ?k5 ?a6 ?l6 ?cc6 ?k6 ?a7 ?l7 ?cc7 ?k7 ?a8 ?l8 ?cc8 ?k8 ?a9 ?l9 ?cc9 ?k9 ?a10 ?l10 ?cc10 ?k10 ?a11 ?i11 ?l11 ?cc11 ?k11 ?a12 ?i12 ?l12 ?cc12 ?k12 ?a13 ?i13 ?l13 ?cc13 ?k13 ?a14 ?i14 ?l14 ?cc14 ?k14 ?a15 ?l15 ?cc15 ?k15 ?a16 ?l16 ?cc16 ?k16 ?a17 ?l17 ?cc17 ?k17 ?a18 ?l18 ?cc18 ?k18 ?a19 ?l19 ?cc19 ?k19 ?a20 ?l20 ?cc20 ?k20 ?a21 ?l21 ?cc21 ?k21 ?a22 ?l22 ?cc22 ?k22 ?a23 ?l23 ?cc23 ?k23 ?a24 ?l24 ?cc24 ?k24 ?a25 ?l25 ?cc25 ?k25 ?a26 ?l26 ?cc26 ?k26 ?a27 ?l27 ?cc27 ?k27 ?z_len ?z_int ?z_str ?z_bool ?z_list ?z_tuple ?z_range ?z_isinstance ?z_ord ?z_all ?v_FACTOR ?v_DIVISOR ?v_DIGEST_LENGTH ?v_DIGITS ?v_MOST_NAME ?v_BARRED_CODE ?v_MOST_DIGITS ?v_MOST_DEPTH ?v_MOST_TEXT ?v_MOST_SEALS ?g_BadKey ?e_BadKey ?ke_BadKey ?be_BadKey ?te_BadKey ?ie_BadKey ?se_BadKey ?g_BadText ?e_BadText ?ke_BadText ?be_BadText ?te_BadText ?ie_BadText ?se_BadText ?z_sorted ?z_set ?g_ChartError ?xk1 ?xk2 ?xk3 ?xk4 ?xx1 ?xeK ?xeT ?t1_2 ?u1_2 ?n1_2 ?r1_2 ?t1_3 ?u1_3 ?n1_3 ?r1_3 ?t1_10 ?u1_10 ?n1_10 ?r1_10
    (case aC_Seals => k_is)
    (case pg_Seals => k_is)
    (case hd_Seals => k_is)
    (case po_Seals => k_is)
    (case sa_Seals => k_is)
    (case mk_Seals => k_is)
    (case kc_Seals => k_is)
    (case na_marks_Seals => k_is)
    (case a0 => k_is)
    (case l0 => k_is)
    (case cc0 => k_is)
    (case k0 => k_is)
    (case a1 => k_is)
    (case l1 => k_is)
    (case cc1 => k_is)
    (case k1 => k_is)
    (case a2 => k_is)
    (case l2 => k_is)
    (case cc2 => k_is)
    (case k2 => k_is)
    (case a3 => k_is)
    (case l3 => k_is)
    (case cc3 => k_is)
    (case k3 => k_is)
    (case a4 => k_is)
    (case l4 => k_is)
    (case cc4 => k_is)
    (case k4 => k_is)
    (case a5 => k_is)
    (case l5 => k_is)
    (case cc5 => k_is)
    (case k5 => k_is)
    (case a6 => k_is)
    (case l6 => k_is)
    (case cc6 => k_is)
    (case k6 => k_is)
    (case a7 => k_is)
    (case l7 => k_is)
    (case cc7 => k_is)
    (case k7 => k_is)
    (case a8 => k_is)
    (case l8 => k_is)
    (case cc8 => k_is)
    (case k8 => k_is)
    (case a9 => k_is)
    (case l9 => k_is)
    (case cc9 => k_is)
    (case k9 => k_is)
    (case a10 => k_is)
    (case l10 => k_is)
    (case cc10 => k_is)
    (case k10 => k_is)
    (case a11 => k_is)
    (case i11 => k_is)
    (case l11 => k_is)
    (case cc11 => k_is)
    (case k11 => k_is)
    (case a12 => k_is)
    (case i12 => k_is)
    (case l12 => k_is)
    (case cc12 => k_is)
    (case k12 => k_is)
    (case a13 => k_is)
    (case i13 => k_is)
    (case l13 => k_is)
    (case cc13 => k_is)
    (case k13 => k_is)
    (case a14 => k_is)
    (case i14 => k_is)
    (case l14 => k_is)
    (case cc14 => k_is)
    (case k14 => k_is)
    (case a15 => k_is)
    (case l15 => k_is)
    (case cc15 => k_is)
    (case k15 => k_is)
    (case a16 => k_is)
    (case l16 => k_is)
    (case cc16 => k_is)
    (case k16 => k_is)
    (case a17 => k_is)
    (case l17 => k_is)
    (case cc17 => k_is)
    (case k17 => k_is)
    (case a18 => k_is)
    (case l18 => k_is)
    (case cc18 => k_is)
    (case k18 => k_is)
    (case a19 => k_is)
    (case l19 => k_is)
    (case cc19 => k_is)
    (case k19 => k_is)
    (case a20 => k_is)
    (case l20 => k_is)
    (case cc20 => k_is)
    (case k20 => k_is)
    (case a21 => k_is)
    (case l21 => k_is)
    (case cc21 => k_is)
    (case k21 => k_is)
    (case a22 => k_is)
    (case l22 => k_is)
    (case cc22 => k_is)
    (case k22 => k_is)
    (case a23 => k_is)
    (case l23 => k_is)
    (case cc23 => k_is)
    (case k23 => k_is)
    (case a24 => k_is)
    (case l24 => k_is)
    (case cc24 => k_is)
    (case k24 => k_is)
    (case a25 => k_is)
    (case l25 => k_is)
    (case cc25 => k_is)
    (case k25 => k_is)
    (case a26 => k_is)
    (case l26 => k_is)
    (case cc26 => k_is)
    (case k26 => k_is)
    (case a27 => k_is)
    (case l27 => k_is)
    (case cc27 => k_is)
    (case k27 => k_is)
    (case z_len => k_is)
    (case z_int => k_is)
    (case z_str => k_is)
    (case z_bool => k_is)
    (case z_list => k_is)
    (case z_tuple => k_is)
    (case z_range => k_is)
    (case z_isinstance => k_is)
    (case z_ord => k_is)
    (case z_all => k_is)
    (case v_FACTOR => k_is)
    (case v_DIVISOR => k_is)
    (case v_DIGEST_LENGTH => k_is)
    (case v_DIGITS => k_is)
    (case v_MOST_NAME => k_is)
    (case v_BARRED_CODE => k_is)
    (case v_MOST_DIGITS => k_is)
    (case v_MOST_DEPTH => k_is)
    (case v_MOST_TEXT => k_is)
    (case v_MOST_SEALS => k_is)
    (case g_BadKey => k_is)
    (case e_BadKey => first | k_is | kernel_rfl | rfl)
    (case ke_BadKey => k_is)
    (case be_BadKey => first | k_is | kernel_rfl | rfl)
    (case te_BadKey => first | k_is | kernel_rfl | rfl)
    (case ie_BadKey => first | k_is | kernel_rfl | rfl)
    (case se_BadKey => first | k_is | kernel_rfl | rfl)
    (case g_BadText => k_is)
    (case e_BadText => first | k_is | kernel_rfl | rfl)
    (case ke_BadText => k_is)
    (case be_BadText => first | k_is | kernel_rfl | rfl)
    (case te_BadText => first | k_is | kernel_rfl | rfl)
    (case ie_BadText => first | k_is | kernel_rfl | rfl)
    (case se_BadText => first | k_is | kernel_rfl | rfl)
    (case z_sorted => k_is)
    (case z_set => k_is)
    (case g_ChartError => k_is)
    (case xk1 => first | k_is | kernel_rfl | rfl)
    (case xk2 => first | k_is | kernel_rfl | rfl)
    (case xk3 => first | k_is | kernel_rfl | rfl)
    (case xk4 => first | k_is | kernel_rfl | rfl)
    (case xx1 => first | k_is | kernel_rfl | rfl)
    (case xeK => refine ⟨?_, ?_, ?_, ?_, ?_, ?_, ?_, ?_⟩ <;> first | k_is | kernel_rfl | rfl)
    (case xeT => refine ⟨?_, ?_, ?_, ?_, ?_, ?_, ?_, ?_⟩ <;> first | k_is | kernel_rfl | rfl)
    (case t1_2 => k_is)
    (case u1_2 => rfl)
    (case n1_2 => first | kernel_rfl | rfl)
    (case r1_2 => rfl)
    (case t1_3 => k_is)
    (case u1_3 => rfl)
    (case n1_3 => first | kernel_rfl | rfl)
    (case r1_3 => rfl)
    (case t1_10 => k_is)
    (case u1_10 => rfl)
    (case n1_10 => first | kernel_rfl | rfl)
    (case r1_10 => rfl)
--END
