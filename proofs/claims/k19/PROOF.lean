import PyProof.Rows.All
import Wide.All
import OpenK.AllK
import Wide.FinOn
import HandS.ForMost
import HandS.ForExc
import HandS.Wide
import HandS.IsInst
import HandS.AnyAll
import HandS.EndTab
import HandS.TupAny
import HandS.TupMul
import HandS.FStr
import HandS.StrMore
import HandS.WideBits
import KE.KxField
import HandS.Walk
import HandS.Replace
import HandS.Style
import HandS.Codes
import KE.KRevSl
import HandS.GenList
import HandS.TupLen
import HandS.Deep
import HandS.ExcIs
import HandS.ExcOwn
import HandS.Set
import HandS.SetFor
import HandS.SetTxt0
import HandS.Strs
import PyProof.Rows.SortShellAny
import PyProof.SumWalk
import HandS.SortRule
import PyProof.Rows.SortKeyStr
import PySem.Challenge.RW_sealchart_k19_collected_seals
set_option Elab.async false
set_option linter.all false
set_option maxRecDepth 100000
set_option maxHeartbeats 2000000
namespace SC
open PySem L2

/-- the built-in names are the built-ins -/
structure Blt (mg : Str → Option Value) : Prop where
  len : mg "len" = none
  int : mg "int" = none
  str : mg "str" = none
  bool : mg "bool" = none
  list : mg "list" = none
  tuple : mg "tuple" = none
  range : mg "range" = none
  isinstance : mg "isinstance" = none
  ord : mg "ord" = none
  all : mg "all" = none
section
variable {X : Cx} {p p2 pos : Pos} {e : Expr} {es : List Expr} {t : TA}
theorem Blt.len_s (B : Blt X.mg) (ha : PA X (e :: es) t) (hg : Gl X "len" := by rfl) (he : starEach (e :: es) X.env = (false, eval e X.env) :: starEach es X.env := by rfl) (hpl : (backTo pos (starEach es X.env)).any (·.1) = false := by rfl) :
    PE X (.Call (.Name "len" p) (e :: es) [] pos) (tCB (fun xs H Q => ∃ z, xs = [.str z] ∧ z.length ≤ sizeLine ∧ Q (.int z.length) H) t) := pe_callB call_len_str hg B.len PySem.boot_len ha (he := he) (hpl := hpl)
theorem Blt.len_q (B : Blt X.mg) (ha : PA X (e :: es) t) (hg : Gl X "len" := by rfl) (he : starEach (e :: es) X.env = (false, eval e X.env) :: starEach es X.env := by rfl) (hpl : (backTo pos (starEach es X.env)).any (·.1) = false := by rfl) :
    PE X (.Call (.Name "len" p) (e :: es) [] pos) (tCB (fun xs H Q => ∃ p ys, xs = [.ref p] ∧ (SqL X.K H p ys ∨ SqT X.K H p ys) ∧ Q (.int ys.length) H) t) := pe_callB call_len_seq hg B.len PySem.boot_len ha (he := he) (hpl := hpl)
theorem call_intI : CallR X (.type "int") (fun xs H Q => ∃ i, xs = [.int i] ∧ Q (.int i) H) := fun pins s σ H xs us Q I r h => call_int1 pins s σ H xs us Q I r (.inl h)
theorem Blt.int_i (B : Blt X.mg) (ha : PA X (e :: es) t) (hg : Gl X "int" := by rfl) (he : starEach (e :: es) X.env = (false, eval e X.env) :: starEach es X.env := by rfl) (hpl : (backTo pos (starEach es X.env)).any (·.1) = false := by rfl) :
    PE X (.Call (.Name "int" p) (e :: es) [] pos) (tCB (fun xs H Q => ∃ i, xs = [.int i] ∧ Q (.int i) H) t) :=
  pe_callTy call_intI hg B.int (by decide +kernel) ha (he := he) (hpl := hpl)
theorem Blt.int_s (B : Blt X.mg) (ha : PA X (e :: es) t) (hg : Gl X "int" := by rfl) (he : starEach (e :: es) X.env = (false, eval e X.env) :: starEach es X.env := by rfl) (hpl : (backTo pos (starEach es X.env)).any (·.1) = false := by rfl) :
    PE X (.Call (.Name "int" p) (e :: es) [] pos) (tCB (fun xs H Q => ∃ a n, xs = [.str a] ∧ PySem.intText? a = some n ∧ a.length ≤ 640 ∧ Q (.int n) H) t) :=
  pe_callTy call_int_str hg B.int (by decide +kernel) ha (he := he) (hpl := hpl)
theorem Blt.str_i (B : Blt X.mg) (ha : PA X (e :: es) t) (hg : Gl X "str" := by rfl) (he : starEach (e :: es) X.env = (false, eval e X.env) :: starEach es X.env := by rfl) (hpl : (backTo pos (starEach es X.env)).any (·.1) = false := by rfl) :
    PE X (.Call (.Name "str" p) (e :: es) [] pos) (tCB (fun xs H Q => ∃ i, xs = [.int i] ∧ i.natAbs.log2 < 1920 ∧ Q (.str (toString i)) H) t) :=
  pe_callTy call_str_int hg B.str (by decide +kernel) ha (he := he) (hpl := hpl)
theorem Blt.isi (B : Blt X.mg) (ha : PA X (e :: es) t) (hg : Gl X "isinstance" := by rfl) (he : starEach (e :: es) X.env = (false, eval e X.env) :: starEach es X.env := by rfl) (hpl : (backTo pos (starEach es X.env)).any (·.1) = false := by rfl) :
    PE X (.Call (.Name "isinstance" p) (e :: es) [] pos) (tCB (rIsi X.K) t) := pe_callB call_isi hg B.isinstance (by decide +kernel) ha (he := he) (hpl := hpl)
theorem Blt.ord_ (B : Blt X.mg) (ha : PA X (e :: es) t) (hg : Gl X "ord" := by rfl) (he : starEach (e :: es) X.env = (false, eval e X.env) :: starEach es X.env := by rfl) (hpl : (backTo pos (starEach es X.env)).any (·.1) = false := by rfl) :
    PE X (.Call (.Name "ord" p) (e :: es) [] pos) (tCB (fun xs H Q => ∃ x, xs = [.str x] ∧ x.length = 1 ∧ Q (.int (x.cps.getD 0 0 : Nat)) H) t) :=
  pe_callB call_ord hg B.ord (by decide +kernel) ha (he := he) (hpl := hpl)
theorem Blt.tuple_l (B : Blt X.mg) (ha : PA X (e :: es) t) (hg : Gl X "tuple" := by rfl) (he : starEach (e :: es) X.env = (false, eval e X.env) :: starEach es X.env := by rfl) (hpl : (backTo pos (starEach es X.env)).any (·.1) = false := by rfl) :
    PE X (.Call (.Name "tuple" p) (e :: es) [] pos) (tCB (fun xs H Q => ∃ p ys, xs = [.ref p] ∧ ((SqL X.K H p ys ∧ ∀ l, H l = none → Q (.ref l) (upd H l (.tup ys))) ∨ (SqT X.K H p ys ∧ Q (.ref p) H))) t) :=
  pe_callTy call_tuple_of hg B.tuple (by decide +kernel) ha (he := he) (hpl := hpl)
theorem Blt.list_q (B : Blt X.mg) (ha : PA X (e :: es) t) (hg : Gl X "list" := by rfl) (he : starEach (e :: es) X.env = (false, eval e X.env) :: starEach es X.env := by rfl) (hpl : (backTo pos (starEach es X.env)).any (·.1) = false := by rfl) :
    PE X (.Call (.Name "list" p) (e :: es) [] pos) (tCB (fun xs H Q => ∃ p ys, xs = [.ref p] ∧ (SqL X.K H p ys ∨ SqT X.K H p ys) ∧ ∀ l, H l = none → Q (.ref l) (upd H l (.lst ys))) t) :=
  pe_callTy call_list_of hg B.list (by decide +kernel) ha (he := he) (hpl := hpl)
theorem Blt.v_int (B : Blt X.mg) (hg : Gl X "int" := by rfl) : PE X (.Name "int" p) (tC (.ty "int")) := pe_bltn hg B.int (by decide +kernel) rfl
theorem Blt.v_str (B : Blt X.mg) (hg : Gl X "str" := by rfl) : PE X (.Name "str" p) (tC (.ty "str")) := pe_bltn hg B.str (by decide +kernel) rfl
theorem Blt.v_bool (B : Blt X.mg) (hg : Gl X "bool" := by rfl) : PE X (.Name "bool" p) (tC (.ty "bool")) := pe_bltn hg B.bool (by decide +kernel) rfl
theorem Blt.v_list (B : Blt X.mg) (hg : Gl X "list" := by rfl) : PE X (.Name "list" p) (tC (.ty "list")) := pe_bltn hg B.list (by decide +kernel) rfl
theorem Blt.v_tuple (B : Blt X.mg) (hg : Gl X "tuple" := by rfl) : PE X (.Name "tuple" p) (tC (.ty "tuple")) := pe_bltn hg B.tuple (by decide +kernel) rfl
theorem Blt.range1 (B : Blt X.mg) {tg : Expr} (ha : PA X [e] t) (hg : Gl X "range" := by rfl) (hs : starEach [e] X.env = [(false, eval e X.env)] := by rfl) : PI X tg (.Call (.Name "range" p) [e] [] pos) (iRng1 t) := pi_range1 hg B.range ha hs
end

section
variable {X : Cx}
/-- the same rules for what is tracked: the item list is told by the heap -/
theorem ix_lM : IxR X (fun x y H Q => ∃ p xs i v, x = .ref p ∧ H p = some (.lst xs) ∧ y = .int i ∧ atI xs i = some v ∧ Q v H) := by
  intro value slice pins s σ H x y v u Q I rx ry h hs
  obtain ⟨p, xs, i, z, e1, hp, e2, he, q⟩ := h
  exact ix_list value slice pins s σ H x y v u Q I rx ry ⟨p, xs, i, z, e1, e2, SqL.of hp, he, q⟩ hs
theorem ix_tM : IxR X (fun x y H Q => ∃ p xs i v, x = .ref p ∧ H p = some (.tup xs) ∧ y = .int i ∧ atI xs i = some v ∧ Q v H) := by
  intro value slice pins s σ H x y v u Q I rx ry h hs
  obtain ⟨p, xs, i, z, e1, hp, e2, he, q⟩ := h
  exact ix_tup value slice pins s σ H x y v u Q I rx ry ⟨p, xs, i, z, e1, e2, SqT.of hp, he, q⟩ hs
end
/-- a def of the text that keeps its promise, by its name -/
structure Cal (P : Program) (w : World) (K : PySem.W.Frag) (mg : Str → Option Value) (base : Heap) (CX : CXT) (k : Nat) (x : Str) (sp : Sp) : Prop where
  ex : ∃ f fd ps, FnOk P w K mg base CX k f fd ps sp ∧ mg x = some (.ref f) ∧ PySem.W.keepIn K (.ref f) = true ∧ Binds K fd ps []
section
variable {P : Program} {w : World} {K : PySem.W.Frag} {mg : Str → Option Value} {base : Heap} {CX : CXT} {x qual : Str} {sp : Sp}
theorem Cal.mono {j k : Nat} (c : Cal P w K mg base CX j x sp) (h : j ≤ k) : Cal P w K mg base CX k x sp :=
  let ⟨f, fd, ps, F, m, kp, b⟩ := c.ex
  ⟨f, fd, ps, F.mono h, m, kp, b⟩
theorem Cal.imp {k : Nat} {sp' : Sp} (c : Cal P w K mg base CX k x sp) (h : ∀ vs H Q E, sp' vs H Q E → sp vs H Q E) : Cal P w K mg base CX k x sp' :=
  let ⟨f, fd, ps, F, m, kp, b⟩ := c.ex
  ⟨f, fd, ps, F.imp h, m, kp, b⟩
end
section
variable {X : Cx} {x : Str} {p pos : Pos} {e : Expr} {es : List Expr} {t : TA} {sp : Sp} {j k : Nat} {CX : CXT} {E : XK}
/-- its call, what it raises passes as hx says -/
theorem Cal.pex (c : Cal X.prog X.w X.K X.mg X.base CX j x sp) (hr : Room k X.A) (hx : Passes CX X E) (ha : PA X (e :: es) t) (hjk : j ≤ k := by first | decide | omega) (hg : Gl X x := by rfl) (hdb : (x == ("__debug__" : Str)) = false := by decide)
    (he : starEach (e :: es) X.env = (false, eval e X.env) :: starEach es X.env := by rfl) (hpl : (backTo pos (starEach es X.env)).any (·.1) = false := by rfl) :
    PE X (.Call (.Name x p) (e :: es) [] pos) (tCall sp [] E t) :=
  let ⟨_, _, _, F, m, kp, b⟩ := c.ex
  pe_call F (hr.mono hjk) hg m kp b .nil hx ha hdb he hpl
theorem Cal.pe (c : Cal X.prog X.w X.K X.mg X.base CX0 j x sp) (hr : Room k X.A) (ha : PA X (e :: es) t) (hjk : j ≤ k := by first | decide | omega) (hg : Gl X x := by rfl) (hdb : (x == ("__debug__" : Str)) = false := by decide)
    (he : starEach (e :: es) X.env = (false, eval e X.env) :: starEach es X.env := by rfl) (hpl : (backTo pos (starEach es X.env)).any (·.1) = false := by rfl) :
    PE X (.Call (.Name x p) (e :: es) [] pos) (tCall sp [] E0 t) := c.pex hr pass0 ha hjk hg hdb he hpl
theorem Cal.pe0 (c : Cal X.prog X.w X.K X.mg X.base CX0 j x sp) (hr : Room k X.A) (hjk : j ≤ k := by first | decide | omega) (hg : Gl X x := by rfl) (hdb : (x == ("__debug__" : Str)) = false := by decide) :
    PE X (.Call (.Name x p) [] [] pos) (tCall sp [] E0 tNil) :=
  let ⟨_, _, _, F, m, kp, b⟩ := c.ex
  pe_call0 F (hr.mono hjk) hg m kp b .nil pass0 hdb
/-- of a def that may raise, where it does not -/
theorem Cal.peL (c : Cal X.prog X.w X.K X.mg X.base (L2.CX X.prog X.w) j x sp) (hr : Room k X.A) (ha : PA X (e :: es) t) (hjk : j ≤ k := by first | decide | omega) (hg : Gl X x := by rfl) (hdb : (x == ("__debug__" : Str)) = false := by decide)
    (he : starEach (e :: es) X.env = (false, eval e X.env) :: starEach es X.env := by rfl) (hpl : (backTo pos (starEach es X.env)).any (·.1) = false := by rfl) :
    PE X (.Call (.Name x p) (e :: es) [] pos) (tCall sp [] E0 t) := c.pex hr passL ha hjk hg hdb he hpl
end

/-- what was tracked outside S is as it was; tuples stand -/
structure Kp (S : List Addr) (H H' : Hp) : Prop where
  keep : ∀ b o, b ∉ S → H b = some o → H' b = some o
  tup : ∀ b xs, H b = some (.tup xs) → H' b = some (.tup xs)
theorem Kp.refl (S : List Addr) (H : Hp) : Kp S H H := ⟨fun _ _ _ h => h, fun _ _ h => h⟩
theorem Kp.trans {S : List Addr} {H H1 H2 : Hp} (a : Kp S H H1) (b : Kp S H1 H2) : Kp S H H2 := ⟨fun c o n h => b.keep c o n (a.keep c o n h), fun c xs h => b.tup c xs (a.tup c xs h)⟩
theorem Kp.new {S : List Addr} {H : Hp} {p : Addr} (h : H p = none) (o : HO) : Kp S H (upd H p o) :=
  ⟨fun b u _ q => by rw [upd_ne (ne_of_none q h)]; exact q, fun b u q => by rw [upd_ne (ne_of_none q h)]; exact q⟩
theorem Kp.lst {S : List Addr} {H : Hp} {p : Addr} {xs ys : List V} (h : H p = some (.lst xs)) (m : p ∈ S) : Kp S H (upd H p (.lst ys)) :=
  ⟨fun b u n q => by rw [upd_ne (fun z => n (by rw [z]; exact m))]; exact q, fun b u q => by rw [upd_ne (ne_of q h (by intro z; cases z))]; exact q⟩
theorem Kp.mono {S S' : List Addr} {H H' : Hp} (a : Kp S H H') (h : ∀ b ∈ S, b ∈ S') : Kp S' H H' := ⟨fun b o n q => a.keep b o (fun z => n (h b z)) q, a.tup⟩
/-- what was not there may change -/
theorem Kp.drop {S : List Addr} {H H' : Hp} {p : Addr} (h : H p = none) (a : Kp (p :: S) H H') : Kp S H H' :=
  ⟨fun b o n q => a.keep b o (fun z => by
    rcases List.mem_cons.mp z with z | z
    · rw [z, h] at q; cases q
    · exact n z) q, a.tup⟩
theorem Kp.upd {S : List Addr} {H H' : Hp} {p : Addr} {xs ys : List V} (a : Kp S H H') (h : H p = none) (e : H' p = some (.lst xs)) : Kp S H (upd H' p (.lst ys)) :=
  Kp.drop h ((a.mono fun b hb => List.mem_cons_of_mem _ hb).trans (Kp.lst e List.mem_cons_self))
theorem Kp.seqL {K : PySem.W.Frag} {S : List Addr} {H H' : Hp} {a : Addr} {xs : List V} (e : Kp S H H') (n : a ∉ S) (h : SqL K H a xs) : SqL K H' a xs := by
  rcases h with (h | ⟨o, h⟩) | h
  · exact .inl (.inl (e.keep _ _ n h))
  · exact .inl (.inr ⟨o, e.keep _ _ n h⟩)
  · exact .inr h
theorem Kp.tab {P : Addr} {S : List Addr} {H H' : Hp} (hG : GxR.TabG H P) (t : GxR.Tabbed P H H') (m : P ∈ S) : Kp S H H' := by
  obtain ⟨ps, e, _⟩ := hG
  refine ⟨fun b o n q => ?_, fun b xs q => ?_⟩
  · rw [t.2 b (fun z => n (by rw [z]; exact m))]; exact q
  · rw [t.2 b (ne_of q e (by intro z; cases z))]; exact q
/-- a stream of the law's: a list of two ints -/
def Strm (H : Hp) (s : Addr) : Prop := ∃ a b : Int, H s = some (.lst [.int a, .int b])
theorem Strm.mk {H : Hp} {s : Addr} {a b : Int} : Strm (upd H s (.lst [.int a, .int b])) s := ⟨a, b, upd_same⟩
theorem Strm.nT {H : Hp} {s P : Addr} (h : Strm H s) (g : GxR.TabG H P) : s ≠ P := by
  obtain ⟨a, b, e⟩ := h
  obtain ⟨ps, q, _⟩ := g
  exact ne_of e q (by intro z; cases z)
theorem Strm.kp {H H' : Hp} {s : Addr} {S : List Addr} (h : Strm H s) (k : Kp S H H') (n : s ∉ S) : Strm H' s := let ⟨a, b, e⟩ := h; ⟨a, b, k.keep _ _ n e⟩
theorem tabG_kp {H H' : Hp} {P : Addr} {S : List Addr} (h : GxR.TabG H P) (k : Kp S H H') (n : P ∉ S) : GxR.TabG H' P := let ⟨a, e, q⟩ := h; ⟨a, k.keep _ _ n e, q⟩

/-- the built-in type of a value, by the tracked heap -/
def tyN (H : Hp) : V → Option String
  | .non => some "NoneType" | .bl _ => some "bool" | .int _ => some "int" | .str _ => some "str"
  | .ref p => match H p with
    | some (.lst _) => some "list"
    | some (.tup _) => some "tuple"
    | some (.dK _) => some "dict"
    | _ => none
  | _ => none
theorem tyN_ok {K : PySem.W.Frag} {H : Hp} {v : V} {t : String} (h : tyN H v = some t) : TyX K H v (.type t) := by
  cases v with
  | non => cases h; exact .base .non
  | bl b => cases h; exact .base (.bl b)
  | int i => cases h; exact .base (.int i)
  | str z => cases h; exact .base (.str z)
  | ref p =>
    unfold tyN at h
    simp only at h
    split at h
    · rename_i xs e; cases h; exact .base (.lst e)
    · rename_i xs e; cases h; exact .base (.tup e)
    · rename_i xs e; cases h; exact .base (.dK e)
    · cases h
  | _ => cases h
theorem tyN_lst {H : Hp} {p : Addr} {xs : List V} (h : H p = some (.lst xs)) : tyN H (.ref p) = some "list" := by unfold tyN; simp only [h]
theorem tyN_tup {H : Hp} {p : Addr} {xs : List V} (h : H p = some (.tup xs)) : tyN H (.ref p) = some "tuple" := by unfold tyN; simp only [h]
theorem tyN_dK {H : Hp} {p : Addr} {xs : List (Key × V)} (h : H p = some (.dK xs)) : tyN H (.ref p) = some "dict" := by unfold tyN; simp only [h]
/-- whether the first type is one of the second -/
def isaB (t c : String) : Bool := t == c || (t == "bool" && c == "int")
theorem kit_isaB {t c : String} (ht : t ∈ ["NoneType", "bool", "int", "str", "list", "tuple", "dict"]) (hc : c ∈ ["bool", "int", "str", "list", "tuple"]) : kitB t c = some (isaB t c) := by
  simp only [List.mem_cons, List.not_mem_nil, or_false] at ht hc
  rcases ht with rfl | rfl | rfl | rfl | rfl | rfl | rfl <;> rcases hc with rfl | rfl | rfl | rfl | rfl <;> decide +kernel
theorem tyN_in {H : Hp} {v : V} {t : String} (h : tyN H v = some t) : t ∈ ["NoneType", "bool", "int", "str", "list", "tuple", "dict"] := by
  unfold tyN at h
  split at h
  · cases h; decide
  · cases h; decide
  · cases h; decide
  · cases h; decide
  · split at h
    · cases h; decide
    · cases h; decide
    · cases h; decide
    · cases h
  · cases h
section
variable {X : Cx} {p pos : Pos} {e : Expr} {es : List Expr} {t : TA}
/-- len of a tracked tuple, of a tracked list -/
theorem Blt.len_t (B : Blt X.mg) (ha : PA X (e :: es) t) (hg : Gl X "len" := by rfl) (he : starEach (e :: es) X.env = (false, eval e X.env) :: starEach es X.env := by rfl) (hpl : (backTo pos (starEach es X.env)).any (·.1) = false := by rfl) :
    PE X (.Call (.Name "len" p) (e :: es) [] pos) (tCB (fun xs H Q => ∃ p ys, xs = [.ref p] ∧ H p = some (.tup ys) ∧ Q (.int ys.length) H) t) :=
  pe_callB (fun pins s σ H xs us Q I r ⟨p, ys, e1, e2, q⟩ => call_len_seq pins s σ H xs us Q I r ⟨p, ys, e1, .inr (SqT.of e2), q⟩) hg B.len PySem.boot_len ha (he := he) (hpl := hpl)
theorem Blt.len_l (B : Blt X.mg) (ha : PA X (e :: es) t) (hg : Gl X "len" := by rfl) (he : starEach (e :: es) X.env = (false, eval e X.env) :: starEach es X.env := by rfl) (hpl : (backTo pos (starEach es X.env)).any (·.1) = false := by rfl) :
    PE X (.Call (.Name "len" p) (e :: es) [] pos) (tCB (fun xs H Q => ∃ p ys, xs = [.ref p] ∧ H p = some (.lst ys) ∧ Q (.int ys.length) H) t) :=
  pe_callB (fun pins s σ H xs us Q I r ⟨p, ys, e1, e2, q⟩ => call_len_seq pins s σ H xs us Q I r ⟨p, ys, e1, .inl (SqL.of e2), q⟩) hg B.len PySem.boot_len ha (he := he) (hpl := hpl)
end
section
variable {X : Cx} {p p2 pos : Pos} {e : Expr} {te : TE} {c : Str} {cs : String}
/-- a reading that may be weakened -/
def tMono (te : TE) : TE := fun σ H Q => ∃ Q0 : VK, te σ H Q0 ∧ ∀ x H1, Q0 x H1 → Q x H1
theorem pe_mono (he : PE X e te) : PE X e (tMono te) := ⟨fun pins s σ H Q I ⟨Q0, q, m⟩ => thn (he.run pins s σ H Q0 I q) fun u s1 ⟨v, H1, J, r, z⟩ => ⟨v, H1, J, r, m v H1 z⟩⟩
/-- isinstance(e, T), T a built-in type's name: told by the tracked heap -/
def tIsT (c : String) (te : TE) : TE := fun σ H Q => te σ H fun x H1 => ∃ t, tyN H1 x = some t ∧ Q (.bl (isaB t c)) H1
theorem Blt.isT (B : Blt X.mg) (he : PE X e te) (hc : PE X (.Name c p2) (tC (.ty cs))) (hm : cs ∈ ["bool", "int", "str", "list", "tuple"] := by decide) (hg : Gl X "isinstance" := by rfl) (hs : starEach [e, .Name c p2] X.env = (false, eval e X.env) :: starEach [.Name c p2] X.env := by rfl)
    (hs2 : starEach [.Name c p2] X.env = (false, eval (.Name c p2) X.env) :: starEach [] X.env := by rfl) (hpl : (backTo pos (starEach [.Name c p2] X.env)).any (·.1) = false := by rfl) :
    PE X (.Call (.Name "isinstance" p) [e, .Name c p2] [] pos) (tIsT cs te) := by
  have h := Blt.isi (p := p) (pos := pos) B (pa_cons (pe_mono he) (pa_cons hc pa_nil hs2) hs) hg hs hpl
  exact ⟨fun pins s σ H Q I q => h.run pins s σ H Q I ⟨_, q, fun x H1 ⟨t, h1, h2⟩ => ⟨x, .ty cs, .type t, .type cs, isaB t cs, rfl, .ty cs, tyN_ok h1, kit_ty (kit_isaB (tyN_in h1) hm), h2⟩⟩⟩
end

theorem tyN_ref {H : Hp} {p : Addr} {t : String} (h : tyN H (.ref p) = some t) : t = "list" ∨ t = "tuple" ∨ t = "dict" := by
  unfold tyN at h
  simp only at h
  split at h
  · cases h; exact .inl rfl
  · cases h; exact .inr (.inl rfl)
  · cases h; exact .inr (.inr rfl)
  · cases h
theorem isa_str {H : Hp} {v : V} {t : String} (h : tyN H v = some t) (q : isaB t "str" = true) : ∃ z, v = .str z := by
  cases v with
  | str z => exact ⟨z, rfl⟩
  | ref p => rcases tyN_ref h with rfl | rfl | rfl <;> exact absurd q (by decide)
  | _ => cases h <;> exact absurd q (by decide)
theorem isa_int {H : Hp} {v : V} {t : String} (h : tyN H v = some t) (q : isaB t "int" = true) : (∃ z, v = .int z) ∨ ∃ b, v = .bl b := by
  cases v with
  | int z => exact .inl ⟨z, rfl⟩
  | bl b => exact .inr ⟨b, rfl⟩
  | ref p => rcases tyN_ref h with rfl | rfl | rfl <;> exact absurd q (by decide)
  | _ => cases h <;> exact absurd q (by decide)
theorem isa_bool {H : Hp} {v : V} {t : String} (h : tyN H v = some t) (q : isaB t "bool" = true) : ∃ b, v = .bl b := by
  cases v with
  | bl b => exact ⟨b, rfl⟩
  | ref p => rcases tyN_ref h with rfl | rfl | rfl <;> exact absurd q (by decide)
  | _ => cases h <;> exact absurd q (by decide)
theorem isa_tuple {H : Hp} {v : V} {t : String} (h : tyN H v = some t) (q : isaB t "tuple" = true) : ∃ p xs, v = .ref p ∧ H p = some (.tup xs) := by
  cases v with
  | ref p =>
    unfold tyN at h
    simp only at h
    split at h
    · cases h; exact absurd q (by decide)
    · rename_i xs e; exact ⟨p, xs, rfl, e⟩
    · cases h; exact absurd q (by decide)
    · cases h
  | _ => cases h <;> exact absurd q (by decide)
theorem isaB_all : isaB "NoneType" "bool" = false ∧ isaB "NoneType" "int" = false ∧ isaB "NoneType" "str" = false ∧ isaB "NoneType" "list" = false ∧ isaB "NoneType" "tuple" = false ∧
  isaB "bool" "bool" = true ∧ isaB "bool" "int" = true ∧ isaB "bool" "str" = false ∧ isaB "bool" "list" = false ∧ isaB "bool" "tuple" = false ∧
  isaB "int" "bool" = false ∧ isaB "int" "int" = true ∧ isaB "int" "str" = false ∧ isaB "int" "list" = false ∧ isaB "int" "tuple" = false ∧
  isaB "str" "bool" = false ∧ isaB "str" "int" = false ∧ isaB "str" "str" = true ∧ isaB "str" "list" = false ∧ isaB "str" "tuple" = false ∧
  isaB "list" "bool" = false ∧ isaB "list" "int" = false ∧ isaB "list" "str" = false ∧ isaB "list" "list" = true ∧ isaB "list" "tuple" = false ∧
  isaB "tuple" "bool" = false ∧ isaB "tuple" "int" = false ∧ isaB "tuple" "str" = false ∧ isaB "tuple" "list" = false ∧ isaB "tuple" "tuple" = true ∧
  isaB "dict" "bool" = false ∧ isaB "dict" "int" = false ∧ isaB "dict" "str" = false ∧ isaB "dict" "list" = false ∧ isaB "dict" "tuple" = false := by decide
theorem tyN_non {H : Hp} : tyN H .non = some "NoneType" := rfl
theorem tyN_bl {H : Hp} {b : Bool} : tyN H (.bl b) = some "bool" := rfl
theorem tyN_int {H : Hp} {b : Int} : tyN H (.int b) = some "int" := rfl
theorem tyN_str {H : Hp} {b : Str} : tyN H (.str b) = some "str" := rfl
theorem ixN_20 : ixN 2 0 = some 0 := rfl
theorem ixN_21 : ixN 2 1 = some 1 := rfl
theorem ixN_10 : ixN 1 0 = some 0 := rfl
theorem at0 {α : Type} {a : α} {l : List α} : atI (a :: l) 0 = some a := atI_nat (j := 0) rfl
theorem at1 {α : Type} {a b : α} {l : List α} : atI (a :: b :: l) 1 = some b := atI_nat (j := 1) rfl
theorem if_dec {p : Prop} [Decidable p] {A B : Prop} (h1 : p → A) (h2 : ¬ p → B) : if decide p = true then A else B := by
  by_cases c : p
  · rw [decide_eq_true c]; exact iteT (h1 c)
  · rw [decide_eq_false c]; exact iteF (h2 c)
theorem gsOf {env : Env} {scope : Scope} {x : Str} (h : (match scope.kind with | .function => true | _ => false) && !scope.isCoroutine && (scope.names.all fun y => match y.2 with | .cell => false | .free => false | _ => true) && (match scope.names.lookup (".0" : Str) with | some .local => true | _ => false) = true)
    (hx : (match scope.names.lookup x with | some .local => true | _ => false) = true) : GxR.GenS env scope x := by
  simp only [Bool.and_eq_true, List.all_eq_true] at h
  obtain ⟨⟨⟨h1, h2⟩, h3⟩, h4⟩ := h
  refine ⟨?_, by simpa using h2, fun y hy e => ?_, ?_, ?_, fun y hy e => ?_⟩
  · split at h1
    · assumption
    · cases h1
  · have := h3 y hy; rw [e] at this; cases this
  · split at h4
    · assumption
    · cases h4
  · split at hx
    · assumption
    · cases hx
  · have := h3 y hy; rw [e] at this; cases this
/-- the empty text joins -/
theorem joinL_nil : ∀ l : List (List Nat), TL.joinL [] l = l.flatten
  | [] => rfl
  | [p] => by simp [TL.joinL]
  | p :: q :: r => by
    show p ++ ([] ++ TL.joinL [] (q :: r)) = _
    rw [joinL_nil (q :: r)]
    simp
theorem tl_joinE (ys : List Str) : TL.tl (Txt.join (Str.ofString "") ys) = (ys.map TL.tl).flatten := by
  rw [TL.join_eq, TL.tl_join]
  exact joinL_nil _
/-- one-sign texts -/
def sgs (cs : List Nat) : List Str := cs.map fun c => (⟨#[c]⟩ : Str)
theorem tl_sgs (cs : List Nat) : TL.tl (Txt.join (Str.ofString "") (sgs cs)) = cs := by
  rw [tl_joinE]
  unfold sgs
  rw [List.map_map]
  induction cs with
  | nil => rfl
  | cons c r ih => rw [List.map_cons, List.flatten_cons, ih]; rfl
theorem sgs_sum (cs : List Nat) : ((sgs cs).map (·.length)).sum = cs.length := by
  unfold sgs
  rw [List.map_map]
  induction cs with
  | nil => rfl
  | cons c r ih => rw [List.map_cons, List.sum_cons, ih]; show 1 + r.length = r.length + 1; omega
theorem sgs_len (cs : List Nat) : (sgs cs).length = cs.length := List.length_map _
theorem sgs_add (cs : List Nat) (c : Nat) : (sgs cs).map V.str ++ [.str ⟨#[c]⟩] = (sgs (cs ++ [c])).map V.str := by unfold sgs; simp
end SC

/-! all(test for mark in text), the test one that reads built-ins and globals too -/
namespace SC
open PySem PySem.Spec PyProof.Rows L2
open GxR (TabB TabG Tabbed Ready GenS keeps_tok trF trF_some all_signs inv_tab sh_eta)
/-- what the element may lean on: the module's names, the built-ins -/
structure Names2 (h : Heap) (mg : Str → Option Value) : Prop where
  glob : h.Ns mainGlobals mg
  blt : ∃ mb, h.Ns builtinsNs mb ∧ ∀ x : Str, x ≠ "__name__" → mb x = bootBuiltins x
def EltX (prog : Program) (w : World) (mg : Str → Option Value) (scope : Scope) (x : Str) (elt : Expr) (pb : Nat → Bool) : Prop :=
  ∀ (ce : Env) (A' : Around) (E' : Value → Shared → Prop) (c : Nat) (t : Tok) (s2 : Shared) (m2 : Str → Option Value), ce.scope = scope → ce.globals = mainGlobals → ce.builtins = builtinsNs → Names2 s2.heap mg →
    s2.heap.Ns ce.locals m2 → m2 x = some (.str ⟨#[c]⟩ t) → wpAny (model prog w) A' (eval elt ce) (fun y s3 => y = .bool (pb c) ∧ Keeps s2 s3) E' s2
section
variable {X : Cx} {pins : List (Addr × Obj)} {σ : L2.St} {H : Hp} {s : Shared}
theorem gen_mk {c P : Addr} {elt iter : Expr} {x : Str} {px gpos : Pos} {scope : Scope} {pb : Nat → Bool} {te : TE} {k : Nat} {Q' : Value → Shared → Prop} {R : Str → Hp → Prop}
    (hr : Room k X.A) (TB : TabB X.base X.mg c P) (hcode : X.env.code = .ref c) (S : GenS X.env scope x) (hi : PE X iter te) (hel : EltX X.prog X.w X.mg scope x elt pb)
    (hs : ∀ v, genFold iter X.env v = pure v) (I : Inv X pins σ H s) (h : te σ H fun v H1 => ∃ a : Str, v = .str a ∧ TabG H1 P ∧ R a H1)
    (hQ : ∀ a H1 g s5, R a H1 → Ready X pins σ H1 P a pb g s5 → Q' (.ref g) s5) :
    wpAny (model X.prog X.w) X.A (eval (.GeneratorExp elt [⟨.Name x px, iter, [], 0⟩] scope gpos) X.env) Q' X.xe s := by
  refine wpAny_GeneratorExp_walksQ hr.hd S.co (closure_ok S.free) S.cell S.dot S.loc S.kind (by have := hr.dp; omega) ?_ hs
  refine thn (hi.run pins s σ H _ I h) fun xv t1 ⟨v, H1, J, rv, a, ev, ⟨ps, hP, htr⟩, hR⟩ => ?_
  subst ev
  obtain ⟨tk1, rfl⟩ := rv
  refine wpAny_pyIter_str fun o St W hst => ?_
  have hPs : t1.heap.get? P = some { cls := .none, data := .fields ps } := J.hok P _ hP
  have hPlt := Heap.lt_size hPs
  have up : ∀ b u, t1.heap.get? b = some u → (t1.heap.push o).get? b = some u := fun b u e => Heap.get?_push_of_some _ e
  have cd : PySem.W.CodeHd (t1.heap.push o) c P := TB.code.keeps fun b u e => up b u (J.bk b u e)
  have lim : (t1.heap.push o).NoLimit := J.nolimit.push o
  have hclt : cStatics < t1.heap.objs.size := let ⟨_, hn, _⟩ := J.nolimit; hn.lt
  have hsz1 : (t1.heap.push o).objs.size = t1.heap.objs.size + 1 := Heap.size_push ..
  refine ⟨lim, ?_⟩
  have go : ∀ (code : Value) (h3 : Heap) (tk : Nat) (qs : Array Value), Heap.ExtBut P (t1.heap.push o) h3 → (t1.heap.push o).objs.size ≤ h3.objs.size → h3.get? P = some { cls := .none, data := .fields qs } →
      (∃ more, qs = ps ++ more) → TriplesOk qs.toList →
      wpAny (model X.prog X.w) X.A (builtinsFor X.env.globals X.env.builtins) (fun bi s4 =>
        ∃ Ia fp wr n0 Pf St0 pz F, Value.ref t1.heap.objs.size = .ref Ia ∧ (∀ A' : Around, A'.handled = none → Walks X.prog X.w A' Ia fp wr n0 Pf St0) ∧ St0 0 s4.heap ∧ (∀ b ∈ fp, b < s4.heap.objs.size) ∧ s4.heap.NoLimit ∧ cStatics ∉ wr ∧
          (∀ href : Heap, (∀ b o, s4.heap.get? b = some o → href.get? b = some o) →
            QuietGen X.prog X.w (genEnv scope (cloFrom X.env.cells scope.names []) s4.heap.objs.size code bi X.env) x [] elt (List.range s4.heap.objs.size) wr Pf pz F href) ∧
          (∀ g h5 tk5 gs, gs.bare = true → s4.heap.objs.size < g → h5.objs.size = g + 1 → (∀ b o, s4.heap.get? b = some o → h5.get? b = some o) →
            WalksS X.prog X.w X.A.in4 g (g :: s4.heap.objs.size :: List.range s4.heap.objs.size) (s4.heap.objs.size :: wr) (GenOnlyQ s4.gens.size) (passing pz n0 0).length
              (fun j y => ∃ i, (passing pz n0 0)[j]? = some i ∧ F i y) (GenAt X.prog X.w X.A.in4 g s4.gens.size s4.heap.objs.size (List.range s4.heap.objs.size) wr pz n0 F) →
            GenAt X.prog X.w X.A.in4 g s4.gens.size s4.heap.objs.size (List.range s4.heap.objs.size) wr pz n0 F 0 { s4 with gens := s4.gens.push gs, toks := tk5, heap := h5 } →
            Q' (.ref g) { s4 with gens := s4.gens.push gs, toks := tk5, heap := h5 })) X.xe { t1 with heap := h3, toks := tk } := by
    intro code h3 tk qs hx hsz hP3 hmore htq
    obtain ⟨bm, ob, e1, e2, e3, e4, e5, e6, e7, e8⟩ := TB.bm
    have ncP : cStatics ≠ P := fun e => by
      obtain ⟨_, hns, _⟩ := J.nolimit
      obtain ⟨o', es, ep, ho, hd, _⟩ := hns
      rw [e, hPs] at ho
      cases ho; cases hd
    have nbP : (builtinsNs : Addr) ≠ P := fun e => by
      obtain ⟨mb, hns, _⟩ := J.mod.blt
      obtain ⟨o', es, ep, ho, hd, _⟩ := hns
      have ho := J.bk _ _ ho
      rw [e, hPs] at ho
      cases ho; cases hd
    have k3 : ∀ b u, b ≠ P → t1.heap.get? b = some u → h3.get? b = some u := fun b u hb e => hx b u hb (up b u e)
    refine wpAny_builtinsFor (m := X.mg) (by rw [J.ok.glob]; exact ((J.mod.glob.keeps J.bk).push o).extBut hx TB.gP) e1 e2 (k3 _ _ e4 (J.bk _ _ e5)) e6 e7 e8 ?_
    refine ⟨t1.heap.objs.size, [t1.heap.objs.size], [t1.heap.objs.size], a.cps.size, SignAt a, St, (fun _ => true), (fun i y => ∃ cc, a.cps[i]? = some cc ∧ y = .bool (pb cc)), rfl, W, ?_, ?_, lim.extBut hx ncP, ?_, ?_, ?_⟩
    · refine (W X.A hr.hd).frame _ _ _ hst fun b hb u e => hx b u (fun z => ?_) e
      rcases List.mem_cons.mp hb with y | y
      · exact Nat.ne_of_lt hPlt (z.symm.trans y)
      · cases y
    · intro b hb
      rcases List.mem_cons.mp hb with z | z
      · rw [z]
        show t1.heap.objs.size < h3.objs.size
        omega
      · cases z
    · intro z
      rcases List.mem_cons.mp z with z | z
      · exact Nat.ne_of_lt hclt z
      · cases z
    · intro href hh
      refine ⟨fun A' E' i v s2 m2 hA hv hn hm hk => ?_, fun A' E' i v s2 m2 hA hv hp hn hm hk => ?_⟩
      · simp only [List.forIn_nil]
        exact wpAny_pure ⟨rfl, GxR.keeps_refl _⟩
      · obtain ⟨cc, u, hcc, rfl⟩ := hv
        have old : ∀ L, L ≠ P → ∀ q, X.base.get? L = some q → s2.heap.get? L = some q := fun L nL q e => by
          have e1 := J.bk _ _ e
          have l1 := Heap.lt_size e1
          have e2 := k3 L q nL e1
          refine hk L (List.mem_range.mpr (Heap.lt_size e2)) (fun z => ?_) q (hh L q e2)
          rcases List.mem_cons.mp z with z | z
          · rw [z] at l1; exact Nat.lt_irrefl _ l1
          · cases z
        have nm : Names2 s2.heap X.mg := ⟨J.mod.glob.at (old mainGlobals TB.gP), let ⟨mb, q1, q2⟩ := J.mod.blt; ⟨mb, q1.at (old builtinsNs nbP), q2⟩⟩
        exact wpAny_mono (hel (genEnv scope (cloFrom X.env.cells scope.names []) h3.objs.size code builtinsNs X.env) A' E' cc u s2 m2 rfl J.ok.glob rfl nm hn hm) (fun y s3 r => ⟨⟨cc, hcc, r.1⟩, r.2⟩) fun _ _ e => e
    · intro g h5 tk5 gs hgb hag hsz5 hk5 W5 hat
      simp only [GxR.passing_true, List.length_range] at W5
      refine hQ a H1 g _ hR ⟨_, _, _, _, _, W5.in4_1, hat, ?_, fun s' hm => ?_⟩
      · intro j y sj Qj Ej hy hQj
        obtain ⟨i, hij, cc, hcc, rfl⟩ := hy
        obtain ⟨hj, ej⟩ := List.getElem?_eq_some_iff.mp hij
        rw [List.getElem_range] at ej
        subst ej
        have e9 : a.cps.toList[j]? = some cc := by rw [Array.getElem?_toList]; exact hcc
        have hQ2 : Qj (trF pb a.cps.toList j) sj := hQj
        rw [trF_some e9] at hQ2
        exact wpAny_truthy_bool hQ2
      · obtain ⟨more, em⟩ := hmore
        have nwr : ∀ b u, t1.heap.get? b = some u → b ∉ h3.objs.size :: [t1.heap.objs.size] := fun b u e hb => by
          have hl : b < t1.heap.objs.size := Heap.lt_size e
          rcases List.mem_cons.mp hb with z | z
          · rw [z] at hl
            exact absurd hl (Nat.not_lt.mpr (show t1.heap.objs.size ≤ h3.objs.size by omega))
          · rcases List.mem_cons.mp z with z | z
            · rw [z] at hl
              exact Nat.lt_irrefl _ hl
            · cases z
        have J2 := inv_tab (more := more) (h' := s'.heap) (g' := s'.gens) (d' := s'.drawn) (t' := s'.toks) J hP (fun b u hb e => hm.heap b u (nwr b u e) (hk5 b u (k3 b u hb e)))
          (by rw [← em]; exact hm.heap P _ (nwr P _ hPs) (hk5 P _ hP3)) (AllBare.movedS (J.bare.push hgb) hm)
        rw [sh_eta t1 s' hm.os] at J2
        refine ⟨upd H1 P (.tbl (ps ++ more)), ⟨⟨ps ++ more, upd_same, by rw [← em]; exact htq⟩, fun b hb => upd_ne hb⟩, J2⟩
  cases hf : codeAmong gpos ps.toList with
  | none =>
    refine wpAny_genexprCodeX hcode (cd.code (up _ _ hPs) htr) (cd.tab (up _ _ hPs)) hf fun c' h' tk hx hge hlt hco' _ htab' _ => ?_
    obtain ⟨o1, vs, f1, tf, fl, tg, inF, tx, tt, op, _, _, _, _, _, _, _, _, _, hz, _⟩ := hco'
    exact go _ h' tk _ hx (Nat.le_trans hge (Nat.le_of_lt hlt)) htab'.2 ⟨_, rfl⟩ hz
  | some cv =>
    refine wpAny_genexprCode_hit hcode (cd.code (up _ _ hPs) htr) hf ?_
    exact go cv (t1.heap.push o) t1.toks ps (Heap.ExtBut.refl _ _) (Nat.le_refl _) (up _ _ hPs) ⟨#[], by simp⟩ htr

theorem pe_allX {c P : Addr} {elt iter : Expr} {x : Str} {px p pos gpos : Pos} {scope : Scope} {pb : Nat → Bool} {te : TE} {k : Nat}
    (hr : Room k X.A) (B : Blt X.mg) (TB : TabB X.base X.mg c P) (hcode : X.env.code = .ref c) (S : GenS X.env scope x) (hi : PE X iter te) (hel : EltX X.prog X.w X.mg scope x elt pb)
    (hs : ∀ v, genFold iter X.env v = pure v) (hg : Gl X "all" := by rfl)
    (he : starEach [.GeneratorExp elt [⟨.Name x px, iter, [], 0⟩] scope gpos] X.env = (false, eval (.GeneratorExp elt [⟨.Name x px, iter, [], 0⟩] scope gpos) X.env) :: starEach [] X.env := by rfl) :
    PE X (.Call (.Name "all" p) [.GeneratorExp elt [⟨.Name x px, iter, [], 0⟩] scope gpos] [] pos) (GxR.tAllS P pb te) := by
  refine ⟨fun pins s σ H Q I h => ?_⟩
  refine wpAny_Call_Name_kw (ld_blt I hg B.all (show bootBuiltins "all" = some (.builtin "all") by decide +kernel) ?_)
  refine PyProof.Rows.callWith_builtin1 ?_ he (by rfl)
  rw [he]
  show wpAny _ _ (spliced ((false, eval (.GeneratorExp elt [⟨.Name x px, iter, [], 0⟩] scope gpos) X.env) :: backTo pos (starEach [] X.env))) _ _ s
  refine Calls.spliced_cons (gen_mk (R := fun a H1 => ∀ H2, Tabbed P H1 H2 → Q (.bl (a.cps.toList.all pb)) H2) hr TB hcode S hi hel hs I h fun a H1 g t5 hR hG => ?_)
  obtain ⟨fp, wr, G, F, St, W, hst, htr, hI⟩ := hG
  refine Calls.spliced_nil (call_all_walkS (W.self 0 _ _ _ hst ⟨g, fp, wr, G, _, F, St, _, rfl, W, hst, htr, fun s' hmv => ?_⟩))
  obtain ⟨H2, hT, J⟩ := hI s' hmv
  refine ⟨.bl _, H2, J, rfl, ?_⟩
  rw [all_signs a pb]
  exact hR H2 hT
end

/-- a sign that the document calls printable -/
def prc (c : Nat) : Bool := decide (32 ≤ c) && decide (c ≤ 126) && !decide (c = 37)
def prn (z : Str) : Bool := z.cps.toList.all prc
theorem prn_app (x y : Str) : prn (x ++ y) = (prn x && prn y) := by
  unfold prn
  rw [show (x ++ y).cps.toList = TL.tl x ++ TL.tl y from TL.tl_append x y, List.all_append]
theorem prn_cut {z : Str} (h : prn z = true) (lo hi : Option Int) : prn (cutS z lo hi) = true := by
  unfold prn at h ⊢
  rw [List.all_eq_true] at h ⊢
  intro c hc
  exact h c (List.mem_of_mem_drop (List.mem_of_mem_take (show c ∈ (z.cps.toList.drop _).take _ from hc)))
theorem prn_no {z : Str} {c : Nat} (h : c ∈ TL.tl z) (hc : prc c = false) : prn z = false := by
  unfold prn
  cases e : z.cps.toList.all prc with
  | false => rfl
  | true => rw [List.all_eq_true] at e; rw [e c h] at hc; cases hc
theorem one_lt {a b : Nat} : ([a] < [b]) ↔ a < b := by
  constructor
  · intro h
    cases h with
    | rel h => exact h
    | cons h => cases h
  · intro h
    exact List.Lex.rel h
theorem elt_prn {prog : Program} {w : World} {mg : Str → Option Value} {scope : Scope} {j1 j2 : Nat} {q1 q2 q3 q4 q5 q6 q7 q8 q9 q10 : Pos} {t37 : Tok} (B : Blt mg) (h37 : mg "_BARRED_CODE" = some (.int 37 t37))
    (hk : scope.kind = .function) (hl : scope.names.lookup ("mark" : Str) = some .local) (h1 : scope.names.lookup ("ord" : Str) = some .globalImplicit) (h2 : scope.names.lookup ("_BARRED_CODE" : Str) = some .globalImplicit) :
    EltX prog w mg scope "mark" (.BoolOp .And [.Compare (.Constant (.str " ") j1 q1) [.LtE, .LtE] [.Name "mark" q2, .Constant (.str "~") j2 q3] q4,
      .Compare (.Call (.Name "ord" q5) [.Name "mark" q6] [] q7) [.NotEq] [.Name "_BARRED_CODE" q8] q9] q10) prc := by
  intro ce A' E' c t s2 m2 hs hg hb nm hn hm
  have ld : ∀ {Q : Value → Shared → Prop} {p : Pos} {s3 : Shared}, (∃ tk, s3 = { s2 with toks := tk }) → Q (.str ⟨#[c]⟩ t) s3 → wpAny (model prog w) A' (eval (.Name "mark" p) ce) Q E' s3 := by
    rintro Q p s3 ⟨tk, rfl⟩ h
    exact wpAny_Name (wpAny_loadName_local (by rw [hs]; exact hk) (show ce.scope.names.lookup ("mark" : Str) = some .local by rw [hs]; exact hl) hn hm h) (by decide)
  have fin : ∀ {b : Bool} {tk : Nat}, b = prc c → (fun y s3 => y = Value.bool (prc c) ∧ Keeps s2 s3) (.bool b) { s2 with toks := tk } := fun e => ⟨by rw [e], keeps_tok _ _⟩
  refine BoolOp_and ?_
  refine Compare_chain (Calls.Constant_str (chain_link (ld ⟨_, rfl⟩ (PySem.P.le_str ?_))))
  have e1 : (!decide ((⟨#[c]⟩ : Str).cps.toList < (Str.ofString " ").cps.toList)) = decide (32 ≤ c) := by
    show (!decide ([c] < [32])) = _
    rw [decide_eq_decide.mpr (one_lt (a := c) (b := 32))]
    by_cases h : c < 32
    · rw [decide_eq_true h, decide_eq_false (by omega)]; rfl
    · rw [decide_eq_false h, decide_eq_true (by omega)]; rfl
  rw [e1]
  refine wpAny_truthy_bool ?_
  by_cases c1 : 32 ≤ c
  · rw [decide_eq_true c1]
    refine ite_tt (chain_last (Calls.Constant_str (PySem.P.le_str ?_)))
    have e2 : (!decide ((Str.ofString "~").cps.toList < (⟨#[c]⟩ : Str).cps.toList)) = decide (c ≤ 126) := by
      show (!decide ([126] < [c])) = _
      rw [decide_eq_decide.mpr (one_lt (a := 126) (b := c))]
      by_cases h : c ≤ 126
      · rw [decide_eq_true h, decide_eq_false (by omega)]; rfl
      · rw [decide_eq_false h, decide_eq_true (by omega)]; rfl
    rw [e2]
    refine wpAny_truthy_bool ?_
    by_cases c2 : c ≤ 126
    · rw [decide_eq_true c2]
      refine ite_tt (BoolOp_one (wpAny_Compare1 ?_))
      obtain ⟨mb, n1, n2⟩ := nm.blt
      refine wpAny_Call_Name_kw (Calls.Name_function_global (by rw [hs]; exact hk) (show ce.scope.names.lookup ("ord" : Str) = some .globalImplicit by rw [hs]; exact h1) (Calls.loadGlobal_builtin (by rw [hg]; exact nm.glob) B.ord (by rw [hb]; exact n1) ((n2 "ord" (by decide)).trans (show bootBuiltins "ord" = some (.builtin "ord") by decide +kernel)) ?_) (by decide))
      refine PyProof.Rows.callWith_builtin1 ?_ (by rfl) (by rfl)
      refine Calls.spliced_cons (ld ⟨_, rfl⟩ (Calls.spliced_nil (PyProof.Rows.ord_of_one rfl ?_)))
      refine Calls.Name_function_global (by rw [hs]; exact hk) (show ce.scope.names.lookup ("_BARRED_CODE" : Str) = some .globalImplicit by rw [hs]; exact h2) (Calls.loadGlobal_global (by rw [hg]; exact nm.glob) h37 ?_) (by decide)
      refine ne_int (fin ?_)
      show (((c : Int)) != 37) = (decide (32 ≤ c) && decide (c ≤ 126) && !decide (c = 37))
      rw [decide_eq_true c1, decide_eq_true c2]
      by_cases c3 : c = 37
      · subst c3; rfl
      · rw [decide_eq_false c3]
        have : ((c : Int) != 37) = true := bne_iff_ne.mpr (by omega)
        rw [this]; rfl
    · rw [decide_eq_false c2]
      refine ite_ff (fin ?_)
      simp [prc, c2]
  · rw [decide_eq_false c1]
    refine ite_ff (wpAny_truthy_bool (ite_ff (fin ?_)))
    simp [prc, c1]
end SC

/-! the end of a law's row whose text holds generator expressions: the tables out of the top -/
namespace SC
open PySem PySem.Spec PyProof.Rows L2 LamX
theorem walk_tab {l : PySem.W.OpenLaw} {n k : Nat} {q : Program} {loose : List Str} {XP : (Str → Option Value) → Heap → Prop} {YP : World → Heap → Prop} {d : DefRec} {K : Params → PySem.W.Frag} {CX : World → CXT} {x : Str}
    (hn : l.most = some n) (hn2 : n ≤ sizeLine) (hdf : d.params.defaults = []) (hr : Room k callerA) (hY : ∀ (w : World) (h : Heap), YP w h → (K w.params).In h)
    (hCX : ∀ (w : World) (H : Hp) (s : Shared) (e : Value) (s' : Shared), CX w [] H s (fun _ _ _ => False) e s' → False)
    (F : ∀ (w : World) (mg mb : Str → Option Value) (lo : List Str) (mean : ExcName → Option Value) (fa : Addr) (h : Heap), Top q lo mean mg mb h → (K w.params).In h → h.Ns mainGlobals mg → mg d.name = some (.ref fa) → LawAtS l w (K w.params) (CX w) k n x mg fa h) :
    PySem.W.WalkO q loose XP YP l.row.toRowW d [] (fun f vs => PySem.call f vs) := by
  refine Att.attach_callB hn hdf fun w s0 s1 mg mb fa o pm cd doc a vs ns G Y ho hd hcd hmg hobj hints hlen hbits hg => ?_
  have KX := hY w _ Y
  obtain ⟨fd, cs, sp, hT, nT, C, hb, hsp, hF⟩ := F w mg mb _ _ fa _ G.T KX G.T.g hmg
  exact law_callTs KX G.T.g G.T.b G.T.builtins G.T.nolimit hg hT nT C G.T.bmain hobj hints (Nat.le_trans hlen hn2) hr hF hb (fun H hH hS => hsp H a ns hlen hbits hH hS) fun H e s' => hCX w H s1 e s'
theorem tab_mk {q : Program} {lo : List Str} {mean : ExcName → Option Value} {mg mb : Str → Option Value} {h : Heap} {K : PySem.W.Frag} {d : DefRec} {x : Str} {f c P : Addr} {fd : FuncData} {oc cc : Value} {od dc : Option Addr} {sl sc : Array (Option Value)} {vs : Array Value}
    (T : Top q lo mean mg mb h) (X : K.In h) (hr : (recsOf q).find? (fun e => e.name == x) = some d) (a : PySem.W.nsIn K mainGlobals x = some (some (.ref f))) (l : K.lookup f = some ⟨oc, od, .func fd, sl⟩) (hc : fd.code = .ref c)
    (lc : K.lookup c = some ⟨cc, dc, .fields vs, sc⟩) (hv : vs[11]? = some (.ref P)) : PySem.W.CodeHd h c P ∧ h.get? P = some (PySem.W.tabObj #[]) := by
  refine PySem.W.tab_of T X hr ?_
  unfold PySem.W.tabIn
  rw [a]
  simp only [l, hc, lc, hv]
/-- a law's state: the table may have grown, the stream stands, all else that was there is as it was -/
structure LS (Pt st : Addr) (H0 H : Hp) : Prop where
  k : Kp [Pt] H0 H
  g : GxR.TabG H Pt
  s : Strm H st
  g0 : GxR.TabG H0 Pt
  fr : H0 st = none
section
variable {Pt st p : Addr} {H0 H H' : Hp} {K : PySem.W.Frag}
theorem LS.ne (L : LS Pt st H0 H) : st ≠ Pt := L.s.nT L.g
theorem LS.first (g0 : GxR.TabG H0 Pt) (h : H0 st = none) {a b : Int} : LS Pt st H0 (upd H0 st (.lst [.int a, .int b])) :=
  ⟨Kp.new h _, tabG_kp g0 (Kp.new h _ : Kp [] _ _) (by simp), Strm.mk, g0, h⟩
theorem LS.take (L : LS Pt st H0 H) (k : Kp [st] H H') (s : Strm H' st) : LS Pt st H0 H' :=
  ⟨Kp.drop L.fr ((L.k.mono fun b hb => List.mem_cons_of_mem _ hb).trans (k.mono fun b hb => by rw [List.mem_singleton.mp hb]; exact List.mem_cons_self)), tabG_kp L.g k (by simpa using L.ne.symm), s, L.g0, L.fr⟩
theorem LS.prn (L : LS Pt st H0 H) (k : Kp [Pt] H H') (g : GxR.TabG H' Pt) : LS Pt st H0 H' := ⟨L.k.trans k, g, L.s.kp k (by simpa using L.ne), L.g0, L.fr⟩
theorem LS.new (L : LS Pt st H0 H) (h : H p = none) (o : HO) : LS Pt st H0 (upd H p o) :=
  ⟨L.k.trans (Kp.new h o), tabG_kp L.g (Kp.new h o : Kp [] _ _) (by simp), L.s.kp (Kp.new h o : Kp [] _ _) (by simp), L.g0, L.fr⟩
theorem LS.kp0 (L : LS Pt st H0 H) (k : Kp [] H H') : LS Pt st H0 H' := ⟨L.k.trans (k.mono fun b hb => absurd hb (by simp)), tabG_kp L.g k (by simp), L.s.kp k (by simp), L.g0, L.fr⟩
theorem seq_tab {a : Addr} {xs : List V} (k : Kp [Pt] H0 H) (g0 : GxR.TabG H0 Pt) (h : SqL K H0 a xs) : SqL K H a xs := by
  obtain ⟨ps, e, _⟩ := g0
  rcases h with (h | ⟨o, h⟩) | h
  · exact .inl (.inl (k.keep _ _ (by simpa using ne_of h e (by intro z; cases z)) h))
  · exact .inl (.inr ⟨o, k.keep _ _ (by simpa using ne_of h e (by intro z; cases z)) h⟩)
  · exact .inr h
theorem LS.seq {a : Addr} {xs : List V} (L : LS Pt st H0 H) (h : SqL K H0 a xs) : SqL K H a xs := seq_tab L.k L.g0 h
theorem Kp.get1 {b : Addr} {o : HO} (k : Kp [Pt] H H') (g : GxR.TabG H Pt) (h : H b = some o) (no : ∀ ps, o ≠ .tbl ps := by intro ps z; cases z) : H' b = some o := by
  obtain ⟨ps, e, _⟩ := g
  exact k.keep b o (by simpa using ne_of h e (no ps)) h
theorem tyN_kp {v : V} {t : String} (k : Kp [Pt] H H') (g : GxR.TabG H Pt) (h : tyN H v = some t) : tyN H' v = some t := by
  cases v with
  | ref p =>
    unfold tyN at h
    simp only at h
    split at h
    · rename_i xs q; cases h; exact tyN_lst (k.get1 g q)
    · rename_i xs q; cases h; exact tyN_tup (k.get1 g q)
    · rename_i xs q; cases h; exact tyN_dK (k.get1 g q)
    · cases h
  | _ => exact h
end
end SC

/-! canonical texts: the values as trees, what encode writes, what decode reads: plain Lean -/
namespace SC
open PySem L2
/-- a value as a tree; oth: what is neither an int nor a text nor a tuple -/
inductive Tr where
  | int (n : Int) | str (z : Str) | tup (ts : List Tr) | oth (v : V)
mutual
inductive Rep (H : Hp) : V → Tr → Prop
  | int (i : Int) : Rep H (.int i) (.int i)
  | str (z : Str) : Rep H (.str z) (.str z)
  | tup {a : Addr} {xs : List V} {ts : List Tr} : H a = some (.tup xs) → RepAll H xs ts → Rep H (.ref a) (.tup ts)
  | oth {v : V} {t : String} : tyN H v = some t → t ≠ "int" → t ≠ "str" → t ≠ "tuple" → Rep H v (.oth v)
inductive RepAll (H : Hp) : List V → List Tr → Prop
  | nil : RepAll H [] []
  | cons {v : V} {vs : List V} {t : Tr} {ts : List Tr} : Rep H v t → RepAll H vs ts → RepAll H (v :: vs) (t :: ts)
end
theorem Rep.ty {H : Hp} {v : V} {t : Tr} (h : Rep H v t) : ∃ s, tyN H v = some s := by
  cases h with
  | int => exact ⟨_, rfl⟩
  | str => exact ⟨_, rfl⟩
  | tup e _ => exact ⟨_, tyN_tup e⟩
  | oth e _ _ _ => exact ⟨_, e⟩
theorem RepAll.len {H : Hp} : ∀ {xs : List V} {ts : List Tr}, RepAll H xs ts → xs.length = ts.length
  | _, _, .nil => rfl
  | _, _, .cons _ h => congrArg (· + 1) h.len
theorem RepAll.app {H : Hp} : ∀ {xs ys : List V} {ts us : List Tr}, RepAll H xs ts → RepAll H ys us → RepAll H (xs ++ ys) (ts ++ us)
  | _, _, _, _, .nil, h => h
  | _, _, _, _, .cons a b, h => .cons a (b.app h)
theorem RepAll.get {H : Hp} : ∀ {xs : List V} {ts : List Tr} {i : Nat} {x : V}, RepAll H xs ts → xs[i]? = some x → ∃ t, ts[i]? = some t ∧ Rep H x t
  | _, _, _, _, .nil, h => by simp at h
  | _, _, 0, _, .cons a _, h => by
    have e := Option.some.inj h
    subst e
    exact ⟨_, rfl, a⟩
  | _, _, i + 1, _, .cons _ b, h => b.get (i := i) h
mutual
theorem Rep.kp {Pt : Addr} {H H' : Hp} (k : Kp [Pt] H H') (g : GxR.TabG H Pt) : ∀ {v : V} {t : Tr}, Rep H v t → Rep H' v t
  | _, _, .int i => .int i
  | _, _, .str z => .str z
  | _, _, .tup e h => .tup (k.tup _ _ e) (h.kp k g)
  | v, _, .oth e a b c => .oth (tyN_kp k g e) a b c
theorem RepAll.kp {Pt : Addr} {H H' : Hp} (k : Kp [Pt] H H') (g : GxR.TabG H Pt) : ∀ {vs : List V} {ts : List Tr}, RepAll H vs ts → RepAll H' vs ts
  | _, _, .nil => .nil
  | _, _, .cons a b => .cons (a.kp k g) (b.kp k g)
end
/-- the digits of a number -/
abbrev dig (n : Nat) : List Nat := TL.numL n
mutual
/-- the canonical text, its codes -/
def txt : Tr → List Nat
  | .int n => dig n.toNat ++ [46]
  | .str z => dig z.length ++ 58 :: TL.tl z
  | .tup ts => 91 :: (txts ts ++ [93])
  | .oth _ => []
def txts : List Tr → List Nat
  | [] => []
  | t :: ts => txt t ++ txts ts
end
mutual
/-- plain, tuples nested at most n deep -/
def pl (n : Nat) : Tr → Bool
  | .int i => decide (0 ≤ i) && decide (i ≤ 99999999999999999999)
  | .str z => prn z
  | .tup ts => match n with
    | 0 => false
    | m + 1 => pls m ts
  | .oth _ => false
def pls (n : Nat) : List Tr → Bool
  | [] => true
  | t :: ts => pl n t && pls n ts
end
mutual
/-- no tuple's text within is too long -/
def fit : Tr → Bool
  | .tup ts => fits ts && decide ((txts ts).length + 2 ≤ 100000)
  | _ => true
def fits : List Tr → Bool
  | [] => true
  | t :: ts => fit t && fits ts
end
mutual
/-- texts of a size that Python's may have -/
def sml : Tr → Bool
  | .str z => decide (z.length ≤ 10000000)
  | .tup ts => smls ts && decide (ts.length ≤ 1000000)
  | _ => true
def smls : List Tr → Bool
  | [] => true
  | t :: ts => sml t && smls ts
end
theorem txts_app : ∀ (ts us : List Tr), txts (ts ++ us) = txts ts ++ txts us
  | [], _ => rfl
  | t :: ts, us => by
    show txt t ++ txts (ts ++ us) = (txt t ++ txts ts) ++ txts us
    rw [txts_app ts us, List.append_assoc]
theorem pls_app (n : Nat) : ∀ (ts us : List Tr), pls n (ts ++ us) = (pls n ts && pls n us)
  | [], us => by simp [pls]
  | t :: ts, us => by
    show (pl n t && pls n (ts ++ us)) = ((pl n t && pls n ts) && pls n us)
    rw [pls_app n ts us, Bool.and_assoc]
theorem fits_app : ∀ (ts us : List Tr), fits (ts ++ us) = (fits ts && fits us)
  | [], us => by simp [fits]
  | t :: ts, us => by
    show (fit t && fits (ts ++ us)) = ((fit t && fits ts) && fits us)
    rw [fits_app ts us, Bool.and_assoc]
theorem smls_app : ∀ (ts us : List Tr), smls (ts ++ us) = (smls ts && smls us)
  | [], us => by simp [smls]
  | t :: ts, us => by
    show (sml t && smls (ts ++ us)) = ((sml t && smls ts) && smls us)
    rw [smls_app ts us, Bool.and_assoc]
theorem mem_len : ∀ {t : Tr} {ts : List Tr}, t ∈ ts → (txt t).length ≤ (txts ts).length
  | t, u :: ts, h => by
    show _ ≤ (txt u ++ txts ts).length
    rw [List.length_append]
    rcases List.mem_cons.mp h with rfl | h
    · omega
    · have := mem_len h; omega
mutual
theorem fit_of : ∀ (t : Tr), (txt t).length ≤ 100000 → fit t = true
  | .int _, _ => rfl
  | .str _, _ => rfl
  | .oth _, _ => rfl
  | .tup ts, h => by
    have h : (91 :: (txts ts ++ [93])).length ≤ 100000 := h
    rw [List.length_cons, List.length_append] at h
    have h : (txts ts).length + 1 + 1 ≤ 100000 := h
    show (fits ts && decide ((txts ts).length + 2 ≤ 100000)) = true
    rw [fits_of ts (by omega), decide_eq_true (by omega)]
    rfl
theorem fits_of : ∀ (ts : List Tr), (txts ts).length ≤ 100000 → fits ts = true
  | [], _ => rfl
  | t :: ts, h => by
    have h : (txt t ++ txts ts).length ≤ 100000 := h
    rw [List.length_append] at h
    show (fit t && fits ts) = true
    rw [fit_of t (by omega), fits_of ts (by omega)]
    rfl
end

/-! ### reading -/
def isD (c : Nat) : Bool := decide (48 ≤ c) && decide (c ≤ 57)
def val (l : List Nat) : Nat := NumText.digitsVal l
/-- a number's digits that decode takes -/
def goodD (d : List Nat) : Bool := !d.isEmpty && decide (d.length ≤ 20) && !(d.head? == some 48 && !(d == [48]))
/-- a number or a text at the head of l -/
def leaf (l : List Nat) : Option (Tr × List Nat) :=
  if goodD (l.takeWhile isD) = true then
    match l.dropWhile isD with
    | 46 :: r => some (.int (val (l.takeWhile isD)), r)
    | 58 :: r => if val (l.takeWhile isD) ≤ r.length then some (.str ⟨(r.take (val (l.takeWhile isD))).toArray⟩, r.drop (val (l.takeWhile isD))) else none
    | _ => none
  else none
/-- items up to the closing bracket -/
def items (p : List Nat → Option (Tr × List Nat)) : Nat → List Nat → Option (List Tr × List Nat)
  | 0, _ => none
  | f + 1, l => match l with
    | 93 :: r => some ([], r)
    | l => match p l with
      | none => none
      | some (t, r) => match items p f r with
        | none => none
        | some (ts, r2) => some (t :: ts, r2)
/-- a value at the head of l, tuples nested at most n deep -/
def pval : Nat → List Nat → Option (Tr × List Nat)
  | 0, l => match l with
    | 91 :: _ => none
    | l => leaf l
  | n + 1, l => match l with
    | 91 :: r => match items (pval n) (r.length + 1) r with
      | none => none
      | some (ts, r2) => some (.tup ts, r2)
    | l => leaf l

/-! ### digits -/
theorem isD_iff {c : Nat} : isD c = true ↔ 48 ≤ c ∧ c ≤ 57 := by unfold isD; simp
theorem val_app (l : List Nat) (c : Nat) : val (l ++ [c]) = val l * 10 + (c - 48) := by
  unfold val NumText.digitsVal
  rw [List.foldl_append]
  rfl
theorem dig_isD (n : Nat) : ∀ c ∈ dig n, isD c = true := fun c hc => by
  have := TL.numL_digits n c hc
  exact isD_iff.mpr ⟨by omega, by omega⟩
theorem dig_zero : dig 0 = [48] := TL.numL_lt (by decide)
theorem val_dig (n : Nat) : val (dig n) = n := TL.numL_val n
theorem dig_val : ∀ (k : Nat) (d : List Nat), d.length = k → d ≠ [] → (∀ c ∈ d, isD c = true) → (d.head? ≠ some 48 ∨ d = [48]) → dig (val d) = d
  | 0, d, hk, h, _, _ => absurd (List.length_eq_zero_iff.mp hk) h
  | k + 1, d, hk, h, hd, h0 => by
    obtain ⟨e, c, rfl⟩ : ∃ e c, d = e ++ [c] := ⟨d.dropLast, d.getLast h, (List.dropLast_concat_getLast h).symm⟩
    have hc := isD_iff.mp (hd c (List.mem_append_right _ (List.mem_singleton.mpr rfl)))
    rw [val_app]
    by_cases he : e = []
    · subst he
      show dig (val [] * 10 + (c - 48)) = [c]
      have z : val [] = 0 := rfl
      rw [z, Nat.zero_mul, Nat.zero_add]
      have q := TL.numL_lt (n := c - 48) (by omega)
      rw [show 48 + (c - 48) = c by omega] at q
      exact q
    · have hl : e.length = k := by rw [List.length_append] at hk; simpa using hk
      obtain ⟨a, e', rfl⟩ := List.exists_cons_of_ne_nil he
      have ha : a ≠ 48 := by
        intro z
        subst z
        rcases h0 with q | q
        · exact q rfl
        · have := congrArg List.length q
          simp at this
      have ih := dig_val k (a :: e') hl he (fun c hc => hd c (List.mem_append_left _ hc)) (.inl (by simpa using ha))
      have pos : 1 ≤ val (a :: e') := by
        by_cases q : val (a :: e') = 0
        · rw [q, dig_zero] at ih
          injection ih with z1 _
          exact absurd z1.symm ha
        · omega
      have st := TL.numL_step (n := val (a :: e') * 10 + (c - 48)) (by omega)
      show TL.numL _ = _
      rw [st, show (val (a :: e') * 10 + (c - 48)) / 10 = val (a :: e') by omega, show 48 + (val (a :: e') * 10 + (c - 48)) % 10 = c by omega]
      rw [show TL.numL (val (a :: e')) = a :: e' from ih]
theorem dig_head : ∀ (n : Nat), (dig n).head? = some 48 → dig n = [48] := by
  intro n
  induction n using Nat.strongRecOn with
  | _ n ih =>
    intro h
    by_cases c : n < 10
    · have e := TL.numL_lt c
      have h : (TL.numL n).head? = some 48 := h
      rw [e] at h
      have : 48 + n = 48 := by simpa using h
      have : n = 0 := by omega
      subst this
      exact dig_zero
    · have e := TL.numL_step (n := n) (by omega)
      have h : (TL.numL n).head? = some 48 := h
      rw [e] at h
      have h2 : (dig (n / 10)).head? = some 48 := by
        have ne := TL.numL_ne (n / 10)
        obtain ⟨a, r, q⟩ := List.exists_cons_of_ne_nil ne
        rw [q] at h
        show (TL.numL (n / 10)).head? = _
        rw [q]
        simpa using h
      have z := ih (n / 10) (by omega) h2
      have v := val_dig (n / 10)
      rw [z] at v
      have : n / 10 = 0 := v.symm
      omega
theorem goodD_dig {n : Nat} (h : n < 10 ^ 20) : goodD (dig n) = true := by
  have ne := TL.numL_ne n
  have len : (dig n).length ≤ 20 := TL.numL_len (by decide) h
  unfold goodD
  rw [show (dig n).isEmpty = false by rw [List.isEmpty_eq_false_iff]; exact ne, decide_eq_true len]
  cases e : ((dig n).head? == some 48) with
  | false => rfl
  | true =>
    have := dig_head n (by simpa using e)
    rw [this]
    rfl
theorem take_dig {n c : Nat} (r : List Nat) (hc : isD c = false) : (dig n ++ c :: r).takeWhile isD = dig n ∧ (dig n ++ c :: r).dropWhile isD = c :: r := by
  have key : ∀ (d : List Nat), (∀ x ∈ d, isD x = true) → (d ++ c :: r).takeWhile isD = d ∧ (d ++ c :: r).dropWhile isD = c :: r := by
    intro d
    induction d with
    | nil => intro _; simp [List.takeWhile, List.dropWhile, hc]
    | cons x d ih =>
      intro h
      have hx := h x List.mem_cons_self
      obtain ⟨i1, i2⟩ := ih fun y hy => h y (List.mem_cons_of_mem _ hy)
      simp [List.takeWhile, List.dropWhile, hx, i1, i2]
  exact key _ (dig_isD n)
theorem leaf_int {n : Nat} (h : n < 10 ^ 20) (r : List Nat) : leaf (dig n ++ 46 :: r) = some (.int n, r) := by
  obtain ⟨t1, t2⟩ := take_dig (n := n) (c := 46) r (by decide)
  unfold leaf
  rw [t1, t2, if_pos (goodD_dig h), val_dig]
  rfl
theorem leaf_str {z : Str} (h : z.length < 10 ^ 20) (r : List Nat) : leaf (dig z.length ++ 58 :: (TL.tl z ++ r)) = some (.str z, r) := by
  obtain ⟨t1, t2⟩ := take_dig (n := z.length) (c := 58) (TL.tl z ++ r) (by decide)
  unfold leaf
  have hl : (TL.tl z).length = z.length := (TL.len_tl z).symm
  rw [t1, t2, if_pos (goodD_dig h), val_dig]
  simp only
  rw [if_pos (by rw [List.length_append]; omega), ← hl, List.take_left, List.drop_left, TL.mk_tl]
theorem dig_first (n : Nat) : ∃ a r, dig n = a :: r ∧ 48 ≤ a ∧ a ≤ 57 := by
  obtain ⟨a, r, e⟩ := List.exists_cons_of_ne_nil (TL.numL_ne n)
  have := isD_iff.mp (dig_isD n a (by rw [show dig n = a :: r from e]; exact List.mem_cons_self))
  exact ⟨a, r, e, this.1, this.2⟩
/-- a text's first sign -/
theorem txt_first {n : Nat} : ∀ {t : Tr}, pl n t = true → ∃ a r, txt t = a :: r ∧ (a = 91 ∨ (48 ≤ a ∧ a ≤ 57))
  | .int i, _ => by
    obtain ⟨a, r, e, h1, h2⟩ := dig_first i.toNat
    exact ⟨a, r ++ [46], by show dig i.toNat ++ [46] = _; rw [e]; rfl, .inr ⟨h1, h2⟩⟩
  | .str z, _ => by
    obtain ⟨a, r, e, h1, h2⟩ := dig_first z.length
    exact ⟨a, r ++ 58 :: TL.tl z, by show dig z.length ++ 58 :: TL.tl z = _; rw [e]; rfl, .inr ⟨h1, h2⟩⟩
  | .tup ts, _ => ⟨91, _, rfl, .inl rfl⟩
  | .oth _, h => by cases h
theorem pval_leaf {n : Nat} {l : List Nat} (h : ∀ r, l ≠ 91 :: r) : pval n l = leaf l := by
  cases n with
  | zero =>
    unfold pval
    split
    · rename_i r; exact absurd rfl (h r)
    · rfl
  | succ n =>
    unfold pval
    split
    · rename_i r; exact absurd rfl (h r)
    · rfl
theorem sml_str {z : Str} (h : sml (.str z) = true) : z.length < 10 ^ 20 := by
  have : z.length ≤ 10000000 := of_decide_eq_true h
  omega
mutual
/-- what encode wrote is read back -/
theorem pval_txt : ∀ (n : Nat) (t : Tr) (r : List Nat), pl n t = true → sml t = true → pval n (txt t ++ r) = some (t, r)
  | n, .int i, r, h, _ => by
    have h : (decide (0 ≤ i) && decide (i ≤ 99999999999999999999)) = true := h
    rw [Bool.and_eq_true, decide_eq_true_eq, decide_eq_true_eq] at h
    obtain ⟨a, q, e, h1, h2⟩ := dig_first i.toNat
    have e2 : txt (.int i) ++ r = dig i.toNat ++ 46 :: r := by show (dig i.toNat ++ [46]) ++ r = _; rw [List.append_assoc]; rfl
    rw [e2, pval_leaf (fun r' z => by rw [e] at z; injection z with z _; omega), leaf_int (by omega)]
    rw [show ((i.toNat : Nat) : Int) = i by omega]
  | n, .str z, r, _, hs => by
    obtain ⟨a, q, e, h1, h2⟩ := dig_first z.length
    have e2 : txt (.str z) ++ r = dig z.length ++ 58 :: (TL.tl z ++ r) := by show (dig z.length ++ 58 :: TL.tl z) ++ r = _; rw [List.append_assoc]; rfl
    rw [e2, pval_leaf (fun r' z => by rw [e] at z; injection z with z _; omega), leaf_str (sml_str hs)]
  | 0, .tup ts, _, h, _ => by cases h
  | n + 1, .tup ts, r, h, hs => by
    have h : pls n ts = true := h
    have hs : (smls ts && decide (ts.length ≤ 1000000)) = true := hs
    rw [Bool.and_eq_true] at hs
    have e2 : txt (.tup ts) ++ r = 91 :: (txts ts ++ 93 :: r) := by show 91 :: ((txts ts ++ [93]) ++ r) = _; rw [List.append_assoc]; rfl
    rw [e2]
    unfold pval
    simp only
    rw [items_txts n ts r ((txts ts ++ 93 :: r).length + 1) h hs.1 (by omega)]
  | _, .oth _, _, h, _ => by cases h
theorem items_txts : ∀ (n : Nat) (ts : List Tr) (r : List Nat) (f : Nat), pls n ts = true → smls ts = true → (txts ts ++ 93 :: r).length < f → items (pval n) f (txts ts ++ 93 :: r) = some (ts, r)
  | n, [], r, f, _, _, hf => by
    cases f with
    | zero => omega
    | succ f => rfl
  | n, t :: ts, r, f, h, hs, hf => by
    have h : (pl n t && pls n ts) = true := h
    have hs : (sml t && smls ts) = true := hs
    rw [Bool.and_eq_true] at h hs
    obtain ⟨a, q, e, ha⟩ := txt_first h.1
    have e2 : txts (t :: ts) ++ 93 :: r = txt t ++ (txts ts ++ 93 :: r) := by show (txt t ++ txts ts) ++ _ = _; rw [List.append_assoc]
    rw [e2] at hf ⊢
    rw [List.length_append, e, List.length_cons] at hf
    cases f with
    | zero => omega
    | succ f =>
      have p1 := pval_txt n t (txts ts ++ 93 :: r) h.1 hs.1
      have p2 := items_txts n ts r f h.2 hs.2 (by omega)
      unfold items
      rw [e] at p1 ⊢
      have ne : a ≠ 93 := by omega
      show (match a :: (q ++ (txts ts ++ 93 :: r)) with
        | 93 :: r => some ([], r)
        | l => match pval n l with
          | none => none
          | some (t, r) => match items (pval n) f r with
            | none => none
            | some (ts, r2) => some (t :: ts, r2)) = _
      split
      · rename_i z; injection z with z _; exact absurd z ne
      · have p1 : pval n (a :: (q ++ (txts ts ++ 93 :: r))) = some (t, txts ts ++ 93 :: r) := p1
        rw [p1]
        simp only
        rw [p2]
end

theorem val_lt : ∀ (d : List Nat), (∀ c ∈ d, isD c = true) → val d < 10 ^ d.length := by
  have key : ∀ (k : Nat) (d : List Nat), d.length = k → (∀ c ∈ d, isD c = true) → val d < 10 ^ k := by
    intro k
    induction k with
    | zero => intro d h _; rw [List.length_eq_zero_iff.mp h]; decide
    | succ k ih =>
      intro d h hd
      have ne : d ≠ [] := fun z => by rw [z] at h; cases h
      have e := (List.dropLast_concat_getLast ne).symm
      generalize d.dropLast = a at e
      generalize d.getLast ne = c at e
      subst e
      have hc := isD_iff.mp (hd c (List.mem_append_right _ (List.mem_singleton.mpr rfl)))
      have := ih a (by rw [List.length_append] at h; simpa using h) fun c hc => hd c (List.mem_append_left _ hc)
      rw [val_app, Nat.pow_succ]
      omega
  exact fun d h => key _ d rfl h
theorem goodD_iff {d : List Nat} (h : goodD d = true) : d ≠ [] ∧ d.length ≤ 20 ∧ (d.head? ≠ some 48 ∨ d = [48]) := by
  unfold goodD at h
  rw [Bool.and_eq_true, Bool.and_eq_true, decide_eq_true_eq] at h
  obtain ⟨⟨h1, h2⟩, h3⟩ := h
  refine ⟨fun z => (by rw [z] at h1; cases h1), h2, ?_⟩
  by_cases e : d = [48]
  · exact .inr e
  · left
    intro z
    rw [z] at h3
    have : (d == [48]) = false := by simpa using e
    rw [this] at h3
    cases h3
theorem takeD (l : List Nat) : ∀ c ∈ l.takeWhile isD, isD c = true := by
  induction l with
  | nil => intro c h; cases h
  | cons a l ih =>
    intro c h
    rw [List.takeWhile_cons] at h
    split at h
    · rename_i ha
      rcases List.mem_cons.mp h with rfl | h
      · exact ha
      · exact ih c h
    · cases h
/-- what leaf read, written -/
theorem leaf_back {n : Nat} {l r : List Nat} {t : Tr} (h : leaf l = some (t, r)) : l = txt t ++ r ∧ ((∀ c ∈ l, prc c = true) → pl n t = true) := by
  unfold leaf at h
  by_cases g : goodD (l.takeWhile isD) = true
  · rw [if_pos g] at h
    obtain ⟨g1, g2, g3⟩ := goodD_iff g
    have ad := takeD l
    have dv := dig_val _ _ rfl g1 ad g3
    have lt := val_lt _ ad
    have el : l = l.takeWhile isD ++ l.dropWhile isD := List.takeWhile_append_dropWhile.symm
    generalize hv : val (l.takeWhile isD) = v at h dv lt
    split at h
    · rename_i r' e
      cases h
      have lt2 : v < 10 ^ 20 := Nat.lt_of_lt_of_le lt (Nat.pow_le_pow_right (by decide) g2)
      refine ⟨?_, fun _ => ?_⟩
      · show l = (dig (v : Int).toNat ++ [46]) ++ r
        rw [Int.toNat_natCast, dv, List.append_assoc]
        rw [e] at el
        exact el
      · show (decide (0 ≤ (v : Int)) && decide ((v : Int) ≤ 99999999999999999999)) = true
        rw [decide_eq_true (by omega), decide_eq_true (by omega)]
        rfl
    · rename_i r' e
      split at h
      · rename_i hle
        cases h
        have ez : (⟨(r'.take v).toArray⟩ : Str).length = v := by
          show (r'.take v).toArray.size = v
          rw [List.size_toArray, List.length_take]
          omega
        refine ⟨?_, fun hp => ?_⟩
        · show l = (dig (⟨(r'.take v).toArray⟩ : Str).length ++ 58 :: r'.take v) ++ r'.drop v
          rw [ez, dv, List.append_assoc, List.cons_append, List.take_append_drop]
          rw [e] at el
          exact el
        · show prn ⟨(r'.take v).toArray⟩ = true
          unfold prn
          rw [List.all_eq_true]
          intro c hc
          refine hp c ?_
          rw [el, e]
          exact List.mem_append_right _ (List.mem_cons_of_mem _ (List.mem_of_mem_take hc))
      · cases h
    · cases h
  · rw [if_neg g] at h
    cases h
mutual
/-- what decode read is what encode writes -/
theorem pval_back : ∀ (n : Nat) (l r : List Nat) (t : Tr), pval n l = some (t, r) → l = txt t ++ r ∧ ((∀ c ∈ l, prc c = true) → pl n t = true)
  | 0, l, r, t, h => by
    unfold pval at h
    split at h
    · cases h
    · exact leaf_back h
  | n + 1, l, r, t, h => by
    unfold pval at h
    split at h
    · rename_i r'
      cases e : items (pval n) (r'.length + 1) r' with
      | none => rw [e] at h; cases h
      | some x =>
        obtain ⟨ts, r2⟩ := x
        rw [e] at h
        cases h
        obtain ⟨q1, q2⟩ := items_back n (r'.length + 1) r' r ts e
        refine ⟨?_, fun hp => q2 fun c hc => hp c (List.mem_cons_of_mem _ hc)⟩
        show 91 :: r' = 91 :: (txts ts ++ [93]) ++ r
        rw [q1, List.cons_append, List.append_assoc]
        rfl
    · exact leaf_back h
theorem items_back : ∀ (n f : Nat) (l r : List Nat) (ts : List Tr), items (pval n) f l = some (ts, r) → l = txts ts ++ 93 :: r ∧ ((∀ c ∈ l, prc c = true) → pls n ts = true)
  | _, 0, _, _, _, h => by cases h
  | n, f + 1, l, r, ts, h => by
    unfold items at h
    split at h
    · rename_i r'
      cases h
      exact ⟨rfl, fun _ => rfl⟩
    · cases e : pval n l with
      | none => rw [e] at h; cases h
      | some x =>
        obtain ⟨t, r1⟩ := x
        rw [e] at h
        simp only at h
        cases e2 : items (pval n) f r1 with
        | none => rw [e2] at h; cases h
        | some y =>
          obtain ⟨us, r2⟩ := y
          rw [e2] at h
          cases h
          obtain ⟨p1, p2⟩ := pval_back n l r1 t e
          obtain ⟨q1, q2⟩ := items_back n f r1 r us e2
          refine ⟨?_, fun hp => ?_⟩
          · show l = (txt t ++ txts us) ++ 93 :: r
            rw [p1, q1, List.append_assoc]
          · show (pl n t && pls n us) = true
            rw [p2 hp, q2 fun c hc => hp c (by rw [p1]; exact List.mem_append_right _ hc)]
            rfl
end
end SC

/-! own errors of the text -/
namespace SC
open PySem L2
/-- an own error class over ValueError without an __init__ -/
structure Err (K : PySem.W.Frag) (mg : Str → Option Value) (x : Str) (C : Addr) : Prop where
  g : mg x = some (.ref C)
  e : PySem.W.excIn K C [.type "ValueError", .type "Exception", .type "BaseException", .type "object"] "ValueError.__new__" = true
  k : PySem.W.keepIn K (.ref C) = true
  b : PySem.W.subIn K (.ref C) (.type "BaseException") = some true
  t : PySem.W.typeIn K (.ref C) = some (.type "type")
  i : PySem.W.isClsIn K C = true
  s : PySem.W.subIn K (.ref C) (.ref C) = some true
def tErr (C : Addr) (W : WX) : TS := fun _ σ H => W (.ref C) none σ H
theorem Err.raise {X : Cx} {W : WX} {x m : Str} {C : Addr} {j : Nat} {p p2 pos pos2 : Pos} (T : Err X.K X.mg x C) (tk : Takes X W) (hc : X.calm = true := by rfl) (hg : Gl X x := by rfl) (hdb : (x == ("__debug__" : Str)) = false := by decide) :
    PS X (.Raise (some (.Call (.Name x p) [.Constant (.str m) j p2] [] pos)) none pos2) (tErr C W) :=
  ps_raise hc tk (pmk_own PySem.F.excBase_ValueError T.e T.g T.k (raises_own T.b T.t) hg hdb)
theorem Err.em {K : PySem.W.Frag} {mg : Str → Option Value} {x : Str} {C : Addr} (T : Err K mg x C) : PySem.W.exmOne K (.ref C) (.ref C) = some true := by
  have e1 : (PySem.W.subIn K (.ref C) (.type "BaseException") == some true) = true := by rw [T.b]; rfl
  have e2 : ((PySem.W.clsIn K C).isSome && PySem.W.typeIn K (.ref C) == some (.type "type")) = true := by
    rw [show (PySem.W.clsIn K C).isSome = true from T.i, T.t]; rfl
  have e3 : PySem.W.kitCls K (.ref C) (.ref C) = some true := by
    show (if ((PySem.W.clsIn K C).isSome && PySem.W.typeIn K (.ref C) == some (.type "type")) = true then PySem.W.subIn K (.ref C) (.ref C) else none) = some true
    rw [if_pos e2]; exact T.s
  show (if (PySem.W.subIn K (.ref C) (.type "BaseException") == some true) = true then PySem.W.kitCls K (.ref C) (.ref C) else none) = some true
  rw [if_pos e1]; exact e3
/-- what a raising def's callees let out, handed on -/
theorem passX {X : Cx} {E : XK} {W : WX} (tk : Takes X W) (h : ∀ cls d σ H, E cls d H → W cls d σ H) : Passes (L2.CX X.prog X.w) X E := passes_call tk h
/-- a module's constant int -/
theorem pe_cI {X : Cx} {x : Str} {n : Int} {t : Tok} {p : Pos} (h : X.mg x = some (.int n t)) (hg : Gl X x := by rfl) (hd : (x == ("__debug__" : Str)) = false := by decide) : PE X (.Name x p) (tC (.int n)) :=
  pe_glob (v := .int n) hg h ⟨t, rfl⟩ hd
/-- c * n, c one sign -/
theorem op_mulS {X : Cx} : OpR X (binaryOp .Mult) (fun x y H Q => ∃ (c : Nat) (n : Int), x = .str ⟨#[c]⟩ ∧ y = .int n ∧ (0 ≤ n ∧ n ≤ 16000000) ∧ Q (.str ⟨(List.replicate n.toNat c).toArray⟩) H) := by
  intro pins s σ H x y v u Q I rx ry h
  obtain ⟨c, n, rfl, rfl, ⟨n0, n1⟩, q⟩ := h
  obtain ⟨t, rfl⟩ := rx
  obtain ⟨t', rfl⟩ := ry
  have lim : sizeLine = 16777216 := sizeLine_eq
  have fold : ∀ (k : Nat) (a : Array Nat), ((List.replicate k (#[c] : Array Nat)).foldl (· ++ ·) a).toList = a.toList ++ List.replicate k c := by
    intro k
    induction k with
    | zero => intro a; simp
    | succ k ih => intro a; rw [List.replicate_succ, List.foldl_cons, ih, Array.toList_append, List.replicate_succ]; simp
  have e : Txt.mul (⟨#[c]⟩ : Str) n = ⟨(List.replicate n.toNat c).toArray⟩ := by
    unfold Txt.mul
    by_cases h1 : n < 1
    · rw [if_pos h1]
      have : n.toNat = 0 := by omega
      rw [this]; rfl
    · rw [if_neg h1]
      by_cases h2 : n = 1
      · subst h2; rfl
      · have h3 : (n == 1 || (⟨#[c]⟩ : Str).length == 0) = false := by
          have : (n == 1) = false := by simpa using h2
          rw [this]; rfl
        rw [h3, if_neg Bool.false_ne_true]
        refine TL.ext_tl ?_
        show ((List.replicate n.toNat (#[c] : Array Nat)).foldl (· ++ ·) #[]).toList = _
        rw [fold]
        simp [TL.tl]
  refine PySem.SB.mul ⟨?_, fun h1 h2 => ?_, fun h1 h2 => ?_⟩ fun t' k => ?_
  · rw [decide_eq_false (by omega), decide_eq_false (by omega)]; rfl
  · show ¬ ((1 : Int) > (2 ^ 63 - 1) / n)
    have : (1 : Int) ≤ (2 ^ 63 - 1) / n := by
      rw [Int.le_ediv_iff_mul_le (by omega)]
      omega
    omega
  · show PySem.Builtin.Str.tooLong (1 * n.toNat) = false
    rw [Nat.one_mul]
    unfold PySem.Builtin.Str.tooLong
    simp only [decide_eq_false_iff_not]
    omega
  · rw [e]
    exact ⟨.str _, H, I.tok _, ⟨_, rfl⟩, q⟩
theorem dig_len {n : Nat} (h : n < 10 ^ 20) : (dig n).length ≤ 20 := TL.numL_len (by decide) h
theorem txt_size {n : Nat} : ∀ {t : Tr}, pl n t = true → fit t = true → sml t = true → (txt t).length ≤ 10000100
  | .int i, h, _, _ => by
    have h : (decide (0 ≤ i) && decide (i ≤ 99999999999999999999)) = true := h
    rw [Bool.and_eq_true, decide_eq_true_eq, decide_eq_true_eq] at h
    have := dig_len (n := i.toNat) (by omega)
    show (dig i.toNat ++ [46]).length ≤ _
    rw [List.length_append]
    show _ + 1 ≤ _
    omega
  | .str z, _, _, hs => by
    have h : z.length ≤ 10000000 := of_decide_eq_true hs
    have := dig_len (n := z.length) (by omega)
    show (dig z.length ++ 58 :: TL.tl z).length ≤ _
    rw [List.length_append, List.length_cons, ← TL.len_tl]
    omega
  | .tup ts, _, h, _ => by
    have h : (fits ts && decide ((txts ts).length + 2 ≤ 100000)) = true := h
    rw [Bool.and_eq_true, decide_eq_true_eq] at h
    show (91 :: (txts ts ++ [93])).length ≤ _
    rw [List.length_cons, List.length_append]
    show _ + 1 + 1 ≤ _
    omega
  | .oth _, h, _, _ => by cases h
theorem S_len (l : List Nat) : (⟨l.toArray⟩ : Str).length = l.length := by
  show l.toArray.size = _
  rw [List.size_toArray]
/-- str(n) -/
theorem toString_S (n : Nat) : Str.ofString (toString ((n : Nat) : Int)) = ⟨(dig n).toArray⟩ := TL.ext_tl (TL.tl_num n)
theorem app_S (a b : List Nat) : (⟨a.toArray⟩ : Str) ++ (⟨b.toArray⟩ : Str) = ⟨(a ++ b).toArray⟩ := TL.ext_tl (by rw [TL.tl_append])
theorem S_of (z : Str) : z = ⟨(TL.tl z).toArray⟩ := (TL.mk_tl z).symm
theorem log_small {i : Int} (h0 : 0 ≤ i) (h : i ≤ 99999999999999999999) : i.natAbs.log2 < 1920 := by
  by_cases z : i.natAbs = 0
  · rw [z]; decide
  · have := (Nat.log2_lt (k := 70) z).mpr (by omega)
    omega
theorem pls_mem {n : Nat} {t : Tr} : ∀ {ts : List Tr}, pls n ts = true → t ∈ ts → pl n t = true
  | u :: ts, h, m => by
    have h : (pl n u && pls n ts) = true := h
    rw [Bool.and_eq_true] at h
    rcases List.mem_cons.mp m with rfl | m
    · exact h.1
    · exact pls_mem h.2 m
theorem fits_mem {t : Tr} : ∀ {ts : List Tr}, fits ts = true → t ∈ ts → fit t = true
  | u :: ts, h, m => by
    have h : (fit u && fits ts) = true := h
    rw [Bool.and_eq_true] at h
    rcases List.mem_cons.mp m with rfl | m
    · exact h.1
    · exact fits_mem h.2 m
theorem smls_mem {t : Tr} : ∀ {ts : List Tr}, smls ts = true → t ∈ ts → sml t = true
  | u :: ts, h, m => by
    have h : (sml u && smls ts) = true := h
    rw [Bool.and_eq_true] at h
    rcases List.mem_cons.mp m with rfl | m
    · exact h.1
    · exact smls_mem h.2 m
theorem take_one {α : Type} {l : List α} {i : Nat} {x : α} (h : l[i]? = some x) : l.take (i + 1) = l.take i ++ [x] := by
  rw [List.take_add_one, h]; rfl
/-- the texts of items, as Python's texts -/
def tys (ts : List Tr) : List Str := ts.map fun t => (⟨(txt t).toArray⟩ : Str)
theorem tys_app (ts us : List Tr) : tys (ts ++ us) = tys ts ++ tys us := List.map_append
theorem tl_tys : ∀ ts : List Tr, TL.tl (Txt.join (Str.ofString "") (tys ts)) = txts ts := by
  intro ts
  rw [tl_joinE]
  induction ts with
  | nil => rfl
  | cons t ts ih =>
    show txt t ++ ((tys ts).map TL.tl).flatten = txt t ++ txts ts
    rw [ih]
theorem tys_sum : ∀ ts : List Tr, ((tys ts).map (·.length)).sum = (txts ts).length
  | [] => rfl
  | t :: ts => by
    show (⟨(txt t).toArray⟩ : Str).length + ((tys ts).map (·.length)).sum = (txt t ++ txts ts).length
    rw [tys_sum ts, S_len, List.length_append]
theorem take_le : ∀ (ts : List Tr) (i : Nat), (txts (ts.take i)).length ≤ (txts ts).length
  | [], i => by rw [List.take_nil]; exact Nat.le_refl _
  | t :: ts, 0 => Nat.zero_le _
  | t :: ts, i + 1 => by
    show (txt t ++ txts (ts.take i)).length ≤ (txt t ++ txts ts).length
    have := take_le ts i
    rw [List.length_append, List.length_append]
    omega
theorem TabG.ne_lst {Pt p : Addr} {H : Hp} {xs : List V} (g : GxR.TabG H Pt) (h : H p = some (.lst xs)) : p ≠ Pt := by
  obtain ⟨ps, e, _⟩ := g
  exact ne_of h e (by intro z; cases z)
theorem TabG.upd {Pt p : Addr} {H : Hp} {o : HO} (g : GxR.TabG H Pt) (n : p ≠ Pt) : GxR.TabG (upd H p o) Pt := by
  obtain ⟨ps, e, q⟩ := g
  exact ⟨ps, by rw [upd_ne (Ne.symm n)]; exact e, q⟩
end SC

/-! decode: what its readings want -/
namespace SC
open PySem L2
theorem no_oth : ∀ {n : Nat} {l r : List Nat} {v : V}, pval n l ≠ some (.oth v, r) := by
  have lf : ∀ {l r : List Nat} {v : V}, leaf l ≠ some (.oth v, r) := fun {l r v} h => by
    unfold leaf at h
    split at h
    · split at h
      · cases h
      · split at h <;> cases h
      · cases h
    · cases h
  intro n l r v h
  cases n with
  | zero =>
    unfold pval at h
    split at h
    · cases h
    · exact lf h
  | succ n =>
    unfold pval at h
    split at h
    · split at h <;> cases h
    · exact lf h
theorem pval_dec {n : Nat} {l r : List Nat} {t : Tr} (h : pval n l = some (t, r)) : r.length < l.length := by
  have e := (pval_back n l r t h).1
  have pos : 0 < (txt t).length := by
    cases t with
    | int i => show 0 < (dig i.toNat ++ [46]).length; rw [List.length_append]; show 0 < _ + 1; omega
    | str z => show 0 < (dig z.length ++ 58 :: TL.tl z).length; rw [List.length_append, List.length_cons]; omega
    | tup ts => show 0 < (91 :: (txts ts ++ [93])).length; rw [List.length_cons]; omega
    | oth v => exact absurd h no_oth
  rw [e, List.length_append]
  omega
theorem items_fuel {n : Nat} : ∀ (k : Nat) (l : List Nat) (f g : Nat), l.length = k → l.length < f → l.length < g → items (pval n) f l = items (pval n) g l := by
  intro k
  induction k using Nat.strongRecOn with
  | _ k ih =>
    intro l f g hk hf hg
    cases f with
    | zero => omega
    | succ f =>
      cases g with
      | zero => omega
      | succ g =>
        unfold items
        split
        · rfl
        · cases e : pval n l with
          | none => rfl
          | some x =>
            obtain ⟨t, r⟩ := x
            have := pval_dec e
            simp only
            rw [ih r.length (by omega) r f g rfl (by omega) (by omega)]
def itm (n : Nat) (l : List Nat) : Option (List Tr × List Nat) := items (pval n) (l.length + 1) l
theorem itm_close (n : Nat) (r : List Nat) : itm n (93 :: r) = some ([], r) := rfl
theorem itm_step {n : Nat} {l : List Nat} (h : l.head? ≠ some 93) : itm n l = match pval n l with
    | none => none
    | some (t, r) => (itm n r).map fun x => (t :: x.1, x.2) := by
  unfold itm
  cases l with
  | nil =>
    unfold items
    simp only
    cases e : pval n [] with
    | none => rfl
    | some x => obtain ⟨t, r⟩ := x; exact absurd (pval_dec e) (by simp)
  | cons a l =>
    have ha : a ≠ 93 := fun z => h (by rw [z]; rfl)
    rw [show items (pval n) ((a :: l).length + 1) (a :: l) = match pval n (a :: l) with
      | none => none
      | some (t, r) => match items (pval n) (a :: l).length r with
        | none => none
        | some (ts, r2) => some (t :: ts, r2) from by
      conv => lhs; unfold items
      split
      · rename_i z; injection z with z _; exact absurd z ha
      · rfl]
    cases e : pval n (a :: l) with
    | none => rfl
    | some x =>
      obtain ⟨t, r⟩ := x
      have := pval_dec e
      simp only
      rw [items_fuel r.length r (a :: l).length (r.length + 1) rfl (by omega) (by omega)]
      cases items (pval n) (r.length + 1) r with
      | none => rfl
      | some y => rfl
theorem pval_br (n : Nat) (r : List Nat) : pval (n + 1) (91 :: r) = (itm n r).map fun x => (.tup x.1, x.2) := by
  unfold pval itm
  simp only
  cases items (pval n) (r.length + 1) r with
  | none => rfl
  | some x => rfl
/-- a slice of a text by natural bounds -/
theorem cut_nat (z : Str) {a b : Nat} (h : a ≤ b) : TL.tl (cutS z (some (a : Int)) (some (b : Int))) = ((TL.tl z).drop a).take (b - a) := by
  show (z.cps.toList.drop (HT.sIx z.length 0 (some (a : Int)))).take (HT.sIx z.length z.length (some (b : Int)) - HT.sIx z.length 0 (some (a : Int))) = _
  have sx : ∀ (k d : Nat), HT.sIx z.length d (some (k : Int)) = min k z.length := fun k d => by
    show (if (k : Int) < 0 then ((k : Int) + (z.length : Int)).toNat else min (k : Int).toNat z.length) = _
    rw [if_neg (by omega), Int.toNat_natCast]
  rw [sx, sx]
  have el : z.cps.toList.length = z.length := (TL.len_tl z).symm
  by_cases ha : a ≤ z.length
  · rw [Nat.min_eq_left ha]
    by_cases hb : b ≤ z.length
    · rw [Nat.min_eq_left hb]
    · rw [Nat.min_eq_right (by omega), List.take_of_length_le (by rw [List.length_drop]; omega), List.take_of_length_le (by rw [List.length_drop, show (TL.tl z).length = z.length from el]; omega)]
  · rw [Nat.min_eq_right (by omega), Nat.min_eq_right (by omega), Nat.sub_self, List.take_zero]
    rw [List.drop_eq_nil_of_le (by rw [show (TL.tl z).length = z.length from el]; omega), List.take_nil]
theorem cut_one (z : Str) (a : Nat) : TL.tl (cutS z (some (a : Int)) (some ((a : Int) + 1))) = ((TL.tl z).drop a).take 1 := by
  have h := cut_nat z (a := a) (b := a + 1) (Nat.le_succ a)
  rw [show a + 1 - a = 1 by omega] at h
  exact h
/-- a one-sign slice compared with a sign -/
theorem one_sign_eq {x : Str} {d : List Nat} {c : Nat} (h : TL.tl x = d.take 1) : x = ⟨#[c]⟩ ↔ d.head? = some c := by
  constructor
  · intro e
    have e2 : TL.tl x = [c] := by rw [e]
    rw [h] at e2
    cases d with
    | nil => cases e2
    | cons a d => injection e2 with e2 _; rw [e2]; rfl
  · intro e
    cases d with
    | nil => cases e
    | cons a d =>
      have : a = c := Option.some.inj e
      subst this
      exact TL.ext_tl (by rw [h]; rfl)
section
variable {H H' : Hp}
theorem tyN_kp0 {v : V} {t : String} (k : Kp [] H H') (h : tyN H v = some t) : tyN H' v = some t := by
  cases v with
  | ref p =>
    unfold tyN at h
    simp only at h
    split at h
    · rename_i xs q; cases h; exact tyN_lst (k.keep _ _ (by simp) q)
    · rename_i xs q; cases h; exact tyN_tup (k.keep _ _ (by simp) q)
    · rename_i xs q; cases h; exact tyN_dK (k.keep _ _ (by simp) q)
    · cases h
  | _ => exact h
mutual
theorem Rep.kp0 (k : Kp [] H H') : ∀ {v : V} {t : Tr}, Rep H v t → Rep H' v t
  | _, _, .int i => .int i
  | _, _, .str z => .str z
  | _, _, .tup e h => .tup (k.tup _ _ e) (h.kp0 k)
  | _, _, .oth e a b c => .oth (tyN_kp0 k e) a b c
theorem RepAll.kp0 (k : Kp [] H H') : ∀ {vs : List V} {ts : List Tr}, RepAll H vs ts → RepAll H' vs ts
  | _, _, .nil => .nil
  | _, _, .cons a b => .cons (a.kp0 k) (b.kp0 k)
end
end
theorem takeWhile_take (l : List Nat) : l.take (l.takeWhile isD).length = l.takeWhile isD ∧ l.drop (l.takeWhile isD).length = l.dropWhile isD := by
  induction l with
  | nil => exact ⟨rfl, rfl⟩
  | cons a l ih =>
    cases h : isD a with
    | true => simp [List.takeWhile, List.dropWhile, h, ih.1, ih.2]
    | false => simp [List.takeWhile, List.dropWhile, h]
theorem tw_next : ∀ (D : List Nat) (k : Nat), k ≤ (D.takeWhile isD).length → (∃ c r, D.drop k = c :: r ∧ isD c = true ∧ k < (D.takeWhile isD).length) ∨ (k = (D.takeWhile isD).length ∧ (D.drop k = [] ∨ ∃ c r, D.drop k = c :: r ∧ isD c = false))
  | [], k, h => by
    have : k = 0 := Nat.le_zero.mp h
    subst this
    exact .inr ⟨rfl, .inl rfl⟩
  | a :: D, 0, h => by
    cases ha : isD a with
    | true => exact .inl ⟨a, D, rfl, ha, by simp [List.takeWhile, ha]⟩
    | false => exact .inr ⟨by simp [List.takeWhile, ha], .inr ⟨a, D, rfl, ha⟩⟩
  | a :: D, k + 1, h => by
    cases ha : isD a with
    | true =>
      have e : (a :: D).takeWhile isD = a :: D.takeWhile isD := by simp [List.takeWhile, ha]
      rw [e] at h ⊢
      have h : k + 1 ≤ (D.takeWhile isD).length + 1 := h
      rcases tw_next D k (by omega) with ⟨c, r, q1, q2, q3⟩ | ⟨q1, q2⟩
      · exact .inl ⟨c, r, q1, q2, by show k + 1 < _ + 1; omega⟩
      · exact .inr ⟨by show k + 1 = _ + 1; omega, q2⟩
    | false =>
      have e : (a :: D).takeWhile isD = [] := by simp [List.takeWhile, ha]
      rw [e] at h
      exact absurd h (by simp)
theorem lt48 {x : Str} {d : List Nat} (h : TL.tl x = d.take 1) : (x.cps.toList < (Str.ofString "0").cps.toList) ↔ (d = [] ∨ ∃ c r, d = c :: r ∧ c < 48) := by
  have e : (Str.ofString "0").cps.toList = [48] := by decide +kernel
  rw [e, show x.cps.toList = d.take 1 from h]
  cases d with
  | nil => exact ⟨fun _ => .inl rfl, fun _ => List.Lex.nil⟩
  | cons c r =>
    show ([c] < [48]) ↔ _
    rw [one_lt]
    constructor
    · intro q; exact .inr ⟨c, r, rfl, q⟩
    · rintro (q | ⟨c', r', q, q2⟩)
      · cases q
      · injection q with q _; rw [q]; exact q2
theorem lt57 {x : Str} {c : Nat} {r : List Nat} (h : TL.tl x = (c :: r).take 1) : ((Str.ofString "9").cps.toList < x.cps.toList) ↔ 57 < c := by
  have e : (Str.ofString "9").cps.toList = [57] := by decide +kernel
  rw [e, show x.cps.toList = [c] from h]
  exact one_lt
section
variable {H : Hp} {p : Addr} {xs ys : List V}
theorem tyN_updL (h : H p = some (.lst xs)) {v : V} {t : String} (e : tyN H v = some t) : tyN (upd H p (.lst ys)) v = some t := by
  cases v with
  | ref a =>
    by_cases c : a = p
    · subst c
      rw [tyN_lst h] at e
      rw [tyN_lst upd_same]
      exact e
    · unfold tyN at e ⊢
      simp only at e ⊢
      rw [upd_ne c]
      exact e
  | _ => exact e
mutual
theorem Rep.updL (h : H p = some (.lst xs)) : ∀ {v : V} {t : Tr}, Rep H v t → Rep (upd H p (.lst ys)) v t
  | _, _, .int i => .int i
  | _, _, .str z => .str z
  | _, _, .tup e q => .tup (by rw [upd_ne (ne_of e h (by intro z; cases z))]; exact e) (q.updL h)
  | _, _, .oth e a b c => .oth (tyN_updL h e) a b c
theorem RepAll.updL (h : H p = some (.lst xs)) : ∀ {vs : List V} {ts : List Tr}, RepAll H vs ts → RepAll (upd H p (.lst ys)) vs ts
  | _, _, .nil => .nil
  | _, _, .cons a b => .cons (a.updL h) (b.updL h)
end
end
end SC

/-! values that a law draws: their bounds -/
namespace SC
open PySem L2
theorem ok_never {P : Program} {w : World} {K : PySem.W.Frag} {mg : Str → Option Value} {base : Heap} {CX : CXT} {k : Nat} {f : Addr} {fd : FuncData} {ps : List Str} : FnOk P w K mg base CX k f fd ps (fun _ _ _ _ => False) :=
  ⟨fun _ _ _ _ h => h.elim, fun _ _ _ _ _ _ _ _ _ _ _ _ _ h => h.elim⟩
mutual
/-- how many tuples -/
def nT : Tr → Nat
  | .tup ts => 1 + nTs ts
  | _ => 0
def nTs : List Tr → Nat
  | [] => 0
  | t :: ts => nT t + nTs ts
end
mutual
/-- drawn: small leaves, at most three items, at most n deep -/
def gd (n : Nat) : Tr → Bool
  | .int i => decide (0 ≤ i) && decide (i ≤ 99999999999999999999)
  | .str z => decide (z.length ≤ 105) && prn z
  | .tup ts => match n with
    | 0 => false
    | m + 1 => decide (ts.length ≤ 3) && gds m ts
  | .oth _ => false
def gds (n : Nat) : List Tr → Bool
  | [] => true
  | t :: ts => gd n t && gds n ts
end
theorem gds_app (n : Nat) : ∀ (ts us : List Tr), gds n (ts ++ us) = (gds n ts && gds n us)
  | [], us => by simp [gds]
  | t :: ts, us => by
    show (gd n t && gds n (ts ++ us)) = ((gd n t && gds n ts) && gds n us)
    rw [gds_app n ts us, Bool.and_assoc]
theorem nTs_app : ∀ (ts us : List Tr), nTs (ts ++ us) = nTs ts + nTs us
  | [], us => by simp [nTs]
  | t :: ts, us => by
    show nT t + nTs (ts ++ us) = (nT t + nTs ts) + nTs us
    rw [nTs_app ts us, Nat.add_assoc]
mutual
theorem gd_pl : ∀ (n : Nat) (t : Tr), gd n t = true → pl n t = true ∧ sml t = true
  | n, .int i, h => ⟨h, rfl⟩
  | n, .str z, h => by
    have h : (decide (z.length ≤ 105) && prn z) = true := h
    rw [Bool.and_eq_true, decide_eq_true_eq] at h
    exact ⟨h.2, by show decide (z.length ≤ 10000000) = true; rw [decide_eq_true (by omega)]⟩
  | 0, .tup ts, h => by cases h
  | n + 1, .tup ts, h => by
    have h : (decide (ts.length ≤ 3) && gds n ts) = true := h
    rw [Bool.and_eq_true, decide_eq_true_eq] at h
    obtain ⟨q1, q2⟩ := gds_pl n ts h.2
    exact ⟨q1, by show (smls ts && decide (ts.length ≤ 1000000)) = true; rw [q2, decide_eq_true (by omega)]; rfl⟩
  | _, .oth _, h => by cases h
theorem gds_pl : ∀ (n : Nat) (ts : List Tr), gds n ts = true → pls n ts = true ∧ smls ts = true
  | _, [], _ => ⟨rfl, rfl⟩
  | n, t :: ts, h => by
    have h : (gd n t && gds n ts) = true := h
    rw [Bool.and_eq_true] at h
    obtain ⟨a1, a2⟩ := gd_pl n t h.1
    obtain ⟨b1, b2⟩ := gds_pl n ts h.2
    exact ⟨by show (pl n t && pls n ts) = true; rw [a1, b1]; rfl, by show (sml t && smls ts) = true; rw [a2, b2]; rfl⟩
end
mutual
theorem gd_len : ∀ (n : Nat) (t : Tr), gd n t = true → (txt t).length ≤ 130 + 400 * nT t
  | n, .int i, h => by
    have h : (decide (0 ≤ i) && decide (i ≤ 99999999999999999999)) = true := h
    rw [Bool.and_eq_true, decide_eq_true_eq, decide_eq_true_eq] at h
    have := dig_len (n := i.toNat) (by omega)
    show (dig i.toNat ++ [46]).length ≤ _
    rw [List.length_append]
    show _ + 1 ≤ _
    omega
  | n, .str z, h => by
    have h : (decide (z.length ≤ 105) && prn z) = true := h
    rw [Bool.and_eq_true, decide_eq_true_eq] at h
    have := dig_len (n := z.length) (by omega)
    show (dig z.length ++ 58 :: TL.tl z).length ≤ _
    rw [List.length_append, List.length_cons, ← TL.len_tl]
    omega
  | 0, .tup ts, h => by cases h
  | n + 1, .tup ts, h => by
    have h : (decide (ts.length ≤ 3) && gds n ts) = true := h
    rw [Bool.and_eq_true, decide_eq_true_eq] at h
    have := gds_len n ts h.2
    show (91 :: (txts ts ++ [93])).length ≤ 130 + 400 * (1 + nTs ts)
    rw [List.length_cons, List.length_append]
    show _ + 1 + 1 ≤ _
    omega
  | _, .oth _, h => by cases h
theorem gds_len : ∀ (n : Nat) (ts : List Tr), gds n ts = true → (txts ts).length ≤ 130 * ts.length + 400 * nTs ts
  | _, [], _ => Nat.zero_le _
  | n, t :: ts, h => by
    have h : (gd n t && gds n ts) = true := h
    rw [Bool.and_eq_true] at h
    have a := gd_len n t h.1
    have b := gds_len n ts h.2
    show (txt t ++ txts ts).length ≤ 130 * (ts.length + 1) + 400 * (nT t + nTs ts)
    rw [List.length_append]
    omega
end
mutual
theorem pl_mono : ∀ (n m : Nat) (t : Tr), n ≤ m → pl n t = true → pl m t = true
  | _, _, .int _, _, h => h
  | _, _, .str _, _, h => h
  | 0, _, .tup _, _, h => by cases h
  | n + 1, 0, .tup _, q, _ => by omega
  | n + 1, m + 1, .tup ts, q, h => pls_mono n m ts (by omega) h
  | _, _, .oth _, _, h => h
theorem pls_mono : ∀ (n m : Nat) (ts : List Tr), n ≤ m → pls n ts = true → pls m ts = true
  | _, _, [], _, _ => rfl
  | n, m, t :: ts, q, h => by
    have h : (pl n t && pls n ts) = true := h
    rw [Bool.and_eq_true] at h
    show (pl m t && pls m ts) = true
    rw [pl_mono n m t q h.1, pls_mono n m ts q h.2]
    rfl
end
mutual
/-- no other kind within: such values stand whatever lists change -/
def pure_ : Tr → Bool
  | .oth _ => false
  | .tup ts => pures ts
  | _ => true
def pures : List Tr → Bool
  | [] => true
  | t :: ts => pure_ t && pures ts
end
mutual
theorem pl_pure : ∀ (n : Nat) (t : Tr), pl n t = true → pure_ t = true
  | _, .int _, _ => rfl
  | _, .str _, _ => rfl
  | 0, .tup _, h => by cases h
  | n + 1, .tup ts, h => pls_pure n ts h
  | _, .oth _, h => by cases h
theorem pls_pure : ∀ (n : Nat) (ts : List Tr), pls n ts = true → pures ts = true
  | _, [], _ => rfl
  | n, t :: ts, h => by
    have h : (pl n t && pls n ts) = true := h
    rw [Bool.and_eq_true] at h
    show (pure_ t && pures ts) = true
    rw [pl_pure n t h.1, pls_pure n ts h.2]
    rfl
end
mutual
theorem Rep.any {S : List Addr} {H H' : Hp} (k : Kp S H H') : ∀ {v : V} {t : Tr}, Rep H v t → pure_ t = true → Rep H' v t
  | _, _, .int i, _ => .int i
  | _, _, .str z, _ => .str z
  | _, _, .tup e q, h => .tup (k.tup _ _ e) (q.any k h)
  | _, _, .oth _ _ _ _, h => by cases h
theorem RepAll.any {S : List Addr} {H H' : Hp} (k : Kp S H H') : ∀ {vs : List V} {ts : List Tr}, RepAll H vs ts → pures ts = true → RepAll H' vs ts
  | _, _, .nil, _ => .nil
  | _, t :: ts, .cons a b, h => by
    have h : (pure_ t && pures ts) = true := h
    rw [Bool.and_eq_true] at h
    exact .cons (a.any k h.1) (b.any k h.2)
end
mutual
/-- the law's own comparison -/
def same : Tr → Tr → Bool
  | .tup us, .tup ts => sames us ts
  | .str a, .str b => decide (a = b)
  | .int a, .int b => decide (a = b)
  | _, _ => false
def sames : List Tr → List Tr → Bool
  | [], [] => true
  | u :: us, t :: ts => same u t && sames us ts
  | _, _ => false
end
mutual
theorem same_refl : ∀ (n : Nat) (t : Tr), pl n t = true → same t t = true
  | _, .int _, _ => by show decide _ = true; exact decide_eq_true rfl
  | _, .str _, _ => by show decide _ = true; exact decide_eq_true rfl
  | 0, .tup _, h => by cases h
  | n + 1, .tup ts, h => sames_refl n ts h
  | _, .oth _, h => by cases h
theorem sames_refl : ∀ (n : Nat) (ts : List Tr), pls n ts = true → sames ts ts = true
  | _, [], _ => rfl
  | n, t :: ts, h => by
    have h : (pl n t && pls n ts) = true := h
    rw [Bool.and_eq_true] at h
    show (same t t && sames ts ts) = true
    rw [same_refl n t h.1, sames_refl n ts h.2]
    rfl
end
mutual
theorem same_eq : ∀ (a b : Tr), same a b = true → a = b
  | .tup us, .tup ts, h => by rw [sames_eq us ts h]
  | .str a, .str b, h => by rw [of_decide_eq_true (show decide (a = b) = true from h)]
  | .int a, .int b, h => by rw [of_decide_eq_true (show decide (a = b) = true from h)]
  | .oth _, .oth _, h => by cases h
  | .oth _, .int _, h => by cases h
  | .oth _, .str _, h => by cases h
  | .oth _, .tup _, h => by cases h
  | .int _, .oth _, h => by cases h
  | .int _, .str _, h => by cases h
  | .int _, .tup _, h => by cases h
  | .str _, .oth _, h => by cases h
  | .str _, .int _, h => by cases h
  | .str _, .tup _, h => by cases h
  | .tup _, .oth _, h => by cases h
  | .tup _, .int _, h => by cases h
  | .tup _, .str _, h => by cases h
theorem sames_eq : ∀ (us ts : List Tr), sames us ts = true → us = ts
  | [], [], _ => rfl
  | u :: us, t :: ts, h => by
    have h : (same u t && sames us ts) = true := h
    rw [Bool.and_eq_true] at h
    rw [same_eq u t h.1, sames_eq us ts h.2]
  | [], _ :: _, h => by cases h
  | _ :: _, [], h => by cases h
end
theorem sames_len : ∀ {us ts : List Tr}, sames us ts = true → us.length = ts.length := fun h => by rw [sames_eq _ _ h]
/-- one promise for all depths up to a bound -/
theorem fnok_ex {P : Program} {w : World} {K : PySem.W.Frag} {mg : Str → Option Value} {base : Heap} {CX : CXT} {k : Nat} {f : Addr} {fd : FuncData} {ps : List Str} {sp : Nat → Sp} {N : Nat} (h : ∀ n, n ≤ N → FnOk P w K mg base CX k f fd ps (sp n)) :
    FnOk P w K mg base CX k f fd ps (fun vs H Q E => ∃ n, n ≤ N ∧ sp n vs H Q E) :=
  ⟨fun vs H Q E ⟨n, hn, q⟩ => (h n hn).len vs H Q E q, fun A outer s H args us vs Q E hr he hb hv ⟨n, hn, q⟩ => (h n hn).run A outer s H args us vs Q E hr he hb hv q⟩
theorem strT {z : Str} (hz : z.length ≤ 10000000) : z.length ≤ sizeLine ∧ (z.length : Int).natAbs.log2 < 1920 ∧ (Str.ofString (toString (z.length : Int))).length + (Str.ofString ":").length ≤ sizeLine ∧
    (Str.ofString (toString (z.length : Int)) ++ Str.ofString ":").length + z.length ≤ sizeLine ∧ Str.ofString (toString (z.length : Int)) ++ Str.ofString ":" ++ z = ⟨(txt (.str z)).toArray⟩ := by
  have lim : sizeLine = 16777216 := sizeLine_eq
  have dl := dig_len (n := z.length) (by omega)
  have e1 : (Str.ofString (toString (z.length : Int))).length ≤ 20 := by rw [toString_S, S_len]; exact dl
  have e2 : (Str.ofString ":").length = 1 := by decide +kernel
  have e3 : (Str.ofString (toString (z.length : Int)) ++ Str.ofString ":").length ≤ 21 := by
    rw [TL.len_tl, TL.tl_append, List.length_append, ← TL.len_tl, ← TL.len_tl]; omega
  refine ⟨by omega, log_small (by omega) (by omega), by omega, by omega, TL.ext_tl ?_⟩
  rw [TL.tl_append, TL.tl_append, TL.tl_num]
  show (dig z.length ++ [58]) ++ TL.tl z = dig z.length ++ 58 :: TL.tl z
  rw [List.append_assoc]; rfl
theorem intT {i : Int} (h0 : 0 ≤ i) (h1 : i ≤ 99999999999999999999) : i.natAbs.log2 < 1920 ∧ (Str.ofString (toString i)).length + (Str.ofString ".").length ≤ sizeLine ∧ Str.ofString (toString i) ++ Str.ofString "." = ⟨(txt (.int i)).toArray⟩ := by
  have lim : sizeLine = 16777216 := sizeLine_eq
  have ei : i = ((i.toNat : Nat) : Int) := by omega
  have dl := dig_len (n := i.toNat) (by omega)
  have e2 : (Str.ofString ".").length = 1 := by decide +kernel
  have e1 : (Str.ofString (toString i)).length ≤ 20 := by rw [ei, toString_S, S_len]; exact dl
  refine ⟨log_small h0 h1, by omega, TL.ext_tl ?_⟩
  rw [TL.tl_append]
  show TL.tl (Str.ofString (toString i)) ++ [46] = dig i.toNat ++ [46]
  rw [show TL.tl (Str.ofString (toString i)) = dig i.toNat by rw [ei]; exact TL.tl_num _]
theorem tupT (ts : List Tr) (h : (txts ts).length ≤ 16000000) : ((tys ts).map (·.length)).sum + (tys ts).length * (Str.ofString "").length ≤ 16777216 ∧ (Str.ofString "[").length + (Txt.join (Str.ofString "") (tys ts)).length ≤ sizeLine ∧
    (Str.ofString "[" ++ Txt.join (Str.ofString "") (tys ts)).length + (Str.ofString "]").length ≤ sizeLine ∧ Str.ofString "[" ++ Txt.join (Str.ofString "") (tys ts) ++ Str.ofString "]" = ⟨(txt (.tup ts)).toArray⟩ := by
  have lim : sizeLine = 16777216 := sizeLine_eq
  have h2 : (Str.ofString "]").length = 1 := by decide +kernel
  have h1 : (Str.ofString "[").length = 1 := by decide +kernel
  refine ⟨?_, ?_, ?_, TL.ext_tl ?_⟩
  · rw [tys_sum]
    show _ + (tys ts).length * 0 ≤ _
    omega
  · rw [h1, TL.len_tl, tl_tys]; omega
  · rw [TL.len_tl, TL.tl_append, List.length_append, ← TL.len_tl, h1, tl_tys, h2]; omega
  · rw [TL.tl_append, TL.tl_append, tl_tys]
    rfl
theorem sames_cat {u t : Tr} (h : same u t = true) : ∀ (us ts : List Tr), sames us ts = true → sames (us ++ [u]) (ts ++ [t]) = true
  | [], [], _ => by show (same u t && true) = true; rw [h]; rfl
  | a :: us, b :: ts, q => by
    have q : (same a b && sames us ts) = true := q
    rw [Bool.and_eq_true] at q
    show (same a b && sames (us ++ [u]) (ts ++ [t])) = true
    rw [q.1, sames_cat h us ts q.2]; rfl
  | [], _ :: _, q => by cases q
  | _ :: _, [], q => by cases q
theorem dig_prc (n : Nat) : ∀ c ∈ dig n, prc c = true := fun c hc => by
  obtain ⟨h1, h2⟩ := isD_iff.mp (dig_isD n c hc)
  unfold prc
  rw [decide_eq_true (by omega), decide_eq_true (by omega), decide_eq_false (by omega)]
  rfl
mutual
theorem txt_prc : ∀ (n : Nat) (t : Tr), pl n t = true → ∀ c ∈ txt t, prc c = true
  | n, .int i, _, c, h => by
    rcases List.mem_append.mp (show c ∈ dig i.toNat ++ [46] from h) with h | h
    · exact dig_prc _ c h
    · rw [List.mem_singleton.mp h]; decide
  | n, .str z, hp, c, h => by
    rcases List.mem_append.mp (show c ∈ dig z.length ++ 58 :: TL.tl z from h) with h | h
    · exact dig_prc _ c h
    · rcases List.mem_cons.mp h with h | h
      · rw [h]; decide
      · have hp : prn z = true := hp
        unfold prn at hp
        exact List.all_eq_true.mp hp c h
  | 0, .tup ts, hp, c, h => by cases hp
  | n + 1, .tup ts, hp, c, h => by
    rcases List.mem_cons.mp (show c ∈ 91 :: (txts ts ++ [93]) from h) with h | h
    · rw [h]; decide
    · rcases List.mem_append.mp h with h | h
      · exact txts_prc n ts hp c h
      · rw [List.mem_singleton.mp h]; decide
  | _, .oth _, hp, _, _ => by cases hp
theorem txts_prc : ∀ (n : Nat) (ts : List Tr), pls n ts = true → ∀ c ∈ txts ts, prc c = true
  | _, [], _, c, h => by cases h
  | n, t :: ts, hp, c, h => by
    have hp : (pl n t && pls n ts) = true := hp
    rw [Bool.and_eq_true] at hp
    rcases List.mem_append.mp (show c ∈ txt t ++ txts ts from h) with h | h
    · exact txt_prc n t hp.1 c h
    · exact txts_prc n ts hp.2 c h
end
theorem txt_prn {n : Nat} {t : Tr} (h : pl n t = true) : prn ⟨(txt t).toArray⟩ = true := by
  unfold prn
  exact List.all_eq_true.mpr fun c hc => txt_prc n t h c (by simpa using hc)
end SC

namespace SC
open PySem L2 PyProof.Rows
theorem hexF (n : Nat) : PyProof.Rows.intField' { align := 62, type := some 120 } false [] ((Nat.toDigits 16 n).map fun c => (if (120 : Nat) == 88 then c.toUpper else c).toNat) [] 4 = ⟨((Nat.toDigits 16 n).map Char.toNat).toArray⟩ := by
  have e : ((Nat.toDigits 16 n).map fun c => (if (120 : Nat) == 88 then c.toUpper else c).toNat) = (Nat.toDigits 16 n).map Char.toNat := by
    apply List.map_congr_left
    intro c _
    rw [if_neg (by decide)]
  rw [e]
  unfold PyProof.Rows.intField'
  have hd : ((Nat.toDigits 16 n).map Char.toNat).isEmpty = false := by
    have := tDigits_len_ge 16 n
    cases h : Nat.toDigits 16 n with
    | nil => rw [h] at this; simp at this
    | cons _ _ => rfl
  generalize (Nat.toDigits 16 n).map Char.toNat = ds at hd ⊢
  simp [hd]
open PySem.W PySem.Calls Builtin Builtin.Str Builtin.Int Builtin.Float in
theorem fld_hex {prog : Program} {w : World} {A : Around} {E : Value → Shared → Prop} {s : Shared} {t : Tok} {n : Nat} {Q : Value → Shared → Prop} (hn : (Nat.toDigits 16 n).length ≤ 1000)
    (h : ∀ t' k, Q (.str ⟨((Nat.toDigits 16 n).map Char.toNat).toArray⟩ t') { s with toks := k }) : wpAny (model prog w) A (formatField (.int (n : Int) t) (PySem.Str.ofString "x")) Q E s := by
  refine PySem.W.KXf.field_int rfl (by decide) (by decide) ?_ h
  intro u
  apply PySem.W.KPc.meets_of
  intro p1 w1 A1 s1 Q1 E1 h1
  unfold Builtin.«int.__format__»
  have hne : ((Str.ofString "x").length == 0) = false := by decide
  have hasc : (((Str.ofString "x").cps.toList.drop 1).any (· ≥ 128) || ((Str.ofString "x").cps.getD 0 0 ≥ 128 && !([60, 62, 61, 94] : List Nat).contains ((Str.ofString "x").cps.getD 1 0))) = false := by decide
  simp only [selfAndOne, noKeywords, Int.intOfSelf, asInt?, asStr?, List.isEmpty_nil, if_true, pure_bind, bind_pure, bind_assoc, hne, hasc, Bool.false_eq_true, if_false,
    show (Value.str (Str.ofString "x") u == Value.none) = false from rfl]
  refine wpAny_bind (wpAny_typeNameOf (T := "str") (typeIs_str _ _ _) (by decide) fun _ => ?_)
  refine wpAny_bind (wpAny_typeNameOfCut_int ?_)
  have hp : parseFormatSpec (Str.ofString "x").cps.toList "int" 62 = .ok { align := 62, type := some 120 } := by rfl
  simp only [hp]
  rw [if_pos (show _ = true by decide)]
  conv => arg 3; whnf
  refine PySem.W.KXf.ret_text (T := ⟨((Nat.toDigits 16 n).map Char.toNat).toArray⟩) ?_ ?_ h1
  · show PyProof.Rows.intField' { align := 62, type := some 120 } (decide ((n : Int) < 0)) [] ((Nat.toDigits 16 ((n : Int)).natAbs).map fun c => (if (120 : Nat) == 88 then c.toUpper else c).toNat) [] 4 = _
    rw [decide_eq_false (by omega), Int.natAbs_natCast]
    exact hexF n
  · show (PyProof.Rows.intField' { align := 62, type := some 120 } (decide ((n : Int) < 0)) [] ((Nat.toDigits 16 ((n : Int)).natAbs).map fun c => (if (120 : Nat) == 88 then c.toUpper else c).toNat) [] 4).length ≤ sizeLine
    rw [decide_eq_false (by omega), Int.natAbs_natCast, hexF n]
    show ((Nat.toDigits 16 n).map Char.toNat).toArray.size ≤ _
    rw [List.size_toArray, List.length_map, sizeLine_eq]
    omega
section
variable {X : Cx}
/-- {n:x} of an int from 0 on -/
def tFmtX (te : TE) : TE := fun σ H Q => te σ H fun x H1 => ∃ n : Nat, x = .int (n : Int) ∧ (Nat.toDigits 16 n).length ≤ 1000 ∧ Q (.str ⟨((Nat.toDigits 16 n).map Char.toNat).toArray⟩) H1
theorem pe_fmtX {e : Expr} {te : TE} {j : Nat} {p1 p2 p3 : Pos} (he : PE X e te) : PE X (.FormattedValue e (-1) (some (.JoinedStr [.Constant (.str "x") j p1] p2)) p3) (tFmtX te) := by
  refine ⟨fun pins s σ H Q I h => ?_⟩
  refine wpAny_FormattedValue_spec (thn (he.run pins s σ H _ I h) fun v s1 hv => ?_)
  obtain ⟨x, H1, I1, r1, n, rfl, hz, q⟩ := hv
  obtain ⟨t, rfl⟩ := r1
  refine thn ((pe_joined1 pe_str).run pins s1 σ H1 (fun y H2 => H2 = H1 ∧ y = .str "x") I1 ⟨rfl, rfl⟩) fun r s2 hr => ?_
  obtain ⟨y, H2, I2, r2, rfl, rfl⟩ := hr
  obtain ⟨t2, rfl⟩ := r2
  exact ⟨_, t2, rfl, fld_hex hz fun t' k => ⟨.str _, H2, I2.tok _, ⟨_, rfl⟩, q⟩⟩
end
/-- a module's constant, its token left open -/
theorem pe_cE {X : Cx} {x : Str} {n : Int} {p : Pos} (h : ∃ t, X.mg x = some (.int n t)) (hg : Gl X x := by rfl) (hd : (x == ("__debug__" : Str)) = false := by decide) : PE X (.Name x p) (tC (.int n)) :=
  let ⟨t, h⟩ := h
  pe_glob (v := .int n) hg h ⟨t, rfl⟩ hd
theorem pe_cSE {X : Cx} {x : Str} {n : Str} {p : Pos} (h : ∃ t, X.mg x = some (.str n t)) (hg : Gl X x := by rfl) (hd : (x == ("__debug__" : Str)) = false := by decide) : PE X (.Name x p) (tC (.str n)) :=
  let ⟨t, h⟩ := h
  pe_glob (v := .str n) hg h ⟨t, rfl⟩ hd

/-! the digest: a number, its 18 hexadecimal signs -/
def dgD : Nat := 2361183241434822606617
def dgF (n c : Nat) : Nat := (n * 65599 + c) % dgD
def rawF (n c : Nat) : Nat := n * 65599 + c
def dgN (cs : List Nat) : Nat := cs.foldl dgF (cs.length + 1)
def rawN (cs : List Nat) : Nat := cs.foldl rawF (cs.length + 1)
theorem fold_mod : ∀ (cs : List Nat) (a b : Nat), a % dgD = b % dgD → (cs.foldl dgF a) % dgD = (cs.foldl rawF b) % dgD
  | [], a, b, h => h
  | c :: cs, a, b, h => by
    rw [List.foldl_cons, List.foldl_cons]
    refine fold_mod cs _ _ ?_
    unfold dgF rawF
    rw [Nat.mod_mod, Nat.add_mod, Nat.mul_mod, h, ← Nat.mul_mod, ← Nat.add_mod]
theorem fold_lt : ∀ (cs : List Nat) (a : Nat), a < dgD → cs.foldl dgF a < dgD
  | [], a, h => h
  | c :: cs, a, h => by
    rw [List.foldl_cons]
    exact fold_lt cs _ (Nat.mod_lt _ (by decide))
theorem dgN_lt (cs : List Nat) : dgN cs < dgD := by
  cases cs with
  | nil => decide
  | cons c cs => exact fold_lt cs _ (Nat.mod_lt _ (by decide))
theorem dgN_raw (cs : List Nat) : rawN cs % dgD = dgN cs := by
  have h := fold_mod cs (cs.length + 1) (cs.length + 1) rfl
  rw [show (cs.foldl dgF (cs.length + 1)) % dgD = cs.foldl dgF (cs.length + 1) from Nat.mod_eq_of_lt (dgN_lt cs)] at h
  exact h.symm
/-- the place of a sign among the sixteen -/
def hxI (c : Nat) : Nat := if c ≤ 57 then c - 48 else c - 87
def hxs : List Nat := [48, 49, 50, 51, 52, 53, 54, 55, 56, 57, 97, 98, 99, 100, 101, 102]
def hxV (l : List Nat) : Nat := l.foldl (fun a c => a * 16 + hxI c) 0
def hxT (n : Nat) : List Nat := (Nat.toDigits 16 n).map Char.toNat
def hx18 (n : Nat) : List Nat := List.replicate (18 - (hxT n).length) 48 ++ hxT n
theorem hx_digit : ∀ d : Nat, d < 16 → hxI (Nat.digitChar d).toNat = d ∧ (Nat.digitChar d).toNat ∈ hxs := by decide
theorem hxT_snoc {m : Nat} (h : ¬ m < 16) : hxT m = hxT (m / 16) ++ [(Nat.digitChar (m % 16)).toNat] := by
  have hm : m % 16 < 16 := Nat.mod_lt m (by decide)
  have t : Nat.toDigits 16 (m / 16) ++ Nat.toDigits 16 (m % 16) = Nat.toDigits 16 (16 * (m / 16) + m % 16) := Nat.toDigits_append_toDigits (by decide) (by omega) hm
  rw [Nat.div_add_mod] at t
  unfold hxT
  rw [← t, List.map_append, Nat.toDigits_of_lt_base hm]
  rfl
theorem hxT_one {m : Nat} (h : m < 16) : hxT m = [(Nat.digitChar m).toNat] := by
  unfold hxT
  rw [Nat.toDigits_of_lt_base h]; rfl
theorem hxV_snoc (l : List Nat) (c : Nat) : hxV (l ++ [c]) = hxV l * 16 + hxI c := by unfold hxV; rw [List.foldl_append]; rfl
theorem hxT_val (m : Nat) : hxV (hxT m) = m := by
  induction m using Nat.strongRecOn with
  | _ m ih =>
    by_cases h : m < 16
    · rw [hxT_one h]
      have e := (hx_digit m h).1
      show 0 * 16 + hxI _ = m
      omega
    · rw [hxT_snoc h, hxV_snoc, ih (m / 16) (by omega), (hx_digit (m % 16) (Nat.mod_lt m (by decide))).1]
      omega
theorem hxT_in (m : Nat) : ∀ c ∈ hxT m, c ∈ hxs := by
  induction m using Nat.strongRecOn with
  | _ m ih =>
    by_cases h : m < 16
    · rw [hxT_one h]
      intro c hc
      rw [List.mem_singleton.mp hc]
      exact (hx_digit m h).2
    · rw [hxT_snoc h]
      intro c hc
      rcases List.mem_append.mp hc with hc | hc
      · exact ih (m / 16) (by omega) c hc
      · rw [List.mem_singleton.mp hc]
        exact (hx_digit (m % 16) (Nat.mod_lt m (by decide))).2
theorem hxT_len {n : Nat} (h : n < dgD) : (hxT n).length ≤ 18 := by
  unfold hxT
  rw [List.length_map]
  exact PySem.StrLaws.toDigits_len (by decide) (Nat.lt_trans h (by decide))
theorem hx18_len {n : Nat} (h : n < dgD) : (hx18 n).length = 18 := by
  unfold hx18
  rw [List.length_append, List.length_replicate]
  have := hxT_len h
  omega
theorem hx18_in (n : Nat) : ∀ c ∈ hx18 n, c ∈ hxs := by
  intro c hc
  rcases List.mem_append.mp hc with hc | hc
  · rw [List.eq_of_mem_replicate hc]; decide
  · exact hxT_in n c hc
theorem hxV_rep : ∀ (k : Nat) (l : List Nat), (List.replicate k 48 ++ l).foldl (fun a c => a * 16 + hxI c) 0 = l.foldl (fun a c => a * 16 + hxI c) 0
  | 0, l => rfl
  | k + 1, l => by rw [List.replicate_succ, List.cons_append, List.foldl_cons]; exact hxV_rep k l
theorem hx18_val (n : Nat) : hxV (hx18 n) = n := by
  unfold hx18 hxV
  rw [hxV_rep]
  exact hxT_val n
theorem hx18_inj {a b : Nat} (h : hx18 a = hx18 b) : a = b := by rw [← hx18_val a, ← hx18_val b, h]
/-- the digest of a text -/
def dgs (z : Str) : Str := ⟨(hx18 (dgN z.cps.toList)).toArray⟩
theorem dgs_len (z : Str) : (dgs z).length = 18 := by
  show (hx18 _).toArray.size = 18
  rw [List.size_toArray]
  exact hx18_len (dgN_lt _)
theorem dgs_inj {x y : Str} (h : dgs x = dgs y) : dgN x.cps.toList = dgN y.cps.toList := hx18_inj (by
  have := congrArg (fun z : Str => z.cps.toList) h
  simpa [dgs] using this)
theorem zfill_hx {n : Nat} (h : n < dgD) : PySem.Txt.zfill ⟨(hxT n).toArray⟩ 18 = ⟨(hx18 n).toArray⟩ := by
  have hl := hxT_len h
  unfold PySem.Txt.zfill
  have el : (⟨(hxT n).toArray⟩ : Str).length = (hxT n).length := by show (hxT n).toArray.size = _; rw [List.size_toArray]
  rw [el]
  split
  · have e : (hxT n).length = 18 := by omega
    unfold hx18
    rw [e]; rfl
  · have ne : ∀ c ∈ hxT n, c ≠ 43 ∧ c ≠ 45 := fun c hc => by
      have := hxT_in n c hc
      simp only [hxs, List.mem_cons, List.not_mem_nil, or_false] at this
      omega
    have e1 : zfilled ⟨(hxT n).toArray⟩ ((18 : Int).toNat - (hxT n).length) = Builtin.Str.padded ⟨(hxT n).toArray⟩ ((18 : Int).toNat - (hxT n).length) 0 48 := by
      unfold zfilled
      split
      · rename_i q; rw [List.getElem?_toArray] at q; exact absurd rfl (ne _ (List.mem_of_getElem? q)).1
      · rename_i q; rw [List.getElem?_toArray] at q; exact absurd rfl (ne _ (List.mem_of_getElem? q)).2
      · rfl
    rw [e1]
    unfold Builtin.Str.padded hx18
    simp [List.toArray_replicate]
end SC

/-! z[::-1] of a text -/
namespace SC
open PySem PySem.Spec PyProof.Rows L2
def revS (z : Str) : Str := ⟨z.cps.toList.reverse.toArray⟩
def tRevS (te : TE) : TE := fun σ H Q => te σ H fun x H1 => ∃ z, x = .str z ∧ z.length ≤ sizeLine ∧ Q (.str (revS z)) H1
theorem revS_pick (z : Str) : (⟨((Builtin.Str.strSliceIndices none none (-1) z.length).filterMap (z.cps[·]?)).toArray⟩ : Str) = revS z := by
  have e : Builtin.Str.strSliceIndices none none (-1) z.length = sliceRange ((z.length : Int) - 1) (-1) (-1) := by
    unfold Builtin.Str.strSliceIndices
    simp
  unfold revS
  rw [e, PySem.W.krv_sliceRange, PySem.W.krv_range, List.filterMap_reverse]
  congr 2
  congr 1
  exact PySem.W.krv_all z.cps
theorem pe_revS {X : Cx} {e : Expr} {te : TE} {k : Nat} {p1 p2 p3 pos : Pos} (he : PE X e te) : PE X (.Subscript e (.Slice none none (some (.UnaryOp .USub (.Constant (.int 1) k p1) p2)) p3) pos) (tRevS te) := by
  refine ⟨fun pins s σ H Q I h => ?_⟩
  refine Subscript_ (thn (he.run pins s σ H _ I h) fun v s1 ⟨x, H1, I1, r1, q1⟩ => ?_)
  obtain ⟨z, ex, hz, q⟩ := q1
  subst ex
  obtain ⟨t, rfl⟩ := r1
  have hst : PO X (some (.UnaryOp .USub (.Constant (.int 1) k p1) p2)) (tPart (tUn (rU fun i => .int (-i)) (tC (.int 1)))) := po_some (pe_un un_neg pe_int)
  refine wpAny_Slice (thn (po_none.run pins s1 σ H1 (fun o H2 => o = none ∧ H2 = H1) I1 ⟨rfl, rfl⟩) fun vl s2 ⟨l, H2, I2, pl, el, e2⟩ => ?_)
  subst el e2
  refine thn (po_none.run pins s2 σ H2 (fun o H3 => o = none ∧ H3 = H2) I2 ⟨rfl, rfl⟩) fun vu s3 ⟨u, H3, I3, pu, eu, e3⟩ => ?_
  subst eu e3
  refine thn (hst.run pins s3 σ H3 (fun o H4 => o = some (-1) ∧ H4 = H3) I3 ⟨1, rfl, -1, rfl, rfl, rfl⟩) fun vs s4 ⟨o, H4, I4, ps, eo, e4⟩ => ?_
  subst eo e4
  have I5 : Inv X pins σ H4 { s4 with heap := s4.heap.push { cls := .type "slice", data := .fields #[vl, vu, vs] } } := I4.kept (t' := s4.toks) fun b ob q => Heap.get?_push_of_some _ q
  obtain ⟨os, hos, hcs, hds⟩ := Heap.IsSliceOf.new s4.heap vl vu vs
  obtain ⟨l1, rfl, hl1⟩ := IsPart.raw pl
  obtain ⟨u1, rfl, hu1⟩ := IsPart.raw pu
  obtain ⟨w1, rfl, hw1⟩ := IsPart.raw ps
  show wpAny (model X.prog X.w) X.A (subscriptTail e (.Slice none none (some (.UnaryOp .USub (.Constant (.int 1) k p1) p2)) p3) (.str z t) (.ref s4.heap.objs.size)) (EP X pins σ Q) X.xe { s4 with heap := s4.heap.push { cls := .type "slice", data := .fields #[partValue l1, partValue u1, partValue w1] } }
  refine tail_any (ops := [.ref s4.heap.objs.size, .str z t]) (typeIs_str _ _ _) F.slot_str_getitem.lookup ?_ (by with_unfolding_all rfl)
  refine wpAny_getItem_str_slice (l := l1) (u := u1) (st := w1) ⟨os, hos, hcs, hds⟩ (by rw [hw1]; decide) ?_
  unfold sliceMade slicePicked
  rw [hl1, hu1, hw1]
  show Made.post (Made.str ⟨((Builtin.Str.strSliceIndices none none (-1) z.length).filterMap (z.cps[·]?)).toArray⟩) (EP X pins σ Q) _
  rw [revS_pick]
  refine ⟨?_, .str _, H4, I5.tok _, ⟨_, rfl⟩, q⟩
  show (z.cps.toList.reverse.toArray).size ≤ sizeLine
  rw [List.size_toArray, List.length_reverse, Array.length_toList]
  exact hz
theorem Blt.range2 {X : Cx} {t : TA} {p pos : Pos} {e e2 : Expr} (B : Blt X.mg) {tg : Expr} (ha : PA X [e, e2] t) (hg : Gl X "range" := by rfl) (hs : starEach [e, e2] X.env = [(false, eval e X.env), (false, eval e2 X.env)] := by rfl) (hs2 : starEach [e2] X.env = [(false, eval e2 X.env)] := by rfl) :
    PI X tg (.Call (.Name "range" p) [e, e2] [] pos) (iRng2 t) := pi_range2 hg B.range ha hs hs2
theorem cut_to (z : Str) (k : Nat) : TL.tl (cutS z none (some (k : Int))) = (TL.tl z).take k := by
  show (z.cps.toList.drop (HT.sIx z.length 0 none)).take (HT.sIx z.length z.length (some (k : Int)) - HT.sIx z.length 0 none) = _
  rw [HT.sIx_nat, HT.sIx_none, List.drop_zero, Nat.sub_zero]
  have : z.cps.toList.length = z.length := Array.length_toList
  show z.cps.toList.take (min k z.length) = z.cps.toList.take k
  rw [← this, ← List.take_eq_take_min]
theorem cut_from (z : Str) (k : Nat) : TL.tl (cutS z (some (k : Int)) none) = (TL.tl z).drop k := by
  show (z.cps.toList.drop (HT.sIx z.length 0 (some (k : Int)))).take (HT.sIx z.length z.length none - HT.sIx z.length 0 (some (k : Int))) = _
  rw [HT.sIx_nat, HT.sIx_none]
  have e : z.cps.toList.length = z.length := Array.length_toList
  rw [List.take_of_length_le (by rw [List.length_drop, e]; omega)]
  show z.cps.toList.drop (min k z.length) = z.cps.toList.drop k
  by_cases h : k ≤ z.length
  · rw [Nat.min_eq_left h]
  · rw [Nat.min_eq_right (by omega), List.drop_eq_nil_of_le (by omega), List.drop_eq_nil_of_le (by omega)]
end SC

/-! all(test for mark in text), the test one that reads a captured text of the def around -/
namespace SC
open PySem PySem.Spec PyProof.Rows L2
open GxR (TabB TabG Tabbed Ready GenS keeps_tok trF trF_some all_signs inv_tab sh_eta)
/-- the element: a test of the sign c and of the text z that the def around keeps in a cell under the name y -/
def EltC (prog : Program) (w : World) (mg : Str → Option Value) (scope : Scope) (x y : Str) (elt : Expr) (pf : Str → Nat → Bool) : Prop :=
  ∀ (ce : Env) (A' : Around) (E' : Value → Shared → Prop) (c : Nat) (t : Tok) (s2 : Shared) (m2 : Str → Option Value) (z : Str) (tz : Tok) (cy : Addr), ce.scope = scope → ce.globals = mainGlobals → ce.builtins = builtinsNs → Names2 s2.heap mg →
    s2.heap.Ns ce.locals m2 → m2 x = some (.str ⟨#[c]⟩ t) → ce.cells.lookup y = some cy → s2.heap.IsCell cy (some (.str z tz)) → wpAny (model prog w) A' (eval elt ce) (fun v s3 => v = .bool (pf z c) ∧ Keeps s2 s3) E' s2
/-- the generator's scope: what can be read off it -/
structure GenS0 (scope : Scope) (x : Str) : Prop where
  kind : scope.kind = .function
  co : scope.isCoroutine = false
  cell : ∀ y ∈ scope.names, y.2 ≠ .cell
  dot : scope.names.lookup (".0" : Str) = some NameKind.local
  loc : scope.names.lookup x = some .local
theorem gs0Of {scope : Scope} {x : Str} (h : (match scope.kind with | .function => true | _ => false) && !scope.isCoroutine && (scope.names.all fun y => match y.2 with | .cell => false | _ => true) && (match scope.names.lookup (".0" : Str) with | some .local => true | _ => false) = true)
    (hx : (match scope.names.lookup x with | some .local => true | _ => false) = true) : GenS0 scope x := by
  simp only [Bool.and_eq_true, List.all_eq_true] at h
  obtain ⟨⟨⟨h1, h2⟩, h3⟩, h4⟩ := h
  refine ⟨?_, by simpa using h2, fun y hy e => ?_, ?_, ?_⟩
  · split at h1
    · assumption
    · cases h1
  · have := h3 y hy; rw [e] at this; cases this
  · split at h4
    · assumption
    · cases h4
  · split at hx
    · assumption
    · cases hx
/-- what the generator captures, the def around has -/
def freeOk (scope sc : Scope) : Bool := scope.names.all fun y => match y.2 with
  | .free => (match sc.names.lookup y.1 with | some .cell => true | some .free => true | _ => false)
  | _ => true
theorem GenS0.all {X : Cx} {scope : Scope} {x : Str} (S : GenS0 scope x) (ok : X.Ok) (h : freeOk scope X.env.scope = true) : GenS X.env scope x := by
  refine ⟨S.kind, S.co, S.cell, S.dot, S.loc, fun y hy hf => ok.has y.1 ?_⟩
  unfold freeOk at h
  rw [List.all_eq_true] at h
  have := h y hy
  rw [hf] at this
  simp only at this
  split at this
  · rename_i e; exact .inl e
  · rename_i e; exact .inr e
  · cases this
section
variable {X : Cx} {pins : List (Addr × Obj)} {σ : L2.St} {H : Hp} {s : Shared}
theorem gen_mkC {y : Str} {iy : Nat} {z : Str} {c P : Addr} {elt iter : Expr} {x : Str} {px gpos : Pos} {scope : Scope} {pf : Str → Nat → Bool} {te : TE} {k : Nat} {Q' : Value → Shared → Prop} {R : Str → Hp → Prop}
    (hr : Room k X.A) (TB : TabB X.base X.mg c P) (hcode : X.env.code = .ref c) (S : GenS X.env scope x) (hi : PE X iter te) (hel : EltC X.prog X.w X.mg scope x y elt pf)
    (hN : X.N[iy]? = some y) (hky : X.env.kindOf y = some .cell) (hcl : ∀ cs : List (Str × Addr), (cloFrom cs scope.names []).lookup y = some ((cs.lookup y).getD 0)) (hσ : σ[iy]? = some (some (.str z)))
    (hs : ∀ v, genFold iter X.env v = pure v) (I : Inv X pins σ H s) (h : te σ H fun v H1 => ∃ a : Str, v = .str a ∧ TabG H1 P ∧ R a H1)
    (hQ : ∀ a H1 g s5, R a H1 → Ready X pins σ H1 P a (pf z) g s5 → Q' (.ref g) s5) :
    wpAny (model X.prog X.w) X.A (eval (.GeneratorExp elt [⟨.Name x px, iter, [], 0⟩] scope gpos) X.env) Q' X.xe s := by
  refine wpAny_GeneratorExp_walksQ hr.hd S.co (closure_ok S.free) S.cell S.dot S.loc S.kind (by have := hr.dp; omega) ?_ hs
  refine thn (hi.run pins s σ H _ I h) fun xv t1 ⟨v, H1, J, rv, a, ev, ⟨ps, hP, htr⟩, hR⟩ => ?_
  subst ev
  obtain ⟨tk1, rfl⟩ := rv
  obtain ⟨ml, hnl, hll⟩ := J.loc
  obtain ⟨uy, ruy, lky⟩ := hll iy y (.str z) hN hσ (.inr (.inl hky))
  obtain ⟨tz, rfl⟩ := ruy
  obtain ⟨cy, hcy, hic⟩ : ∃ cy, X.env.cells.lookup y = some cy ∧ t1.heap.IsCell cy (some (.str z tz)) := by
    rcases lky with ⟨hk2, _⟩ | ⟨_, cy, h1, h2⟩
    · rw [hky] at hk2; cases hk2
    · exact ⟨cy, h1, h2⟩
  refine wpAny_pyIter_str fun o St W hst => ?_
  have hPs : t1.heap.get? P = some { cls := .none, data := .fields ps } := J.hok P _ hP
  have hPlt := Heap.lt_size hPs
  have up : ∀ b u, t1.heap.get? b = some u → (t1.heap.push o).get? b = some u := fun b u e => Heap.get?_push_of_some _ e
  have cd : PySem.W.CodeHd (t1.heap.push o) c P := TB.code.keeps fun b u e => up b u (J.bk b u e)
  have lim : (t1.heap.push o).NoLimit := J.nolimit.push o
  have hclt : cStatics < t1.heap.objs.size := let ⟨_, hn, _⟩ := J.nolimit; hn.lt
  have hsz1 : (t1.heap.push o).objs.size = t1.heap.objs.size + 1 := Heap.size_push ..
  refine ⟨lim, ?_⟩
  have go : ∀ (code : Value) (h3 : Heap) (tk : Nat) (qs : Array Value), Heap.ExtBut P (t1.heap.push o) h3 → (t1.heap.push o).objs.size ≤ h3.objs.size → h3.get? P = some { cls := .none, data := .fields qs } →
      (∃ more, qs = ps ++ more) → TriplesOk qs.toList →
      wpAny (model X.prog X.w) X.A (builtinsFor X.env.globals X.env.builtins) (fun bi s4 =>
        ∃ Ia fp wr n0 Pf St0 pz F, Value.ref t1.heap.objs.size = .ref Ia ∧ (∀ A' : Around, A'.handled = none → Walks X.prog X.w A' Ia fp wr n0 Pf St0) ∧ St0 0 s4.heap ∧ (∀ b ∈ fp, b < s4.heap.objs.size) ∧ s4.heap.NoLimit ∧ cStatics ∉ wr ∧
          (∀ href : Heap, (∀ b o, s4.heap.get? b = some o → href.get? b = some o) →
            QuietGen X.prog X.w (genEnv scope (cloFrom X.env.cells scope.names []) s4.heap.objs.size code bi X.env) x [] elt (List.range s4.heap.objs.size) wr Pf pz F href) ∧
          (∀ g h5 tk5 gs, gs.bare = true → s4.heap.objs.size < g → h5.objs.size = g + 1 → (∀ b o, s4.heap.get? b = some o → h5.get? b = some o) →
            WalksS X.prog X.w X.A.in4 g (g :: s4.heap.objs.size :: List.range s4.heap.objs.size) (s4.heap.objs.size :: wr) (GenOnlyQ s4.gens.size) (passing pz n0 0).length
              (fun j y => ∃ i, (passing pz n0 0)[j]? = some i ∧ F i y) (GenAt X.prog X.w X.A.in4 g s4.gens.size s4.heap.objs.size (List.range s4.heap.objs.size) wr pz n0 F) →
            GenAt X.prog X.w X.A.in4 g s4.gens.size s4.heap.objs.size (List.range s4.heap.objs.size) wr pz n0 F 0 { s4 with gens := s4.gens.push gs, toks := tk5, heap := h5 } →
            Q' (.ref g) { s4 with gens := s4.gens.push gs, toks := tk5, heap := h5 })) X.xe { t1 with heap := h3, toks := tk } := by
    intro code h3 tk qs hx hsz hP3 hmore htq
    obtain ⟨bm, ob, e1, e2, e3, e4, e5, e6, e7, e8⟩ := TB.bm
    have ncP : cStatics ≠ P := fun e => by
      obtain ⟨_, hns, _⟩ := J.nolimit
      obtain ⟨o', es, ep, ho, hd, _⟩ := hns
      rw [e, hPs] at ho
      cases ho; cases hd
    have nbP : (builtinsNs : Addr) ≠ P := fun e => by
      obtain ⟨mb, hns, _⟩ := J.mod.blt
      obtain ⟨o', es, ep, ho, hd, _⟩ := hns
      have ho := J.bk _ _ ho
      rw [e, hPs] at ho
      cases ho; cases hd
    have k3 : ∀ b u, b ≠ P → t1.heap.get? b = some u → h3.get? b = some u := fun b u hb e => hx b u hb (up b u e)
    refine wpAny_builtinsFor (m := X.mg) (by rw [J.ok.glob]; exact ((J.mod.glob.keeps J.bk).push o).extBut hx TB.gP) e1 e2 (k3 _ _ e4 (J.bk _ _ e5)) e6 e7 e8 ?_
    refine ⟨t1.heap.objs.size, [t1.heap.objs.size], [t1.heap.objs.size], a.cps.size, SignAt a, St, (fun _ => true), (fun i v => ∃ cc, a.cps[i]? = some cc ∧ v = .bool (pf z cc)), rfl, W, ?_, ?_, lim.extBut hx ncP, ?_, ?_, ?_⟩
    · refine (W X.A hr.hd).frame _ _ _ hst fun b hb u e => hx b u (fun z => ?_) e
      rcases List.mem_cons.mp hb with y | y
      · exact Nat.ne_of_lt hPlt (z.symm.trans y)
      · cases y
    · intro b hb
      rcases List.mem_cons.mp hb with z | z
      · rw [z]
        show t1.heap.objs.size < h3.objs.size
        omega
      · cases z
    · intro z
      rcases List.mem_cons.mp z with z | z
      · exact Nat.ne_of_lt hclt z
      · cases z
    · intro href hh
      refine ⟨fun A' E' i v s2 m2 hA hv hn hm hk => ?_, fun A' E' i v s2 m2 hA hv hp hn hm hk => ?_⟩
      · simp only [List.forIn_nil]
        exact wpAny_pure ⟨rfl, GxR.keeps_refl _⟩
      · obtain ⟨cc, u, hcc, rfl⟩ := hv
        have old : ∀ L, L ≠ P → ∀ q, X.base.get? L = some q → s2.heap.get? L = some q := fun L nL q e => by
          have e1 := J.bk _ _ e
          have l1 := Heap.lt_size e1
          have e2 := k3 L q nL e1
          refine hk L (List.mem_range.mpr (Heap.lt_size e2)) (fun z => ?_) q (hh L q e2)
          rcases List.mem_cons.mp z with z | z
          · rw [z] at l1; exact Nat.lt_irrefl _ l1
          · cases z
        have nm : Names2 s2.heap X.mg := ⟨J.mod.glob.at (old mainGlobals TB.gP), let ⟨mb, q1, q2⟩ := J.mod.blt; ⟨mb, q1.at (old builtinsNs nbP), q2⟩⟩
        have ncyP : cy ≠ P := fun e => by
          obtain ⟨oc, ho, hd⟩ := hic
          rw [e, hPs] at ho
          cases ho; cases hd
        have cy2 : s2.heap.IsCell cy (some (.str z tz)) := by
          obtain ⟨oc, ho, hd⟩ := hic
          have l1 := Heap.lt_size ho
          have e2 := k3 cy oc ncyP ho
          refine ⟨oc, hk cy (List.mem_range.mpr (Heap.lt_size e2)) (fun z => ?_) oc (hh cy oc e2), hd⟩
          rcases List.mem_cons.mp z with z | z
          · rw [z] at l1; exact Nat.lt_irrefl _ l1
          · cases z
        have hcy2 : (cloFrom X.env.cells scope.names []).lookup y = some cy := by rw [hcl, hcy]; rfl
        exact wpAny_mono (hel (genEnv scope (cloFrom X.env.cells scope.names []) h3.objs.size code builtinsNs X.env) A' E' cc u s2 m2 z tz cy rfl J.ok.glob rfl nm hn hm hcy2 cy2) (fun y s3 r => ⟨⟨cc, hcc, r.1⟩, r.2⟩) fun _ _ e => e
    · intro g h5 tk5 gs hgb hag hsz5 hk5 W5 hat
      simp only [GxR.passing_true, List.length_range] at W5
      refine hQ a H1 g _ hR ⟨_, _, _, _, _, W5.in4_1, hat, ?_, fun s' hm => ?_⟩
      · intro j y sj Qj Ej hy hQj
        obtain ⟨i, hij, cc, hcc, rfl⟩ := hy
        obtain ⟨hj, ej⟩ := List.getElem?_eq_some_iff.mp hij
        rw [List.getElem_range] at ej
        subst ej
        have e9 : a.cps.toList[j]? = some cc := by rw [Array.getElem?_toList]; exact hcc
        have hQ2 : Qj (trF (pf z) a.cps.toList j) sj := hQj
        rw [trF_some e9] at hQ2
        exact wpAny_truthy_bool hQ2
      · obtain ⟨more, em⟩ := hmore
        have nwr : ∀ b u, t1.heap.get? b = some u → b ∉ h3.objs.size :: [t1.heap.objs.size] := fun b u e hb => by
          have hl : b < t1.heap.objs.size := Heap.lt_size e
          rcases List.mem_cons.mp hb with z | z
          · rw [z] at hl
            exact absurd hl (Nat.not_lt.mpr (show t1.heap.objs.size ≤ h3.objs.size by omega))
          · rcases List.mem_cons.mp z with z | z
            · rw [z] at hl
              exact Nat.lt_irrefl _ hl
            · cases z
        have J2 := inv_tab (more := more) (h' := s'.heap) (g' := s'.gens) (d' := s'.drawn) (t' := s'.toks) J hP (fun b u hb e => hm.heap b u (nwr b u e) (hk5 b u (k3 b u hb e)))
          (by rw [← em]; exact hm.heap P _ (nwr P _ hPs) (hk5 P _ hP3)) (AllBare.movedS (J.bare.push hgb) hm)
        rw [sh_eta t1 s' hm.os] at J2
        refine ⟨upd H1 P (.tbl (ps ++ more)), ⟨⟨ps ++ more, upd_same, by rw [← em]; exact htq⟩, fun b hb => upd_ne hb⟩, J2⟩
  cases hf : codeAmong gpos ps.toList with
  | none =>
    refine wpAny_genexprCodeX hcode (cd.code (up _ _ hPs) htr) (cd.tab (up _ _ hPs)) hf fun c' h' tk hx hge hlt hco' _ htab' _ => ?_
    obtain ⟨o1, vs, f1, tf, fl, tg, inF, tx, tt, op, _, _, _, _, _, _, _, _, _, hz, _⟩ := hco'
    exact go _ h' tk _ hx (Nat.le_trans hge (Nat.le_of_lt hlt)) htab'.2 ⟨_, rfl⟩ hz
  | some cv =>
    refine wpAny_genexprCode_hit hcode (cd.code (up _ _ hPs) htr) hf ?_
    exact go cv (t1.heap.push o) t1.toks ps (Heap.ExtBut.refl _ _) (Nat.le_refl _) (up _ _ hPs) ⟨#[], by simp⟩ htr

/-- all(test for x in e), the test one of the sign and of the text at the slot iy -/
def tAllC (P : Addr) (iy : Nat) (pf : Str → Nat → Bool) (te : TE) : TE := fun σ H Q => ∃ z, σ[iy]? = some (some (.str z)) ∧ te σ H fun v H1 => ∃ a : Str, v = .str a ∧ TabG H1 P ∧ ∀ H2, Tabbed P H1 H2 → Q (.bl (a.cps.toList.all (pf z))) H2
theorem pe_allC {y : Str} {iy : Nat} {c P : Addr} {elt iter : Expr} {x : Str} {px p pos gpos : Pos} {scope : Scope} {pf : Str → Nat → Bool} {te : TE} {k : Nat}
    (hr : Room k X.A) (B : Blt X.mg) (TB : TabB X.base X.mg c P) (hcode : X.env.code = .ref c) (S : GenS0 scope x) (hfr : freeOk scope X.env.scope = true) (hi : PE X iter te) (hel : EltC X.prog X.w X.mg scope x y elt pf)
    (hN : X.N[iy]? = some y) (hky : X.env.kindOf y = some .cell) (hcl : ∀ cs : List (Str × Addr), (cloFrom cs scope.names []).lookup y = some ((cs.lookup y).getD 0))
    (hs : ∀ v, genFold iter X.env v = pure v) (hg : Gl X "all" := by rfl)
    (he : starEach [.GeneratorExp elt [⟨.Name x px, iter, [], 0⟩] scope gpos] X.env = (false, eval (.GeneratorExp elt [⟨.Name x px, iter, [], 0⟩] scope gpos) X.env) :: starEach [] X.env := by rfl) :
    PE X (.Call (.Name "all" p) [.GeneratorExp elt [⟨.Name x px, iter, [], 0⟩] scope gpos] [] pos) (tAllC P iy pf te) := by
  refine ⟨fun pins s σ H Q I h => ?_⟩
  obtain ⟨z, hσ, h⟩ := h
  refine wpAny_Call_Name_kw (ld_blt I hg B.all (show bootBuiltins "all" = some (.builtin "all") by decide +kernel) ?_)
  refine PyProof.Rows.callWith_builtin1 ?_ he (by rfl)
  rw [he]
  show wpAny _ _ (spliced ((false, eval (.GeneratorExp elt [⟨.Name x px, iter, [], 0⟩] scope gpos) X.env) :: backTo pos (starEach [] X.env))) _ _ s
  refine Calls.spliced_cons (gen_mkC (R := fun a H1 => ∀ H2, Tabbed P H1 H2 → Q (.bl (a.cps.toList.all (pf z))) H2) hr TB hcode (S.all I.ok hfr) hi hel hN hky hcl hσ hs I h fun a H1 g t5 hR hG => ?_)
  obtain ⟨fp, wr, G, F, St, W, hst, htr, hI⟩ := hG
  refine Calls.spliced_nil (call_all_walkS (W.self 0 _ _ _ hst ⟨g, fp, wr, G, _, F, St, _, rfl, W, hst, htr, fun s' hmv => ?_⟩))
  obtain ⟨H2, hT, J⟩ := hI s' hmv
  refine ⟨.bl _, H2, J, rfl, ?_⟩
  rw [all_signs a (pf z)]
  exact hR H2 hT
end

/-- mark in marks -/
theorem elt_in {prog : Program} {w : World} {mg : Str → Option Value} {scope : Scope} {x y : Str} {q1 q2 q3 : Pos}
    (hk : scope.kind = .function) (hl : scope.names.lookup x = some .local) (hy : scope.names.lookup y = some .free) (hd : (x == ("__debug__" : Str)) = false := by decide) (hd2 : (y == ("__debug__" : Str)) = false := by decide) (hcd : (y == ("__classdict__" : Str)) = false := by decide) :
    EltC prog w mg scope x y (.Compare (.Name x q1) [.In] [.Name y q2] q3) (fun z c => decide (c ∈ z.cps.toList)) := by
  intro ce A' E' c t s2 m2 z tz cy hs hg hb nm hn hm hcy hic
  refine wpAny_Compare1 ?_
  refine wpAny_Name (wpAny_loadName_local (by rw [hs]; exact hk) (show ce.scope.names.lookup x = some .local by rw [hs]; exact hl) hn hm ?_) hd
  refine wpAny_Name (wpAny_loadName_free (by rw [hs]; exact hk) (show ce.scope.names.lookup y = some .free by rw [hs]; exact hy) hcy hic ?_ hcd) hd2
  exact PyProof.Rows.in_str ⟨by rw [PySem.StrLaws.found_one z c], keeps_tok _ _⟩
end SC

/-! a generator expression whose element is any expression of the layer (it may call the text's defs), walked by a built-in -/
namespace SC
open PySem PySem.Spec PyProof.Rows L2 GenW
open GxR (TabB TabG Tabbed inv_tab sh_eta)

theorem over_gen {A : Around} {elt : Expr} {gs : List Comprehension} {scope : Scope} {pos : Pos} {it acc : Value} {env : Env} : A.over (.compLoop (.GeneratorExp elt gs scope pos) 0 it acc env) [] = A.deeper env := by
  obtain ⟨hd, d, fr, gd, u⟩ := A
  simp [Around.over, Around.deeper, marksOver, frameCount, unitsOf, envsOf, guardsOf, pushEnvs, pushGuards, Code.envs, Code.env?, Code.isFrame, Code.guards, Code.isGuard, Code.weight, Code.frames, Code.isCreation, Code.isCaller, Code.cUnits]
theorem over_genS {A : Around} {elt : Expr} {gs : List Comprehension} {scope : Scope} {pos : Pos} {it acc : Value} {env : Env} : A.over (.compStart (.GeneratorExp elt gs scope pos) 0 it acc env) [] = A.deeper env := by
  obtain ⟨hd, d, fr, gd, u⟩ := A
  simp [Around.over, Around.deeper, marksOver, frameCount, unitsOf, envsOf, guardsOf, pushEnvs, pushGuards, Code.envs, Code.env?, Code.isFrame, Code.guards, Code.isGuard, Code.weight, Code.frames, Code.isCreation, Code.isCaller, Code.cUnits]
/-- the frame of the generator, run from a built-in that X's body calls -/
def gxC (X : Cx) (N : List Str) (scope : Scope) (C : Addr) (code : Value) (fp : List Addr) (s4 : Shared) (H4 : Hp) : Cx where
  prog := X.prog
  w := X.w
  K := X.K
  mg := X.mg
  base := X.base
  A := X.A.in1.in1.deeper (genEnv scope (cloFrom X.env.cells scope.names []) C code builtinsNs X.env)
  N := N
  s_0 := s4
  H_0 := H4
  env := genEnv scope (cloFrom X.env.cells scope.names []) C code builtinsNs X.env
  outer := X.stack
  stack := genEnv scope (cloFrom X.env.cells scope.names []) C code builtinsNs X.env :: X.stack
  ex := fp
  fn := fun _ => false
  calm := true
  pn := []
  xe := fun _ _ => False
/-- what can be read off the scope -/
structure GnS (scope : Scope) : Prop where
  kind : scope.kind = .function
  co : scope.isCoroutine = false
  cell : ∀ y ∈ scope.names, y.2 ≠ .cell
  dot : scope.names.lookup (".0" : Str) = some NameKind.local
theorem gnOf {scope : Scope} (h : (match scope.kind with | .function => true | _ => false) && !scope.isCoroutine && (scope.names.all fun y => match y.2 with | .cell => false | _ => true) && (match scope.names.lookup (".0" : Str) with | some .local => true | _ => false) = true) : GnS scope := by
  simp only [Bool.and_eq_true, List.all_eq_true] at h
  obtain ⟨⟨⟨h1, h2⟩, h3⟩, h4⟩ := h
  refine ⟨?_, by simpa using h2, fun y hy e => ?_, ?_⟩
  · split at h1
    · assumption
    · cases h1
  · have := h3 y hy; rw [e] at this; cases this
  · split at h4
    · assumption
    · cases h4
/-- the slots behind the target's nt: captured names, with the slots of X that they have -/
def capOk (N : List Str) (nt : Nat) (fr : List Nat) (XN : List Str) (scope sc : Scope) : Bool :=
  decide (N.length = nt + fr.length) && (List.range fr.length).all fun j => match N[nt + j]?, fr[j]? with
    | some y, some i => XN[i]? == some y && (match scope.names.lookup y with | some .free => true | _ => false) && (match sc.names.lookup y with | some .cell => true | some .free => true | _ => false)
    | _, _ => false
def capSt (nt : Nat) (fr : List Nat) (σ : L2.St) : L2.St := List.replicate nt none ++ fr.map fun i => (σ[i]?).getD none
theorem clo_look {cells : List (Str × Addr)} {names : List (Str × NameKind)} {y : Str} (h : (y, NameKind.free) ∈ names) : (cloFrom cells names []).lookup y = some ((cells.lookup y).getD 0) := by
  obtain ⟨c, hc⟩ := mem_lookup (cloFrom_has (cells := cells) (acc := []) h)
  rcases cloFrom_mem (PySem.mem_of_lookup hc) with z | ⟨_, z⟩
  · cases z
  · rw [hc, z]
theorem clo_from {cells : List (Str × Addr)} {names : List (Str × NameKind)} {y : Str} {c : Addr} (h : (cloFrom cells names []).lookup y = some c) : (y, NameKind.free) ∈ names ∧ c = (cells.lookup y).getD 0 := by
  rcases cloFrom_mem (PySem.mem_of_lookup h) with z | z
  · cases z
  · exact z
section
variable {X : Cx} {pins : List (Addr × Obj)} {σ : L2.St} {H : Hp} {s : Shared}
/-- the generator's frame has been laid behind the state s4 -/
theorem gen_start {N : List Str} {nt : Nat} {fr : List Nat} {scope : Scope} {code it : Value} {fp : List Addr} {a : Addr} {go : Obj} {h' : Heap} {s5 : Shared} (hcalm : X.calm = true) (S : GnS scope) (hfr : freeOk scope X.env.scope = true) (hcap : capOk N nt fr X.N scope X.env.scope = true)
    (I : Inv X pins σ H s) (hf : ∀ b ∈ fp, FpOk X pins H b) (hlt : ∀ b ∈ fp, b < s.heap.objs.size) (hn : h'.Ns s.heap.objs.size (fun y => if y = ".0" then some it else none)) (hk : ∀ b o, s.heap.get? b = some o → s5.heap.get? b = some o)
    (hC : ∀ o, h'.get? s.heap.objs.size = some o → s5.heap.get? s.heap.objs.size = some o) (ho : s5.os = s.os) (hg : AllBare s5.gens) (hpa : s5.heap.get? a = some go) (ha : s.heap.objs.size < a) (hgo : ∀ v, go.data ≠ .cell v) :
    Inv (gxC X N scope s.heap.objs.size code fp s H) [(a, go)] (capSt nt fr σ) H s5 := by
  have ok := I.ok
  unfold capOk at hcap
  rw [Bool.and_eq_true, decide_eq_true_eq, List.all_eq_true] at hcap
  obtain ⟨hNl, hcap⟩ := hcap
  have cel : ∀ x c, (cloFrom X.env.cells scope.names []).lookup x = some c → X.env.cells.lookup x = some c := fun x c h => by
    obtain ⟨h1, h2⟩ := clo_from h
    unfold freeOk at hfr
    rw [List.all_eq_true] at hfr
    have q := hfr _ h1
    simp only at q
    have : X.env.kindOf x = some .cell ∨ X.env.kindOf x = some .free := by
      split at q
      · rename_i e; exact .inl e
      · rename_i e; exact .inr e
      · cases q
    obtain ⟨c0, h0⟩ := ok.has x this
    rw [h2, h0]; rfl
  have young : ∀ b o, X.base.get? b = some o → b ∉ fp := fun b o e hb => by
    rcases (hf b hb).2.2.2.1 with z | z
    · exact ok.noex b o e z
    · have := Heap.lt_size (ok.bs b o e).1
      exact absurd (Nat.lt_of_lt_of_le this z) (Nat.lt_irrefl _)
  have lt0 : ∀ b o, s.heap.get? b = some o → b < s.heap.objs.size := fun b o e => Heap.lt_size e
  refine ⟨⟨ok.mod, S.kind, ok.glob, rfl, Nat.le_refl _, fun x y c h1 h2 => ok.inj x y c (cel x c h1) (cel y c h2), fun x hx => ?_, fun x c h => (nomatch h), fun _ => ok.hd hcalm, Around.frames_deeper ok.frames, .inr ⟨rfl, rfl⟩, fun b hb => ?_, fun b o e => I.bs b o e, Nat.le_trans ok.bsz I.sz, young, fun b hb z => ?_, I.stack, I.stkFree⟩,
    ho, hg, Un.kept hk, ⟨_, hn.at' hC, fun i y v e1 e2 e3 => ?_⟩, fun x c h => ?_, I.hok.fresh (Nat.le_refl _), fun x c h => I.freeC x c (cel x c h), fun p hp => ?_, I.hok.kept hk, ?_⟩
  · have hx : scope.names.lookup x = some .cell ∨ scope.names.lookup x = some .free := hx
    rcases hx with hx | hx
    · exact absurd rfl (S.cell _ (PySem.mem_of_lookup hx))
    · exact ⟨_, clo_look (PySem.mem_of_lookup hx)⟩
  · refine ⟨Nat.ne_of_lt (hlt b hb), fun x c h => (hf b hb).2.2.2.2.1 x c (cel x c h)⟩
  · rcases List.mem_cons.mp (I.stkSub b z) with y | y
    · exact (hf b hb).2.1 y
    · exact (hf b hb).2.2.1 y
  · have hi : i < N.length := (List.getElem?_eq_some_iff.mp e1).1
    unfold capSt at e2
    by_cases hi2 : i < nt
    · rw [List.getElem?_append_left (by simpa using hi2), List.getElem?_replicate] at e2
      split at e2 <;> cases e2
    · obtain ⟨j, rfl⟩ : ∃ j, i = nt + j := ⟨i - nt, by omega⟩
      have hj : j < fr.length := by omega
      rw [List.getElem?_append_right (by simp), List.length_replicate, show nt + j - nt = j by omega, List.getElem?_map] at e2
      have q := hcap j (List.mem_range.mpr hj)
      rw [show N[nt + j]? = some y from e1, List.getElem?_eq_getElem hj] at q
      rw [List.getElem?_eq_getElem hj] at e2
      simp only [Bool.and_eq_true, beq_iff_eq] at q
      obtain ⟨⟨q1, q2⟩, q3⟩ := q
      have e2 : (σ[fr[j]]?).getD none = some v := Option.some.inj e2
      have e4 : σ[fr[j]]? = some (some v) := by
        cases z : σ[fr[j]]? with
        | none => rw [z] at e2; cases e2
        | some w => rw [z] at e2; exact congrArg some e2
      obtain ⟨m, _, hl⟩ := I.loc
      have kd : X.env.kindOf y = some .cell ∨ X.env.kindOf y = some .free := by
        split at q3
        · rename_i z; exact .inl z
        · rename_i z; exact .inr z
        · cases q3
      have kf : scope.names.lookup y = some .free := by
        split at q2
        · assumption
        · cases q2
      obtain ⟨u, ru, lk⟩ := hl _ y v q1 e4 (by rcases kd with z | z; exact .inr (.inl z); exact .inr (.inr z))
      refine ⟨u, ru, .inr ⟨.inr kf, ?_⟩⟩
      obtain ⟨c, hc, hcc⟩ : ∃ c, X.env.cells.lookup y = some c ∧ s.heap.IsCell c (some u) := by
        rcases lk with ⟨z, _⟩ | ⟨_, c, h1, h2⟩
        · rcases kd with w | w <;> rw [z] at w <;> cases w
        · exact ⟨c, h1, h2⟩
      refine ⟨c, ?_, ?_⟩
      · show (cloFrom X.env.cells scope.names []).lookup y = some c
        rw [clo_look (PySem.mem_of_lookup kf), hc]; rfl
      · obtain ⟨oc, hoc, hd⟩ := hcc
        exact ⟨oc, hk _ _ hoc, hd⟩
  · obtain ⟨v, oc, hoc, hd⟩ := I.cell x c (cel x c h)
    exact ⟨v, oc, hk _ _ hoc, hd⟩
  · have e : p = (a, go) := List.mem_singleton.mp hp
    subst e
    refine ⟨hpa, I.hok.fresh (Nat.le_of_lt ha), Nat.ne_of_gt ha, fun z => ?_, hgo⟩
    rcases List.mem_cons.mp (I.stkSub a z) with y | y
    · have := I.lt
      rw [← y] at this
      exact absurd (Nat.lt_trans this ha) (Nat.lt_irrefl _)
    · exact I.nofs (Nat.le_of_lt ha) y
  · unfold capSt
    rw [List.length_append, List.length_replicate, List.length_map]
    exact hNl.symm
end
/-- between two turns: what the consumer keeps for itself at the addresses of Sx may have turned, all else stands -/
structure Sl (Sx : List Addr) (s s' : Shared) : Prop where
  os : s'.os = s.os
  bare : AllBare s'.gens
  keep : ∀ b o, b ∉ Sx → s.heap.get? b = some o → s'.heap.get? b = some o
/-- the consumer's own objects, as they stand -/
def Cp (Sx : List Addr) (cp : List (Addr × Obj)) : Prop := cp.map (·.1) = Sx
theorem Inv.slept {X : Cx} {p0 cp cp' : List (Addr × Obj)} {σ : L2.St} {H : Hp} {s s' : Shared} {Sx : List Addr} (I : Inv X (p0 ++ cp) σ H s) (hc : Cp Sx cp) (hy : ∀ b ∈ Sx, X.s_0.heap.objs.size ≤ b ∧ (∀ x c, X.env.cells.lookup x = some c → c ≠ b)) (h0 : ∀ p ∈ X.pn ++ p0, p.1 ∉ Sx) (z : Sl Sx s s')
    (hc' : Cp Sx cp') (hv : ∀ p ∈ cp', s'.heap.get? p.1 = some p.2 ∧ ∀ v, p.2.data ≠ .cell v) : Inv X (p0 ++ cp') σ H s' := by
  have at_ : ∀ b ∈ Sx, ∃ p ∈ cp, p.1 = b := fun b hb => by
    rw [← hc] at hb
    obtain ⟨p, hp, e⟩ := List.mem_map.mp hb
    exact ⟨p, hp, e⟩
  have pf : ∀ b ∈ Sx, s.heap.get? b ≠ none ∧ H b = none ∧ b ≠ X.env.locals ∧ b ∉ X.fs := fun b hb => by
    obtain ⟨p, hp, rfl⟩ := at_ b hb
    obtain ⟨q1, q2, q3, q4, _⟩ := I.pin p (List.mem_append_right _ (List.mem_append_right _ hp))
    exact ⟨by rw [q1]; simp, q2, q3, q4⟩
  have I0 : Inv X p0 σ H s := I.pins_of fun p hp => I.pin p (List.mem_append_right _ (List.mem_append_left _ hp))
  obtain ⟨h', g', d', t', o'⟩ := s'
  obtain ⟨z1, z2, z3⟩ := z
  have z1 : o' = s.os := z1
  subst z1
  have nt : ∀ b u, H b = some u → b ∉ Sx := fun b u e hb => by rw [(pf b hb).2.1] at e; cases e
  have ex : ∀ b ∈ Sx, ∃ o, h'.get? b = some o := fun b hb => by
    rw [← hc'] at hb
    obtain ⟨p, hp, e⟩ := List.mem_map.mp hb
    exact ⟨p.2, by rw [← e]; exact (hv p hp).1⟩
  have J : Inv X p0 σ H { s with heap := h', gens := g', drawn := d', toks := t' } := by
    refine I0.step (g' := g') (t' := t') (d' := d') (ch := Sx) (fun b hb => ⟨.inr (hy b hb).1, (pf b hb).2.2.1, (hy b hb).2, fun p hp e => h0 p hp (by rw [e]; exact hb)⟩)
      (fun b ob _ _ hc q _ => z3 b ob hc q) (fun b ob _ _ hc q _ => ⟨ob.slots, z3 b ob hc q⟩) (fun _ _ _ _ n => n) (fun b ob hc q => ⟨ob, z3 b ob hc q⟩)
      (fun _ _ q => q) (fun _ _ _ q => q) (fun b ps q => ⟨#[], by rw [q]; simp⟩) (fun m hm => ?_) (fun b u q => ?_) z2
    · obtain ⟨ob, es, ep, ho, r⟩ := hm
      exact ⟨ob, es, ep, z3 _ ob (fun hb => (pf _ hb).2.2.1 rfl) ho, r⟩
    · refine (I0.hok b u q).stay (fun c v hc y => z3 c v ?_ y) (fun _ y => y) fun _ _ y => y
      rcases hc with y | y
      · rw [y]; exact nt b u q
      · exact nt c _ y
  refine J.pins_of fun p hp => ?_
  rcases List.mem_append.mp hp with hp | hp
  · exact J.pin p (List.mem_append_right _ hp)
  · have hb : p.1 ∈ Sx := by rw [← hc']; exact List.mem_map.mpr ⟨p, hp, rfl⟩
    obtain ⟨_, q2, q3, q4⟩ := pf _ hb
    exact ⟨(hv p hp).1, q2, q3, q4, (hv p hp).2⟩
/-- the turns: W before a turn (its number, a measure, the consumer's objects), B what the consumer gets, Dn the end -/
def GTurns (J : It) (g : TG) (tt : TT) (te : TE) (W : Nat → Nat → List (Addr × Obj) → L2.St → Hp → Prop) (B : Nat → Nat → List (Addr × Obj) → V → L2.St → Hp → Prop) (Dn : List (Addr × Obj) → L2.St → Hp → Prop) : Prop :=
  ∀ i m cp σ H, W i m cp σ H → (J.stop i H ∧ Dn cp σ H) ∨ (J.go i H ∧ ∃ (Bt : V → L2.St → Hp → Prop) (Nt : L2.St → Hp → Prop), (∀ y σ' H', Bt y σ' H' → B i m cp y σ' H') ∧ (∀ σ' H', Nt σ' H' → ∃ m', m' < m ∧ W (i + 1) m' cp σ' H') ∧
    ∀ x H', J.yld i H x H' → g x σ H' fun σ2 H2 => tt σ2 H2 fun b H3 => if b = true then te σ2 H3 (fun y H4 => Bt y σ2 H4) else Nt σ2 H3)
/-- an item is handed out -/
def YG (X : Cx) (go : Addr × Obj) (Sx : List Addr) (W : Nat → Nat → List (Addr × Obj) → L2.St → Hp → Prop) (B : Nat → Nat → List (Addr × Obj) → V → L2.St → Hp → Prop) : Protocol := fun n s₀ v s kap =>
  ∃ i m cp y σ H, Cp Sx cp ∧ (∀ p ∈ cp, s₀.heap.get? p.1 = some p.2) ∧ RelV y v ∧ Inv X (go :: cp) σ H s ∧ B i m cp y σ H ∧ m ≤ n ∧ ∀ s' m' cp', Sl Sx s s' → Cp Sx cp' → (∀ p ∈ cp', s'.heap.get? p.1 = some p.2 ∧ ∀ v, p.2.data ≠ .cell v) → m' < m → W (i + 1) m' cp' σ H → kap (.send .none) s'
def RG (X : Cx) (go : Addr × Obj) (Sx : List Addr) (Dn : List (Addr × Obj) → L2.St → Hp → Prop) : Nat → Shared → Shared → Prop := fun _ s₀ s => ∃ cp σ H, Cp Sx cp ∧ (∀ p ∈ cp, s₀.heap.get? p.1 = some p.2) ∧ Inv X (go :: cp) σ H s ∧ Dn cp σ H
section
variable {Y : Cx} {A : Around} {go : Addr × Obj} {Sx fp : List Addr} {it : Addr} {tn : Nat → Heap → Prop} {J : It} {tg elt iter : Expr} {ifs : List Expr} {scope : Scope} {gpos : Pos} {g : TG} {tt : TT} {te : TE} {W : Nat → Nat → List (Addr × Obj) → L2.St → Hp → Prop} {B : Nat → Nat → List (Addr × Obj) → V → L2.St → Hp → Prop} {Dn : List (Addr × Obj) → L2.St → Hp → Prop}
theorem seg_turns (hA : Y.A = A.deeper Y.env) (hxe : ∀ e s, Y.xe e s → False) (hcalm : Y.calm = true) (T : Turn Y.prog Y.w Y.K tg J fp it tn) (hg : PG Y tg g) (ht : PTs Y ifs tt) (he : PE Y elt te) (hco : Y.env.scope.isCoroutine = false) (turn : GTurns J g tt te W B Dn)
    (stat : ∀ (cp : List (Addr × Obj)) (H : Hp), Cp Sx cp → (∀ b ∈ fp, H b = none) → ∀ b ∈ fp, FpOk Y (go :: cp) H b) (hy : ∀ b ∈ Sx, Y.s_0.heap.objs.size ≤ b ∧ (∀ x c, Y.env.cells.lookup x = some c → c ≠ b)) (h0 : ∀ p ∈ Y.pn ++ [go], p.1 ∉ Sx) (hfs : ∀ b ∈ fp, b ∉ Sx) :
    ∀ (m n i : Nat) (s₀ s : Shared) (σ : L2.St) (H : Hp) (cp : List (Addr × Obj)), m < n → Cp Sx cp → (∀ p ∈ cp, s₀.heap.get? p.1 = some p.2) → Inv Y (go :: cp) σ H s → tn i s.heap → (∀ b ∈ fp, H b = none) → W i m cp σ H →
      Seg (model Y.prog Y.w) A (fun n s₀ r s₁ => r = .ok .next ∧ RG Y go Sx Dn n s₀ s₁) (YG Y go Sx W B) n s₀
        (.compLoop (.GeneratorExp elt [⟨tg, iter, ifs, 0⟩] scope gpos) 0 (.ref it) .none Y.env) ((model Y.prog Y.w).den (.compLoop (.GeneratorExp elt [⟨tg, iter, ifs, 0⟩] scope gpos) 0 (.ref it) .none Y.env)) [] s := by
  intro m
  induction m using Nat.strongRecOn with
  | ind m ih =>
    intro n i s₀ s σ H cp hmn hcp hs0 I st fr w
    show Seg _ A _ _ n s₀ _ ((compTurn (.GeneratorExp elt [⟨tg, iter, ifs, 0⟩] scope gpos) 0 (.ref it) .none Y.env).onRaise _) [] s
    rw [compTurn_gen, Sem.onRaise_eq_wrap]
    refine seg_bind_wrap (wpAny_standAt ?_)
    rcases turn i m cp σ H w with ⟨stop, dn⟩ | ⟨goes, Bt, Nt, hBt, hNt, step⟩
    · refine seg_bind_wrap ?_
      rw [over_gen, ← hA]
      refine thn (T.done Y rfl rfl rfl hcalm i (go :: cp) s σ H _ I (stat cp H hcp fr) st stop) fun r s4 ⟨hr, I4⟩ => ?_
      subst hr
      exact seg_end (.ok .next) ⟨rfl, cp, σ, H, hcp, hs0, I4, dn⟩
    · refine seg_bind_wrap ?_
      rw [over_gen, ← hA]
      refine thn (T.item Y rfl rfl rfl hcalm i (go :: cp) s σ H _ I (stat cp H hcp fr) st goes) fun r s4 ⟨u, hr, h4⟩ => ?_
      subst hr
      refine seg_bind_wrap ?_
      rw [over_gen, ← hA]
      refine thn h4 fun _ s5 ⟨x, H5, I5, r5, y5, st5, fr5⟩ => ?_
      have I5' := I5.pinned (stat cp H5 hcp fr5) (T.obj _ _ st5)
      refine seg_bind_wrap ?_
      rw [over_gen, ← hA]
      refine wpAny_mono (hg.run _ s5 σ H5 x u _ I5' r5 (step x H5 y5)) (fun _ s6 ⟨σ6, H6, I6, q6⟩ => ?_) fun _ _ z => (hxe _ _ z).elim
      refine seg_bind_wrap ?_
      rw [over_gen, ← hA]
      refine wpAny_mono (ht.run _ s6 σ6 H6 _ I6 q6) (fun ok s7 ⟨H7, I7, q7⟩ => ?_) fun _ _ z => (hxe _ _ z).elim
      have turned : ∀ {σ8 : L2.St} {H8 : Hp} {s8 : Shared}, Inv Y ((go :: cp) ++ pinsAt fp s5.heap) σ8 H8 s8 → tn (i + 1) s8.heap ∧ (∀ b ∈ fp, H8 b = none) ∧ Inv Y (go :: cp) σ8 H8 s8 := fun {σ8 H8 s8} I8 =>
        ⟨T.keep _ _ _ st5 fun b hb o e => (I8.pin (b, o) (List.mem_append_right _ (List.mem_append_right _ (mem_pinsAt hb e)))).1, fun b hb => by
          obtain ⟨o, e, d⟩ := T.obj _ _ st5 b hb
          exact (I8.pin (b, o) (List.mem_append_right _ (List.mem_append_right _ (mem_pinsAt hb e)))).2.1, I8.unpinned⟩
      cases ok with
      | false =>
        rw [if_neg Bool.false_ne_true] at q7
        obtain ⟨m', hm', w'⟩ := hNt _ _ q7
        simp only [Bool.false_eq_true, if_false]
        obtain ⟨t1, t2, t3⟩ := turned I7
        exact seg_again rfl (ih m' hm' n (i + 1) s₀ _ _ _ cp (by omega) hcp hs0 t3 t1 t2 w')
      | true =>
        rw [if_pos rfl] at q7
        simp only [if_true]
        have hyo : ∀ v, yieldOut Y.env v = yieldValue v := fun v => by simp only [yieldOut, hco, Bool.false_eq_true, if_false]
        simp only [hyo]
        rw [Sem.bind_eq_wrap', Sem.bind_eq_wrap', Sem.wrap_wrap, Sem.wrap_wrap]
        refine seg_wrap ?_
        rw [over_gen, ← hA]
        refine wpAny_mono (he.run _ s7 σ6 H7 _ I7 q7) (fun v s8 ⟨y, H8, I8, r8, q8⟩ => ?_) fun _ _ z => (hxe _ _ z).elim
        obtain ⟨n, rfl⟩ : ∃ k, n = k + 1 := ⟨n - 1, by omega⟩
        obtain ⟨t1, t2, t3⟩ := turned I8
        refine seg_at (seg_yield rfl rfl rfl ⟨i, m, cp, y, σ6, H8, hcp, hs0, r8, t3, hBt _ _ _ q8, by omega, fun s' m' cp' z hcp' hv hm' w' => ?_⟩)
        have I9 := Inv.slept (p0 := [go]) t3 hcp hy h0 z hcp' hv
        refine seg_again rfl (ih m' hm' n (i + 1) s' s' _ _ cp' (by omega) hcp' (fun p hp => (hv p hp).1) I9 (T.keep _ _ _ t1 fun b hb o e => z.keep b o (hfs b hb) e) t2 w')
theorem seg_turns0 (hA : Y.A = A.deeper Y.env) (hxe : ∀ e s, Y.xe e s → False) (hcalm : Y.calm = true) (T : Turn Y.prog Y.w Y.K tg J fp it tn) (hg : PG Y tg g) (ht : PTs Y ifs tt) (he : PE Y elt te) (hco : Y.env.scope.isCoroutine = false) (turn : GTurns J g tt te W B Dn)
    (stat : ∀ (cp : List (Addr × Obj)) (H : Hp), Cp Sx cp → (∀ b ∈ fp, H b = none) → ∀ b ∈ fp, FpOk Y (go :: cp) H b) (hy : ∀ b ∈ Sx, Y.s_0.heap.objs.size ≤ b ∧ (∀ x c, Y.env.cells.lookup x = some c → c ≠ b)) (h0 : ∀ p ∈ Y.pn ++ [go], p.1 ∉ Sx) (hfs : ∀ b ∈ fp, b ∉ Sx)
    {m n : Nat} {s₀ s : Shared} {σ : L2.St} {H : Hp} {cp : List (Addr × Obj)} (hmn : m < n) (hcp : Cp Sx cp) (hs0 : ∀ p ∈ cp, s₀.heap.get? p.1 = some p.2) (I : Inv Y (go :: cp) σ H s) (st : tn 0 s.heap) (fr : ∀ b ∈ fp, H b = none) (w : W 0 m cp σ H) :
      Seg (model Y.prog Y.w) A (fun n s₀ r s₁ => r = .ok .next ∧ RG Y go Sx Dn n s₀ s₁) (YG Y go Sx W B) n s₀
        (.compStart (.GeneratorExp elt [⟨tg, iter, ifs, 0⟩] scope gpos) 0 (.ref it) .none Y.env) ((model Y.prog Y.w).den (.compStart (.GeneratorExp elt [⟨tg, iter, ifs, 0⟩] scope gpos) 0 (.ref it) .none Y.env)) [] s := by
  have loop := seg_turns (iter := iter) (scope := scope) (gpos := gpos) hA hxe hcalm T hg ht he hco turn stat hy h0 hfs m n 0 s₀ s σ H cp hmn hcp hs0 I st fr w
  show Seg _ A _ _ _ s₀ _ ((compStart (.GeneratorExp elt [⟨tg, iter, ifs, 0⟩] scope gpos) 0 (.ref it) .none Y.env).onRaise _) [] s
  unfold compStart
  rw [Sem.onRaise_eq_wrap]
  show Seg _ A _ _ _ s₀ _ ((ask >>= _).wrap _ _ _ _) [] s
  refine seg_bind_wrap (wpAny_askSetting ?_)
  split
  · exact seg_again rfl loop
  · first
      | exact seg_bind_wrap (wpAny_rule (seg_bind_wrap (wpAny_standAt (seg_bind_wrap (T.self _ 0 s _ _ st (seg_again rfl loop))))))
      | (refine seg_bind_wrap (wpAny_rule ?_); show Seg _ A _ _ _ s₀ _ ((standAt iter.pos >>= _).wrap _ _ _ _) [] s; exact seg_bind_wrap (wpAny_standAt (seg_bind_wrap (T.self _ 0 s _ _ st (seg_again rfl loop)))))

theorem inv_kept {X : Cx} {pins : List (Addr × Obj)} {σ : L2.St} {H : Hp} {s s' : Shared} (I : Inv X pins σ H s) (ho : s'.os = s.os) (hg : AllBare s'.gens) (k : ∀ b o, s.heap.get? b = some o → s'.heap.get? b = some o) : Inv X pins σ H s' :=
  I.call' (ch := []) ho (Un.kept k) (I.hok.kept k) hg fun b z => absurd z (by simp)
/-- the generator at go, its number gi, sleeps -/
structure Asl (Y : Cx) (A : Around) (go : Addr × Obj) (gi : Nat) (Sx : List Addr) (W : Nat → Nat → List (Addr × Obj) → L2.St → Hp → Prop) (B : Nat → Nat → List (Addr × Obj) → V → L2.St → Hp → Prop) (Dn : List (Addr × Obj) → L2.St → Hp → Prop) (n : Nat) (s : Shared) : Prop where
  gen : s.heap.IsGen go.1 gi
  nl : s.heap.NoLimit
  gs : ∃ gs, s.gens[gi]? = some gs ∧ gs.Goes (model Y.prog Y.w) A (fun n s₀ r s₁ => r = .ok .next ∧ RG Y go Sx Dn n s₀ s₁) (YG Y go Sx W B) n (.send .none) (s.setGen gi .running)
/-- one step of it -/
theorem next_gen {gi n : Nat} {C : Around} {E : Value → Shared → Prop} {Q : Option Value → Shared → Prop} {s : Shared} (hh : C.handled = none) (hroom : C.depth < recursionLimit) (hgo : ∀ h : Heap, h.get? go.1 = some go.2 → h.IsGen go.1 gi) (a : Asl Y C.in1 go gi Sx W B Dn n s)
    (hY : ∀ (i m : Nat) cp y v σ H s', Cp Sx cp → (∀ p ∈ cp, s.heap.get? p.1 = some p.2) → RelV y v → Inv Y (go :: cp) σ H s' → B i m cp y σ H → (∀ s'' cp', Sl Sx s' s'' → s''.gens = s'.gens → Cp Sx cp' → (∀ p ∈ cp', s''.heap.get? p.1 = some p.2 ∧ ∀ v, p.2.data ≠ .cell v) → s''.heap.get? go.1 = some go.2 → s''.heap.NoLimit → ∀ m', m' < m → W (i + 1) m' cp' σ H → ∃ k, k < n ∧ Asl Y C.in1 go gi Sx W B Dn k s'') → Q (some v) s')
    (hD : ∀ cp σ H s', Cp Sx cp → (∀ p ∈ cp, s.heap.get? p.1 = some p.2) → Inv Y (go :: cp) σ H s' → Dn cp σ H → Q none s') : wpAny (model Y.prog Y.w) C (pyNext (.ref go.1)) Q E s := by
  obtain ⟨ag, al, gs, hgs, hgoes⟩ := a
  have hgl : gi < s.gens.size := (Array.getElem?_eq_some_iff.mp hgs).1
  refine wpAny_gsz (n := gi + 1) hgl (wpAny_pyNext_genexpQ (P := RG Y go Sx Dn) hh al hroom ag hgs hgoes (fun v s₁ gs' hbare hv => ?_) fun s₁ hp h' hk => ?_)
  · intro hsz
    obtain ⟨i, m, cp, y, σ, H, hcp, hs0, rv, I, hB, hmn, kap⟩ := hv
    have hsz1 : gi < s₁.gens.size := by
      have q : (s₁.setGen gi gs').gens.size = s₁.gens.size := setGen_size _ _ _
      have hsz' : gi + 1 ≤ (s₁.setGen gi gs').gens.size := hsz
      omega
    have I2 : Inv Y (go :: cp) σ H (s₁.setGen gi gs') := inv_kept I rfl (allBare_setGen I.bare hbare) fun _ _ e => e
    refine hY i m cp y v σ H _ hcp hs0 rv I2 hB fun s'' cp' z hgens hcp' hv hgo' hnl m' hm' w' => ?_
    have kk := kap (s''.setGen gi .running) m' cp' ⟨z.os, allBare_setGen z.bare rfl, fun b o hb e => z.keep b o hb e⟩ hcp' hv hm' w'
    cases n with
    | zero => exact False.elim kk
    | succ n => exact ⟨n, Nat.lt_succ_self n, hgo _ hgo', hnl, gs', by rw [hgens]; exact setGen_at hsz1, kk⟩
  · intro hsz
    obtain ⟨cp, σ, H, hcp, hs0, I, dn⟩ := hp
    exact hD cp σ H _ hcp hs0 (inv_kept I rfl (allBare_setGen I.bare rfl) hk) dn
/-- all(..) walks it -/
theorem all_loop_gen {gi : Nat} {A : Around} {R : Result → Shared → Prop} {Fl : L2.St → Hp → Prop} (hh : A.handled = none) (hroom : A.depth < recursionLimit) (hgo : ∀ h : Heap, h.get? go.1 = some go.2 → h.IsGen go.1 gi)
    (hB : ∀ i m cp y σ H, B i m cp y σ H → ∃ b, y = .bl b ∧ if b = true then ∃ m', m' < m ∧ W (i + 1) m' [] σ H else Fl σ H)
    (hF : ∀ pins σ H s, Inv Y pins σ H s → Fl σ H → R (.ok (.ret (.bool false))) s) (hT : ∀ pins σ H s cp, Inv Y pins σ H s → Dn cp σ H → R (.ok (.ret (.bool true))) s) :
    ∀ (n : Nat) (s : Shared), Asl Y A.in1.in1 go gi [] W B Dn n s → codeAny (model Y.prog Y.w) A (.builtin "all.loop" ⟨[.ref go.1], []⟩) R s := by
  intro n
  induction n using Nat.strongRecOn with
  | ind n ih =>
    intro s a
    refine codeAny_builtin F.entry_all_loop ?_
    rw [Around.under_plainId F.plain_all_loop _]
    show wpAny _ A.in1 (pyNext (.ref go.1) >>= _) _ _ s
    refine wpAny_bind (next_gen (C := A.in1) hh hroom hgo a (fun i m cp y v σ H s' hcp _ rv I hb again => ?_) fun cp σ H s' hcp _ I dn => ?_)
    · obtain ⟨b, rfl, hb'⟩ := hB i m cp y σ H hb
      obtain rfl : v = .bool b := rv
      refine wpAny_bind (wpAny_holding (wpAny_truthy_bool ?_))
      refine wpAny_bind (wpAny_letGo ?_)
      cases b with
      | true =>
        rw [if_pos rfl] at hb'
        obtain ⟨m', hm', w'⟩ := hb'
        simp only [if_true]
        have e0 : cp = [] := by
          have := congrArg List.length hcp
          rw [List.length_map] at this
          exact List.eq_nil_of_length_eq_zero this
        obtain ⟨k, hk, ak⟩ := again s' [] ⟨rfl, I.bare, fun _ _ _ e => e⟩ rfl rfl (fun p hp => nomatch hp) (I.pin go (List.mem_append_right _ List.mem_cons_self)).1 I.nolimit m' hm' w'
        exact wpAny_pure ⟨plainId_quiet F.plain_all_loop _, ih k hk s' ak⟩
      | false =>
        rw [if_neg Bool.false_ne_true] at hb'
        simp only [Bool.false_eq_true, if_false]
        exact wpAny_bind (wpAny_rule (wpAny_pure (hF _ σ H s' I hb')))
    · exact wpAny_bind (wpAny_rule (wpAny_pure (hT _ σ H s' cp I dn)))
end
section
variable {X : Cx} {pins : List (Addr × Obj)} {σ : L2.St} {H : Hp} {s : Shared} {N : List Str} {nt : Nat} {fr : List Nat} {scope : Scope}
/-- a generator that has not begun: the frame's context, where it was made -/
structure Fresh (X : Cx) (pins : List (Addr × Obj)) (σ : L2.St) (N : List Str) (nt : Nat) (fr : List Nat) (scope : Scope) (tg elt iter : Expr) (ifs : List Expr) (gpos : Pos) (J : It) (H2 : Hp) (a : Addr) (s5 : Shared) : Prop where
  ex : ∃ (s4 : Shared) (code : Value) (fp : List Addr) (it : Addr) (tn : Nat → Heap → Prop) (go : Obj) (gi : Nat),
    Inv X pins σ H2 s4 ∧ (∀ b ∈ fp, FpOk X pins H2 b) ∧ (∀ b ∈ fp, b < s4.heap.objs.size) ∧ s4.heap.objs.size < a ∧ a < s5.heap.objs.size ∧ Turn X.prog X.w X.K tg J fp it tn ∧ tn 0 s5.heap ∧ (∀ h : Heap, h.get? a = some go → h.IsGen a gi) ∧ s5.heap.get? a = some go ∧
    s5.gens[gi]? = some (.fresh (.compStart (.GeneratorExp elt [⟨tg, iter, ifs, 0⟩] scope gpos) 0 (.ref it) .none (genEnv scope (cloFrom X.env.cells scope.names []) s4.heap.objs.size code builtinsNs X.env))) ∧
    Inv (gxC X N scope s4.heap.objs.size code fp s4 H2) [(a, go)] (capSt nt fr σ) H2 s5
theorem gen_mkI {c P : Addr} {elt iter tg : Expr} {ifs : List Expr} {gpos : Pos} {wi : TI} {k : Nat} {Q' : Value → Shared → Prop} {R : It → Hp → Prop} (hcalm : X.calm = true)
    (hr : Room k X.A) (TB : TabB X.base X.mg c P) (hcode : X.env.code = .ref c) (S : GnS scope) (hfr : freeOk scope X.env.scope = true) (hcap : capOk N nt fr X.N scope X.env.scope = true) (hi : PI X tg iter wi)
    (hs : ∀ v, genFold iter X.env v = pure v) (I : Inv X pins σ H s) (h : wi σ H fun J H1 => TabG H1 P ∧ ∀ H2, Tabbed P H1 H2 → R J H2)
    (hQ : ∀ J H2 a s5, R J H2 → Fresh X pins σ N nt fr scope tg elt iter ifs gpos J H2 a s5 → Q' (.ref a) s5) :
    wpAny (model X.prog X.w) X.A (eval (.GeneratorExp elt [⟨tg, iter, ifs, 0⟩] scope gpos) X.env) Q' X.xe s := by
  have hcl : closureFor scope X.env = pure (cloFrom X.env.cells scope.names []) := closure_ok fun y hy hf => by
    refine I.ok.has y.1 ?_
    unfold freeOk at hfr
    rw [List.all_eq_true] at hfr
    have := hfr _ hy
    rw [hf] at this
    simp only at this
    split at this
    · rename_i e; exact .inl e
    · rename_i e; exact .inr e
    · cases this
  refine wpAny_GeneratorExp_make S.co hcl S.cell S.dot S.kind (by have := hr.dp; omega) ?_ hs
  refine thn (hi.run pins s σ H _ I h) fun xv s1 h1 => thn h1 fun itv s2 h2 => ?_
  obtain ⟨it, fp, tn, J, H1, e, I2, T, st2, f2, ⟨ps, hP, htr⟩, hR⟩ := h2
  subst e
  have hPs : s2.heap.get? P = some { cls := .none, data := .fields ps } := I2.hok P _ hP
  have hPlt := Heap.lt_size hPs
  have cd : PySem.W.CodeHd s2.heap c P := TB.code.keeps fun b u e => I2.bk b u e
  have fpP : ∀ b ∈ fp, b ≠ P := fun b hb e => by
    have := (f2 b hb).1
    rw [e, hP] at this
    cases this
  refine ⟨I2.nolimit, ?_⟩
  have fin : ∀ (code : Value) (h3 : Heap) (tk : Nat) (qs : Array Value), Heap.ExtBut P s2.heap h3 → s2.heap.objs.size ≤ h3.objs.size → h3.get? P = some { cls := .none, data := .fields qs } → (∃ more, qs = ps ++ more) → TriplesOk qs.toList →
      wpAny (model X.prog X.w) X.A (builtinsFor X.env.globals X.env.builtins) (fun bi s₄ =>
        ∀ h', h'.Ns s₄.heap.objs.size (fun y => if y = ".0" then some (.ref it) else none) → Heap.SameBut s₄.heap.objs.size (s₄.heap.push { cls := .type "frame", data := .dict #[] }) h' →
          Q' (.ref h'.objs.size) { s₄ with
            gens := s₄.gens.push (.fresh (.compStart (.GeneratorExp elt [⟨tg, iter, ifs, 0⟩] scope gpos) 0 (.ref it) .none (genEnv scope (cloFrom X.env.cells scope.names []) s₄.heap.objs.size code bi X.env))),
            toks := s₄.toks + 1 + 1 + 1,
            heap := h'.push { cls := .type "generator", data := .fields #[.int s₄.gens.size 0, .str "<genexpr>" (s₄.toks + 1), .str (X.env.qual ++ "<genexpr>") (s₄.toks + 1 + 1)] } }) X.xe { s2 with heap := h3, toks := tk } := by
    intro code h3 tk qs hx hsz hP3 hmore htq
    obtain ⟨bm, ob, e1, e2, e3, e4, e5, e6, e7, e8⟩ := TB.bm
    have nbP : (builtinsNs : Addr) ≠ P := fun e => by
      obtain ⟨mb, hns, _⟩ := I2.mod.blt
      obtain ⟨o', es, ep, ho, hd, _⟩ := hns
      have ho := I2.bk _ _ ho
      rw [e, hPs] at ho
      cases ho; cases hd
    refine wpAny_builtinsFor (m := X.mg) (by rw [I2.ok.glob]; exact (I2.mod.glob.keeps I2.bk).extBut hx TB.gP) e1 e2 (hx _ _ e4 (I2.bk _ _ e5)) e6 e7 e8 ?_
    obtain ⟨more, em⟩ := hmore
    intro h' hn' hs'
    have I4 := inv_tab (more := more) (h' := h3) (g' := s2.gens) (d' := s2.drawn) (t' := tk) I2 hP (fun b u hb e => hx b u hb e) (by rw [← em]; exact hP3) I2.bare
    have hsz' : h'.objs.size = h3.objs.size + 1 := by rw [hs'.1, Heap.size_push]
    have keep' : ∀ b o, h3.get? b = some o → h'.get? b = some o := fun b o e => hs'.extBut b o (Nat.ne_of_lt (Heap.lt_size e)) (Heap.get?_push_of_some _ e)
    have lt2 : ∀ b ∈ fp, b < s2.heap.objs.size := fun b hb => by
      obtain ⟨o, e, _⟩ := T.obj 0 _ st2 b hb
      exact Heap.lt_size e
    have f4 : ∀ b ∈ fp, FpOk X pins (upd H1 P (.tbl (ps ++ more))) b := fun b hb => ⟨by rw [upd_ne (fpP b hb)]; exact (f2 b hb).1, (f2 b hb).2⟩
    have lt4 : ∀ b ∈ fp, b < h3.objs.size := fun b hb => Nat.lt_of_lt_of_le (lt2 b hb) hsz
    refine hQ J (upd H1 P (.tbl (ps ++ more))) _ _ (hR _ ⟨⟨ps ++ more, upd_same, by rw [← em]; exact htq⟩, fun b hb => upd_ne hb⟩) ⟨_, code, fp, it, tn, _, s2.gens.size, I4, f4, lt4, ?_, ?_, T, ?_, fun h e => ⟨_, _, _, e, rfl, rfl, rfl⟩, Heap.get?_push_size _ rfl, Array.getElem?_push_size .., gen_start hcalm S hfr hcap I4 f4 lt4 hn' (fun b o e => Heap.get?_push_of_some _ (keep' b o e)) (fun o e => Heap.get?_push_of_some _ e) rfl (I2.bare.push rfl) (Heap.get?_push_size _ rfl) ?_ ?_⟩
    · show h3.objs.size < h'.objs.size
      omega
    · show h'.objs.size < (h'.push _).objs.size
      rw [Heap.size_push]; exact Nat.lt_succ_self _
    · exact T.keep 0 _ _ st2 fun b hb o e => Heap.get?_push_of_some _ (keep' b o (hx b o (fpP b hb) e))
    · show h3.objs.size < h'.objs.size
      omega
    · intro v z; cases z
  cases hf : codeAmong gpos ps.toList with
  | none =>
    refine wpAny_genexprCodeX hcode (cd.code hPs htr) (cd.tab hPs) hf fun c' h' tk hx hge hlt hco' _ htab' _ => ?_
    obtain ⟨o1, vs, f1, tf, fl, tg, inF, tx, tt, op, _, _, _, _, _, _, _, _, _, hz, _⟩ := hco'
    exact fin _ h' tk _ hx (Nat.le_trans hge (Nat.le_of_lt hlt)) htab'.2 ⟨_, rfl⟩ hz
  | some cv =>
    refine wpAny_genexprCode_hit hcode (cd.code hPs htr) hf ?_
    exact fin cv s2.heap s2.toks ps (Heap.ExtBut.refl _ _) (Nat.le_refl _) hPs ⟨#[], by simp⟩ htr
/-- the turns of a for, as a reading -/
def tForB (J : It) (g : TG) (tb : TS) : TS := fun D σ H => ∃ W : Nat → Nat → L2.St → Hp → Prop, (∃ m, W 0 m σ H) ∧ ∀ i m σ H, W i m σ H →
  (J.stop i H ∧ D.nx σ H) ∨ (J.go i H ∧ ∃ N : L2.St → Hp → Prop, (∀ σ' H', N σ' H' → ∃ m', m' < m ∧ W (i + 1) m' σ' H') ∧ ∀ x H', J.yld i H x H' → g x σ H' fun σ2 H2 => tb { D with nx := N, ct := N, bk := D.nx } σ2 H2)
def tbAll (tt : TT) (te : TE) : TS := fun D σ H => tt σ H fun b H3 => if b = true then te σ H3 (fun y H4 => ∃ b, y = .bl b ∧ if b = true then D.nx σ H4 else D.rt (.bl false) H4) else D.nx σ H3
/-- all(elt for tg in iter if ..); st: the captured names -/
def tAllG (P : Addr) (wi : TI) (g : TG) (tt : TT) (te : TE) (st : L2.St → L2.St) : TE := fun σ H Q => wi σ H fun J H1 => TabG H1 P ∧ ∀ H2, Tabbed P H1 H2 → tForB J g (tbAll tt te) { nx := fun _ H => Q (.bl true) H, rt := Q } (st σ) H2
theorem back_to {a : Addr} {s4 s' : Shared} {code : Value} {fp : List Addr} {H2 H' : Hp} {pp : List (Addr × Obj)} {σ' : L2.St} (I4 : Inv X pins σ H2 s4) (hf : ∀ b ∈ fp, FpOk X pins H2 b) (J : Inv (gxC X N scope a code fp s4 H2) pp σ' H' s') : Inv X pins σ H' s' :=
  I4.call' (ch := fp) J.os J.base J.hok J.bare fun b hb => ⟨(hf b hb).2.2.2.1, (hf b hb).2.1, (hf b hb).2.2.2.2.1, (hf b hb).2.2.2.2.2⟩
theorem stat_of {a : Addr} {s4 : Shared} {code : Value} {fp : List Addr} {H2 : Hp} {pp : List (Addr × Obj)} (S : GnS scope) (I4 : Inv X pins σ H2 s4) (hf : ∀ b ∈ fp, FpOk X pins H2 b) (hlt : ∀ b ∈ fp, b < s4.heap.objs.size) (hfr : freeOk scope X.env.scope = true) (ha : s4.heap.objs.size ≤ a) (hpp : ∀ p ∈ pp, s4.heap.objs.size ≤ p.1) {H' : Hp} (h0 : ∀ b ∈ fp, H' b = none) :
    ∀ b ∈ fp, FpOk (gxC X N scope a code fp s4 H2) pp H' b := fun b hb => by
  have lt := hlt b hb
  refine ⟨h0 b hb, Nat.ne_of_lt (Nat.lt_of_lt_of_le lt ha), fun z => ?_, .inl hb, fun x c h => ?_, fun p hp e => ?_⟩
  · rcases List.mem_cons.mp (I4.stkSub b z) with y | y
    · exact (hf b hb).2.1 y
    · exact (hf b hb).2.2.1 y
  · obtain ⟨h1, h2⟩ := clo_from h
    unfold freeOk at hfr
    rw [List.all_eq_true] at hfr
    have q := hfr _ h1
    simp only at q
    have : X.env.kindOf x = some .cell ∨ X.env.kindOf x = some .free := by
      split at q
      · rename_i e; exact .inl e
      · rename_i e; exact .inr e
      · cases q
    obtain ⟨c0, e0⟩ := I4.ok.has x this
    rw [h2, e0]
    exact (hf b hb).2.2.2.2.1 x c0 e0
  · have hp : p ∈ pp := by simpa [gxC] using hp
    have := hpp p hp
    rw [e] at this
    exact absurd (Nat.lt_of_lt_of_le lt this) (Nat.lt_irrefl _)
theorem pe_allG {c P : Addr} {elt iter tg : Expr} {ifs : List Expr} {p pos gpos : Pos} {wi : TI} {g : TG} {tt : TT} {te : TE} {k : Nat} (hcalm : X.calm = true) (hr : Room (k + 2) X.A) (B : Blt X.mg) (TB : TabB X.base X.mg c P) (hcode : X.env.code = .ref c)
    (S : GnS scope) (hfr : freeOk scope X.env.scope = true) (hcap : capOk N nt fr X.N scope X.env.scope = true) (hi : PI X tg iter wi)
    (hg : ∀ C code fp s4 H4, Room k (gxC X N scope C code fp s4 H4).A → PG (gxC X N scope C code fp s4 H4) tg g) (ht : ∀ C code fp s4 H4, Room k (gxC X N scope C code fp s4 H4).A → PTs (gxC X N scope C code fp s4 H4) ifs tt)
    (he : ∀ C code fp s4 H4, Room k (gxC X N scope C code fp s4 H4).A → PE (gxC X N scope C code fp s4 H4) elt te)
    (hs : ∀ v, genFold iter X.env v = pure v) (hgl : Gl X "all" := by rfl)
    (hse : starEach [.GeneratorExp elt [⟨tg, iter, ifs, 0⟩] scope gpos] X.env = (false, eval (.GeneratorExp elt [⟨tg, iter, ifs, 0⟩] scope gpos) X.env) :: starEach [] X.env := by rfl) :
    PE X (.Call (.Name "all" p) [.GeneratorExp elt [⟨tg, iter, ifs, 0⟩] scope gpos] [] pos) (tAllG P wi g tt te (capSt nt fr)) := by
  refine ⟨fun pins s σ H Q I h => ?_⟩
  have hh : X.A.handled = none := I.ok.hd hcalm
  refine wpAny_Call_Name_kw (ld_blt I hgl B.all (show bootBuiltins "all" = some (.builtin "all") by decide +kernel) ?_)
  refine PyProof.Rows.callWith_builtin1 ?_ hse (by rfl)
  rw [hse]
  show wpAny _ _ (spliced ((false, eval (.GeneratorExp elt [⟨tg, iter, ifs, 0⟩] scope gpos) X.env) :: backTo pos (starEach [] X.env))) _ _ s
  refine Calls.spliced_cons (gen_mkI (N := N) (nt := nt) (fr := fr) (R := fun J H2 => tForB J g (tbAll tt te) { nx := fun _ H => Q (.bl true) H, rt := Q } (capSt nt fr σ) H2) hcalm hr TB hcode S hfr hcap hi hs I h fun J H2 a s5 hR hF => ?_)
  refine Calls.spliced_nil ?_
  obtain ⟨s4, code, fp, it, tn, go, gi, I4, hf, hlt, ha, ha2, T, st5, hgo, hga, hgs, I5⟩ := hF
  obtain ⟨W, ⟨m0, w0⟩, turn⟩ := hR
  have hrA : Room k (gxC X N scope s4.heap.objs.size code fp s4 H2).A := by
    have r1 := hr.dp
    have r2 := hr.un
    have q1 : (gxC X N scope s4.heap.objs.size code fp s4 H2).A.depth = X.A.depth + 1 := rfl
    have q2 : (gxC X N scope s4.heap.objs.size code fp s4 H2).A.units = X.A.units + 1 + 1 + 3 := rfl
    exact ⟨hh, by omega, by omega⟩
  refine call_function_tree F.kind_all F.plain_all F.entry_all (F.args_all1 _) ?_
  unfold Builtin.«all»
  refine wpAny_bind (m := oneArg "all" _) (wpAny_pure ?_)
  refine wpAny_bind (wpAny_pyIter_gen (hgo _ hga) ?_)
  refine wpAny_pure ⟨plainId_quiet F.plain_all_loop _, ?_⟩
  have depth : X.A.depth < recursionLimit := by have := hr.dp; omega
  refine all_loop_gen (Y := gxC X N scope s4.heap.objs.size code fp s4 H2) (go := (a, go)) (gi := gi) (W := fun i m cp σ H => W i m σ H) (B := fun i m cp y σ H => ∃ b, y = .bl b ∧ if b = true then ∃ m', m' < m ∧ W (i + 1) m' σ H else Q (.bl false) H) (Dn := fun _ _ H => Q (.bl true) H) (Fl := fun _ H => Q (.bl false) H)
    hh depth hgo (fun i m cp y σ H hb => hb) (fun pp σ' H' s' J' q => ⟨.bl false, H', back_to I4 hf J', rfl, q⟩) (fun pp σ' H' s' cp J' q => ⟨.bl true, H', back_to I4 hf J', rfl, q⟩) (m0 + 1) s5 ⟨hgo _ hga, I5.nolimit, _, hgs, rfl, ?_⟩
  refine seg_turns0 (Y := gxC X N scope s4.heap.objs.size code fp s4 H2) (fp := fp) (tn := tn) (J := J) (tg := tg) (g := g) (tt := tt) (te := te) rfl (fun _ _ z => z) rfl T (hg _ _ _ _ _ hrA) (ht _ _ _ _ _ hrA) (he _ _ _ _ _ hrA) S.co (fun i m cp σ H w => ?_)
    (fun cp H' hcp h0 => stat_of S I4 hf hlt hfr (Nat.le_refl _) (fun p hp => ?_) h0) (fun b hb => absurd hb List.not_mem_nil) (fun p hp hb => absurd hb List.not_mem_nil) (fun b hb hb2 => absurd hb2 List.not_mem_nil) (Nat.lt_succ_self m0) (cp := []) rfl (fun p hp => nomatch hp) (inv_kept I5 rfl (allBare_setGen I5.bare rfl) fun _ _ e => e) st5 (fun b hb => (hf b hb).1) w0
  · rcases turn i m σ H w with ⟨q1, q2⟩ | ⟨q1, Nt, hN, q2⟩
    · exact .inl ⟨q1, q2⟩
    · refine .inr ⟨q1, fun y σ' H' => ∃ b, y = .bl b ∧ if b = true then Nt σ' H' else Q (.bl false) H', Nt, fun y σ' H' ⟨b, e, z⟩ => ⟨b, e, ?_⟩, hN, q2⟩
      cases b with
      | true => rw [if_pos rfl] at z ⊢; exact hN _ _ z
      | false => rw [if_neg Bool.false_ne_true] at z ⊢; exact z
  · have e0 : cp = [] := by
      have := congrArg List.length hcp
      rw [List.length_map] at this
      exact List.eq_nil_of_length_eq_zero this
    subst e0
    rw [List.mem_singleton.mp hp]
    exact Nat.le_of_lt ha
end
end SC

/-! several tables of code at once; the state of a law that has them -/
namespace SC
open PySem L2
def Tabs (Ts : List Addr) (H : Hp) : Prop := ∀ P ∈ Ts, GxR.TabG H P
section
variable {Ts S : List Addr} {P st p : Addr} {H0 H H' : Hp} {K : PySem.W.Frag}
theorem Tabs.kp1 (h : Tabs Ts H) (k : Kp [P] H H') (g : GxR.TabG H' P) : Tabs Ts H' := fun Q m => if e : Q = P then e ▸ g else tabG_kp (h Q m) k (by simpa using e)
theorem Tabs.kp (h : Tabs Ts H) (k : Kp S H H') (n : ∀ P ∈ Ts, P ∉ S) : Tabs Ts H' := fun Q m => tabG_kp (h Q m) k (n Q m)
theorem Tabs.kp0 (h : Tabs Ts H) (k : Kp [] H H') : Tabs Ts H' := h.kp k fun _ _ => List.not_mem_nil
theorem Tabs.ne (h : Tabs Ts H) {b : Addr} {o : HO} (e : H b = some o) (no : ∀ ps, o ≠ .tbl ps := by intro ps z; cases z) : b ∉ Ts := fun m => by
  obtain ⟨ps, q, _⟩ := h b m
  rw [e] at q
  exact no ps (Option.some.inj q)
theorem Tabs.ne0 (h : Tabs Ts H) {b : Addr} (e : H b = none) : b ∉ Ts := fun m => by
  obtain ⟨ps, q, _⟩ := h b m
  rw [e] at q
  cases q
theorem Tabs.new (h : Tabs Ts H) (e : H p = none) (o : HO) : Tabs Ts (upd H p o) := h.kp0 (Kp.new e o)
theorem Tabs.tab (h : Tabs Ts H) (t : GxR.Tabbed P H H') (m : P ∈ Ts) : Tabs Ts H' := h.kp1 (Kp.tab (h P m) t (List.mem_singleton.mpr rfl)) t.1
theorem Kp.in1 (k : Kp [P] H H') (m : P ∈ Ts) : Kp Ts H H' := k.mono fun b hb => by rw [List.mem_singleton.mp hb]; exact m
theorem Kp.in0 (k : Kp [] H H') : Kp S H H' := k.mono fun b hb => absurd hb List.not_mem_nil
theorem Kp.get {b : Addr} {o : HO} (k : Kp Ts H H') (g : Tabs Ts H) (h : H b = some o) (no : ∀ ps, o ≠ .tbl ps := by intro ps z; cases z) : H' b = some o := k.keep b o (g.ne h no) h
theorem Kp.tys {v : V} {t : String} (k : Kp Ts H H') (g : Tabs Ts H) (h : tyN H v = some t) : tyN H' v = some t := by
  cases v with
  | ref p =>
    unfold tyN at h
    simp only at h
    split at h
    · rename_i xs q; cases h; exact tyN_lst (k.get g q)
    · rename_i xs q; cases h; exact tyN_tup (k.get g q)
    · rename_i xs q; cases h; exact tyN_dK (k.get g q)
    · cases h
  | _ => exact h
theorem Kp.seqs {a : Addr} {xs : List V} (k : Kp Ts H H') (g : Tabs Ts H) (h : SqL K H a xs) : SqL K H' a xs := by
  rcases h with (h | ⟨o, h⟩) | h
  · exact .inl (.inl (k.get g h))
  · exact .inl (.inr ⟨o, k.get g h⟩)
  · exact .inr h
/-- a law's state: tables may have grown, the stream stands, all else that was there is as it was -/
structure LT (Ts : List Addr) (st : Addr) (H0 H : Hp) : Prop where
  k : Kp Ts H0 H
  g : Tabs Ts H
  s : Strm H st
  g0 : Tabs Ts H0
  fr : H0 st = none
theorem LT.ne (L : LT Ts st H0 H) : st ∉ Ts := let ⟨_, _, e⟩ := L.s; L.g.ne e
theorem LT.first (g0 : Tabs Ts H0) (h : H0 st = none) {a b : Int} : LT Ts st H0 (upd H0 st (.lst [.int a, .int b])) := ⟨Kp.new h _, g0.new h _, Strm.mk, g0, h⟩
/-- what is written: a table, or what was not there at the beginning -/
theorem LT.go (L : LT Ts st H0 H) (k : Kp S H H') (hS : ∀ b ∈ S, b ∈ Ts ∨ H0 b = none) (g : Tabs Ts H') (s : Strm H' st) : LT Ts st H0 H' := by
  refine ⟨⟨fun b o n q => ?_, fun b xs q => k.tup b xs (L.k.tup b xs q)⟩, g, s, L.g0, L.fr⟩
  refine k.keep b o (fun m => ?_) (L.k.keep b o n q)
  rcases hS b m with z | z
  · exact n z
  · rw [q] at z; cases z
theorem LT.take (L : LT Ts st H0 H) (k : Kp [st] H H') (s : Strm H' st) : LT Ts st H0 H' :=
  L.go k (fun b hb => .inr (by rw [List.mem_singleton.mp hb]; exact L.fr)) (L.g.kp k fun P m z => L.ne (by rw [← List.mem_singleton.mp z]; exact m)) s
theorem LT.tabs (L : LT Ts st H0 H) (k : Kp Ts H H') (g : Tabs Ts H') : LT Ts st H0 H' := L.go k (fun b hb => .inl hb) g (L.s.kp k L.ne)
theorem LT.kp0 (L : LT Ts st H0 H) (k : Kp [] H H') : LT Ts st H0 H' := L.go k (fun b hb => absurd hb List.not_mem_nil) (L.g.kp0 k) (L.s.kp k List.not_mem_nil)
theorem LT.new (L : LT Ts st H0 H) (h : H p = none) (o : HO) : LT Ts st H0 (upd H p o) := L.kp0 (Kp.new h o)
theorem LT.free (L : LT Ts st H0 H) (h : H p = none) : H0 p = none := by
  cases e : H0 p with
  | none => rfl
  | some o =>
    exfalso
    by_cases m : p ∈ Ts
    · exact L.g.ne0 h m
    · have := L.k.keep p o m e
      rw [h] at this; cases this
theorem LT.nst (L : LT Ts st H0 H) (h : H p = none) : p ≠ st := fun z => by
  obtain ⟨x, y, e⟩ := L.s
  rw [z, e] at h; cases h
theorem LT.seq {a : Addr} {xs : List V} (L : LT Ts st H0 H) (h : SqL K H0 a xs) : SqL K H a xs := L.k.seqs L.g0 h
theorem LT.lst (L : LT Ts st H0 H) {xs ys : List V} (h0 : H0 p = none) (h : H p = some (.lst xs)) (n : p ≠ st) : LT Ts st H0 (upd H p (.lst ys)) := by
  have k : Kp [p] H (upd H p (.lst ys)) := Kp.lst h (List.mem_singleton.mpr rfl)
  exact L.go k (fun b hb => .inr (by rw [List.mem_singleton.mp hb]; exact h0)) (L.g.kp k fun P m z => by rw [List.mem_singleton.mp z] at m; exact L.g.ne h (by intro ps z; cases z) m) (L.s.kp k (by simpa using n.symm))
end
/-- a method of the class at C that keeps its promise -/
structure CalM (P : Program) (w : World) (K : PySem.W.Frag) (mg : Str → Option Value) (base : Heap) (CX : CXT) (k : Nat) (C : Addr) (x : Str) (sp : Sp) : Prop where
  ex : ∃ f fd ps, FnOk P w K mg base CX k f fd ps sp ∧ Meth K C x f ∧ Binds K fd ps []
  cl : Cls K C
/-- a class that is made without arguments -/
structure CalK (P : Program) (w : World) (K : PySem.W.Frag) (mg : Str → Option Value) (base : Heap) (CX : CXT) (k : Nat) (C : Addr) (x : Str) (sp : Sp) : Prop where
  ex : ∃ f fd ps, FnOk P w K mg base CX k f fd ps sp ∧ Mk K C f ∧ Binds K fd ps []
  mg : mg x = some (.ref C)
section
variable {P : Program} {w : World} {K : PySem.W.Frag} {mg : Str → Option Value} {base : Heap} {CX : CXT} {C : Addr} {x : Str} {sp : Sp}
theorem CalM.mono {j k : Nat} (c : CalM P w K mg base CX j C x sp) (h : j ≤ k) : CalM P w K mg base CX k C x sp :=
  let ⟨f, fd, ps, F, m, b⟩ := c.ex
  ⟨⟨f, fd, ps, F.mono h, m, b⟩, c.cl⟩
theorem CalM.imp {k : Nat} {sp' : Sp} (c : CalM P w K mg base CX k C x sp) (h : ∀ vs H Q E, sp' vs H Q E → sp vs H Q E) : CalM P w K mg base CX k C x sp' :=
  let ⟨f, fd, ps, F, m, b⟩ := c.ex
  ⟨⟨f, fd, ps, F.imp h, m, b⟩, c.cl⟩
end
section
variable {X : Cx} {x : Str} {p pos apos : Pos} {o e : Expr} {es : List Expr} {ta : TE} {t : TA} {sp : Sp} {j k : Nat} {CX : CXT} {E : XK} {C : Addr} {pl : Sem Bool}
theorem CalM.pex (c : CalM X.prog X.w X.K X.mg X.base CX j C x sp) (hr : Room k X.A) (hx : Passes CX X E) (ho : PE X o ta) (ha : PA X (e :: es) t) (hjk : j ≤ k := by first | decide | omega)
    (hst : starEach (e :: es) X.env = (false, eval e X.env) :: starEach es X.env := by rfl) (hpl : (backTo pos (starEach es X.env)).any (·.1) = false := by rfl)
    (ht : eval (.Call (.Attribute o x apos) (e :: es) [] pos) X.env = (do
      let ov ← eval o X.env
      standAt apos.atName
      let (f, first) ← holding [ov] (getMethod ov x pl)
      callWith pos f first (backTo pos (starEach (e :: es) X.env)) (backToKw pos (keywordEach [] X.env))) := by rfl) :
    PE X (.Call (.Attribute o x apos) (e :: es) [] pos) (tMeth C x sp [] E ta t) :=
  let ⟨_, _, _, F, m, b⟩ := c.ex
  pe_meth ho c.cl m F (hr.mono hjk) b .nil hx ha hst hpl ht
theorem CalM.pe (c : CalM X.prog X.w X.K X.mg X.base CX0 j C x sp) (hr : Room k X.A) (ho : PE X o ta) (ha : PA X (e :: es) t) (hjk : j ≤ k := by first | decide | omega)
    (hst : starEach (e :: es) X.env = (false, eval e X.env) :: starEach es X.env := by rfl) (hpl : (backTo pos (starEach es X.env)).any (·.1) = false := by rfl)
    (ht : eval (.Call (.Attribute o x apos) (e :: es) [] pos) X.env = (do
      let ov ← eval o X.env
      standAt apos.atName
      let (f, first) ← holding [ov] (getMethod ov x pl)
      callWith pos f first (backTo pos (starEach (e :: es) X.env)) (backToKw pos (keywordEach [] X.env))) := by rfl) :
    PE X (.Call (.Attribute o x apos) (e :: es) [] pos) (tMeth C x sp [] E0 ta t) := c.pex hr pass0 ho ha hjk hst hpl ht
/-- of a method that may raise, where it does not -/
theorem CalM.peL (c : CalM X.prog X.w X.K X.mg X.base (L2.CX X.prog X.w) j C x sp) (hr : Room k X.A) (ho : PE X o ta) (ha : PA X (e :: es) t) (hjk : j ≤ k := by first | decide | omega)
    (hst : starEach (e :: es) X.env = (false, eval e X.env) :: starEach es X.env := by rfl) (hpl : (backTo pos (starEach es X.env)).any (·.1) = false := by rfl)
    (ht : eval (.Call (.Attribute o x apos) (e :: es) [] pos) X.env = (do
      let ov ← eval o X.env
      standAt apos.atName
      let (f, first) ← holding [ov] (getMethod ov x pl)
      callWith pos f first (backTo pos (starEach (e :: es) X.env)) (backToKw pos (keywordEach [] X.env))) := by rfl) :
    PE X (.Call (.Attribute o x apos) (e :: es) [] pos) (tMeth C x sp [] E0 ta t) := c.pex hr passL ho ha hjk hst hpl ht
theorem CalM.pe0 (c : CalM X.prog X.w X.K X.mg X.base CX0 j C x sp) (hr : Room k X.A) (ho : PE X o ta) (hjk : j ≤ k := by first | decide | omega)
    (ht : eval (.Call (.Attribute o x apos) [] [] pos) X.env = (do
      let ov ← eval o X.env
      standAt apos.atName
      let (f, first) ← holding [ov] (getMethod ov x pl)
      callWith pos f first (backTo pos (starEach [] X.env)) (backToKw pos (keywordEach [] X.env))) := by rfl) :
    PE X (.Call (.Attribute o x apos) [] [] pos) (tMeth C x sp [] E0 ta tNil) :=
  let ⟨_, _, _, F, m, b⟩ := c.ex
  pe_meth0 ho c.cl m F (hr.mono hjk) b .nil pass0 ht
theorem CalK.pe0 (c : CalK X.prog X.w X.K X.mg X.base CX0 j C x sp) (hr : Room k X.A) (hjk : j + 1 ≤ k := by first | decide | omega) (hg : Gl X x := by rfl) (hdb : (x == ("__debug__" : Str)) = false := by decide) :
    PE X (.Call (.Name x p) [] [] pos) (tMake C sp [] E0 tNil) :=
  let ⟨_, _, _, F, m, b⟩ := c.ex
  pe_make0 m F (hr.mono hjk) hg c.mg b .nil pass0 hdb
end
section
variable {X : Cx}
theorem Blt.len_d {p pos : Pos} {e : Expr} {es : List Expr} {t : TA} (B : Blt X.mg) (ha : PA X (e :: es) t) (hg : Gl X "len" := by rfl) (he : starEach (e :: es) X.env = (false, eval e X.env) :: starEach es X.env := by rfl) (hpl : (backTo pos (starEach es X.env)).any (·.1) = false := by rfl) :
    PE X (.Call (.Name "len" p) (e :: es) [] pos) (tCB rLenT t) := pe_callB call_len_dT hg B.len PySem.boot_len ha (he := he) (hpl := hpl)
end
end SC

/-! try with several clauses that name the caught error, all by one name -/
namespace SC
open PySem PySem.Spec PyProof.Rows L2
/-- one clause's class and its suite's reading -/
abbrev Clause := Value × (Addr → Value → Option Addr → TS)
/-- how the name at the slot i goes behind a suite -/
def dropE (i : Nat) (D : Ends) : Ends := { nx := fun τ G => D.nx (τ.set i none) G, rt := D.rt, bk := fun τ G => D.bk (τ.set i none) G, ct := fun τ G => D.ct (τ.set i none) G }
/-- the wishes of the clauses, from the first -/
def wClauses (K : PySem.W.Frag) (i : Nat) (out : WX) (D : Ends) : List Clause → WX
  | [] => out
  | k :: r => fun cv dd τ G => ∃ yes, PySem.W.exmOne K cv k.1 = some yes ∧ if yes = true then (∀ e, G e = none → k.2 e cv dd (dropE i D) (τ.set i (some (.ref e))) G) else wClauses K i out D r cv dd τ G
/-- the clauses as they are written, each of them with the name n -/
inductive Written (X : Cx) (n : Str) : List ExceptHandler → List Clause → Prop
  | none : Written X n [] []
  | one {cn : Str} {k : Clause} {st : Stmt} {more : List Stmt} {p1 p2 : Pos} {hs : List ExceptHandler} {ks : List Clause} (named : Names X cn k.1)
      (runs : ∀ (e : Addr) (ob : Obj) (cv : Value) (dd : Option Addr) (held : List (Addr × Obj)), Zc cv dd ob → (∃ fs, ob.data = .fields fs) → PSs (X.suite e ((e, ob) :: held)) (st :: more) (k.2 e cv dd)) (rest : Written X n hs ks) :
      Written X n (.ExceptHandler (some (.Name cn p1)) (some n) (st :: more) p2 :: hs) (k :: ks)
section
variable {X : Cx} {n : Str} {i : Nat} {body : List Stmt} {first : ExceptHandler} {others : List ExceptHandler} {ks : List Clause} {pos : Pos} {tb : WX → TS} {out : WX}
theorem ps_try_asMany (stk : X.stack = X.env :: X.outer) (frm : X.env.frame = some X.env.locals) (nodup : X.N.Nodup) (slot : X.N[i]? = some n) (isLoc : X.env.kindOf n = some .local) (leaves : Takes X out)
    (runBody : ∀ (V : WX) (held : List (Addr × Obj)) (ex : Value → Shared → Prop), Takes (X.tr held ex) V → PassesOwn (model X.prog X.w) X.A X.env ex → PSs (X.tr held ex) body (tb V))
    (clauses : Written X n (first :: others) ks) : PS X (.Try body (first :: others) [] [] pos) (fun D τ G => tb (wClauses X.K i out D ks) D τ G) := by
  refine ⟨fun held s τ G D I pre => ?_⟩
  have good := I.ok
  have around : X.A.frames = some (X.env :: X.outer) := by rw [good.frames, stk]
  refine wpAny_Try_except ?_
  let after : Value → Shared → Prop := fun ev t1 => wpAny (model X.prog X.w) X.A (noteFrame ev X.env)
    (fun _ t2 => wpAny (model X.prog X.w) X.A (setFlight ev none) (fun _ t3 => wpAny (model X.prog X.w) X.A (handleBy ev X.env (first :: others)) (SP X held D) X.xe t3) X.xe t2) X.xe t1
  refine wpAny_mono ((runBody (wClauses X.K i out D ks) (X.pn ++ held) after (fun ev t thrown => ?_) PassesOwn.looking).run [] s τ G D (I.toTry _) pre) (fun flow t done => ?_) (fun _ _ z => z)
  · obtain ⟨e, base, sT, heldT, τ1, G1, cv, dd, rfl, IT, newer, upT, skyT, freeE, osT, gensT, wish⟩ := thrown
    have I1 : Inv X held τ1 G1 sT := IT.ofTry good
    show wpAny (model X.prog X.w) X.A (noteFrame (.ref e) X.env) _ _ _
    refine Sky.land Zc.steady around frm (by rw [← stk]; exact skyT) fun hA fly upA => ?_
    have IA : Inv X held τ1 G1 { t with heap := hA } := I1.landed newer fly.1 (upT.trans upA) osT gensT
    obtain ⟨ob, fs, obAt, obZ, obF⟩ := fly.there
    have offFrames : e ∉ frs (X.env :: X.outer) := fun inFrames => by
      obtain ⟨_, ob2, at2, notFields⟩ := fly.2.2.1.mem inFrames
      rw [obAt] at at2
      exact notFields _ (Option.some.inj at2 ▸ obF)
    have offLocals : e ≠ X.env.locals := fun z => offFrames (List.mem_filterMap.mpr ⟨X.env, List.mem_cons_self, by rw [frm, z]⟩)
    have offOuter : e ∉ X.fs := fun m =>
      let ⟨en, enIn, q⟩ := List.mem_filterMap.mp m
      offFrames (List.mem_filterMap.mpr ⟨en, List.mem_cons_of_mem _ enIn, q⟩)
    have inSuite := IA.suite obAt obF freeE offLocals offOuter
    clear pre
    suffices each : ∀ {hs : List ExceptHandler} {cs : List Clause}, Written X n hs cs → wClauses X.K i out D cs cv dd τ1 G1 →
        wpAny (model X.prog X.w) X.A (handleBy (.ref e) X.env hs) (SP X held D) X.xe { t with heap := hA } from each clauses wish
    intro hs cs written
    induction written with
    | none =>
      intro goesOn
      refine wpAny_handleBy_nil ?_
      obtain ⟨_, _, _, ob3, fs3, tb3, _, _, at3, _, f3, g3, _⟩ := id fly
      unfold PySem.passOn
      refine wpAny_bind (wpAny_field at3 f3 g3 ?_)
      rw [if_neg (by simp)]
      have again : wpAny (model X.prog X.w) X.A (setFlight (.ref e) X.env.frame) (fun _ t4 => wpAny (model X.prog X.w) X.A (throw (.ref e) : Sem Flow) (SP X held D) X.xe t4) X.xe { t with heap := hA } := by
        rw [frm]
        exact HandSPX.setFlight_upZ fly fun hB heldB upB => wpAny_throw (leaves _ _ ⟨e, base, sT, held, τ1, G1, cv, dd, rfl, I1, newer, (upT.trans upA).trans upB, .inr (.inr (by rw [stk]; exact heldB)), freeE, osT, gensT, goesOn⟩)
      first
        | exact wpAny_bind (wpAny_pure (wpAny_bind again))
        | exact wpAny_bind again
    | @one cn k st more p1 p2 hs2 ks2 named runs rest ih =>
      rintro ⟨yes, match1, w2⟩
      have looks := PySem.W.exm_one (M := model X.prog X.w) IA.kIn (fun A Q E u kk q => wpAny_typeOf_ref (kk _ _ obAt) (by rw [obZ.1]; exact q) : PySem.W.Looks (model X.prog X.w) hA (typeOf (.ref e)) cv) match1
      refine wpAny_handleBy_cons (codeAny_handlers_test ?_) (by intro q; cases q)
      have reads : ∀ {Q E : Value → Shared → Prop}, Q k.1 { t with heap := hA } → wpAny (model X.prog X.w) (X.A.mark (some (.ref e))) (eval (.Name cn p1) X.env) Q E { t with heap := hA } := fun {Q E} q => by
        rcases named with ⟨gl, nodbg, isMod | ⟨isMod, isB, nn⟩⟩
        · exact ld_glob (X := X.suite e ((e, ob) :: (X.pn ++ held))) inSuite gl isMod q nodbg
        · exact ld_blt (X := X.suite e ((e, ob) :: (X.pn ++ held))) inSuite gl isMod isB q nn nodbg
      refine reads (looks.here ?_)
      cases yes with
      | false =>
        rw [if_neg (by decide)] at w2
        show wpAny _ X.A (handleBy (.ref e) X.env hs2) _ _ _
        exact ih w2
      | true =>
        rw [if_pos rfl] at w2
        refine codeAny_handlers_suite_as (HandSPX.lands_againZ fly fun hB flyB upB => ?_)
        have IB : Inv X held τ1 G1 { t with heap := hB } := I1.landed newer flyB.1 ((upT.trans upA).trans upB) osT gensT
        obtain ⟨obB, fsB, atB, zB, fB⟩ := flyB.there
        refine store_ok (X := X.suite e ((e, obB) :: (X.pn ++ held))) (v := .ref e) (IB.suite atB fB freeE offLocals offOuter) nodup slot (.inl isLoc) rfl (fun t5 I5 => ?_) (.inr isLoc)
        refine wpAny_mono ((runs e obB cv dd (X.pn ++ held) zB ⟨_, fB⟩).run [] t5 _ G1 _ I5 (w2 e freeE)) (fun flow t6 ended => ?_) (fun _ _ z => False.elim z)
        have gone : ∀ {τ6 : L2.St} {G6 : Hp} {Q : Shared → Prop}, Inv (X.suite e ((e, obB) :: (X.pn ++ held))) [] τ6 G6 t6 → (∀ t7, Inv X held (τ6.set i none) G6 t7 → Q t7) →
            wpAny (model X.prog X.w) X.A (do bindName X.env n .none; unbindBehindTheSuite X.env n p2) (fun _ t7 => Q t7) X.xe t6 := fun {τ6 G6 Q} I6 q => gone_ok (I6.unsuite good) nodup slot isLoc q
        cases flow with
        | ret u => exact let ⟨_, _, _, I6, r6, q6⟩ := ended; gone I6 fun _ I7 => ⟨_, _, _, I7, r6, q6⟩
        | next => exact let ⟨_, _, I6, q6⟩ := ended; gone I6 fun _ I7 => ⟨_, _, I7, q6⟩
        | brk => exact let ⟨_, _, I6, q6⟩ := ended; gone I6 fun _ I7 => ⟨_, _, I7, q6⟩
        | cont => exact let ⟨_, _, I6, q6⟩ := ended; gone I6 fun _ I7 => ⟨_, _, I7, q6⟩
  · cases flow with
    | ret u => exact let ⟨_, _, _, J, r, q⟩ := done; ⟨_, _, _, J.ofTry good, r, q⟩
    | next => exact let ⟨_, _, J, q⟩ := done; wpAny_execs_nil ⟨_, _, J.ofTry good, q⟩
    | brk => exact let ⟨_, _, J, q⟩ := done; ⟨_, _, J.ofTry good, q⟩
    | cont => exact let ⟨_, _, J, q⟩ := done; ⟨_, _, J.ofTry good, q⟩
end
/-- o.m(..) of a method that may raise, the wish by the slots -/
def tMethV (C : Addr) (m : Str) (sp : Sp) (E : L2.St → XK) (ta : TE) (t : TA) : TE := fun σ H Q => ta σ H fun x H1 => ∃ a dx fs, x = .ref a ∧ H1 a = some (.ins C dx fs) ∧ fs.lookup m = none ∧ t σ H1 fun vs H2 => sp (x :: vs) H2 Q (E σ)
section
variable {X : Cx} {x : Str} {pos apos : Pos} {o e : Expr} {es : List Expr} {ta : TE} {t : TA} {sp : Sp} {j k : Nat} {C : Addr} {pl : Sem Bool} {V : WX}
theorem CalM.peV (c : CalM X.prog X.w X.K X.mg X.base (L2.CX X.prog X.w) j C x sp) (hr : Room k X.A) (tk : Takes X V) (ho : PE X o ta) (ha : PA X (e :: es) t) (hjk : j ≤ k := by first | decide | omega)
    (hst : starEach (e :: es) X.env = (false, eval e X.env) :: starEach es X.env := by rfl) (hpl : (backTo pos (starEach es X.env)).any (·.1) = false := by rfl)
    (ht : eval (.Call (.Attribute o x apos) (e :: es) [] pos) X.env = (do
      let ov ← eval o X.env
      standAt apos.atName
      let (f, first) ← holding [ov] (getMethod ov x pl)
      callWith pos f first (backTo pos (starEach (e :: es) X.env)) (backToKw pos (keywordEach [] X.env))) := by rfl) :
    PE X (.Call (.Attribute o x apos) (e :: es) [] pos) (tMethV C x sp (WE V) ta t) := by
  obtain ⟨f, fd, ps, F, M, b⟩ := c.ex
  refine ⟨fun held s σ H Q I pre => PySem.W.methodCall_KW (pl := pl) (thn (ho.run held s σ H _ I pre) fun u s1 gives => ?_) ht⟩
  obtain ⟨v, H1, I1, rel, p, dx, fs, rfl, isIns, noField, args⟩ := gives
  cases (show u = Value.ref p from rel)
  refine getmeth_ok I1 isIns c.cl M noField (PySem.W.callWith_K (first := [.ref p]) (h₀ := X.base) I.ok.mod.kin M.kp (thn (ha.run pos held s1 σ H1 _ I1 args) fun us s2 told => ?_) hst hpl)
  obtain ⟨vs, H2, I2, rels, q⟩ := told
  exact ⟨I2.kIn, run_fnS (us := .ref p :: us) (vs := .ref p :: vs) F (hr.mono hjk) b (passAt tk σ) I2 (.cons rfl rels) q⟩
/-- a suite that is read under what the caught error is -/
theorem pss_given {Y : Cx} {b : List Stmt} {u : TS} {p : Prop} (h : p → PSs Y b u) : PSs Y b (fun D σ H => p ∧ u D σ H) := ⟨fun held s σ H D I both => (h both.1).run held s σ H D I both.2⟩
/-- int(b) -/
theorem call_intB : CallR X (.type "int") (fun xs H Q => ∃ k : Bool, xs = [.bl k] ∧ Q (.int (if k then 1 else 0)) H) := fun pins s σ H xs us Q I r h => call_int1 pins s σ H xs us Q I r (.inr h)
theorem Blt.int_b {p : Pos} (B : Blt X.mg) (ha : PA X (e :: es) t) (hg : Gl X "int" := by rfl) (he : starEach (e :: es) X.env = (false, eval e X.env) :: starEach es X.env := by rfl) (hpl : (backTo pos (starEach es X.env)).any (·.1) = false := by rfl) :
    PE X (.Call (.Name "int" p) (e :: es) [] pos) (tCB (fun xs H Q => ∃ k : Bool, xs = [.bl k] ∧ Q (.int (if k then 1 else 0)) H) t) :=
  pe_callTy call_intB hg B.int (by decide +kernel) ha (he := he) (hpl := hpl)
end
end SC

set_option maxHeartbeats 3200000
/-! sorted(set(xs)) and sorted(xs) of texts, of any number -/
namespace SC
open PySem PySem.Spec PyProof.Rows L2
open PySem.Froz (SD sObj TxOk addTx tailTx add_ok is_str)
section
variable {P : Program} {w : World} {A : Around} {E : Value → Shared → Prop} {s : Shared}
/-- the set at a holds the texts l, each once; its table rises and can be walked -/
structure TxR (P : Program) (w : World) (h : Heap) (a : Addr) (l : List Str) : Prop where
  ex : ∃ D, h.get? a = some (sObj "set" D) ∧ TxOk P w D l ∧ Ris D.2.2.place.toList ∧ (w.params.followText "set-order" = true ∨ D.2.2.led = true)
  nd : l.Nodup
theorem TxR.at {h h' : Heap} {a : Addr} {l : List Str} (R : TxR P w h a l) (k : ∀ o, h.get? a = some o → h'.get? a = some o) : TxR P w h' a l :=
  let ⟨D, e, r⟩ := R.ex
  ⟨⟨D, k _ e, r⟩, R.nd⟩
/-- the set that set() makes, before the first item -/
abbrev newSetObj (w : World) : Obj := { cls := .type "set", dict := none, data := .set #[] 0 (.fresh 0 0 (!w.params.followText "set-order")) }
theorem TxR.fresh {h : Heap} {a : Addr} (e : h.get? a = some (newSetObj w)) : TxR P w h a [] := by
  refine ⟨⟨(#[], 0, .fresh 0 0 (!w.params.followText "set-order")), e, TxOk.nil rfl, List.Pairwise.nil, ?_⟩, List.nodup_nil⟩
  show _ ∨ (!w.params.followText "set-order") = true
  cases w.params.followText "set-order" <;> simp
theorem addTx_walk {hs : Int} {v : Value} {D : SD} (r : Ris D.2.2.place.toList) (g : w.params.followText "set-order" = true ∨ D.2.2.led = true) :
    Ris (addTx hs v D).2.2.place.toList ∧ (w.params.followText "set-order" = true ∨ (addTx hs v D).2.2.led = true) := by
  obtain ⟨es, ep, t⟩ := D
  have r1 := layNew_ris t es hs v r
  have l1 := layNew_led t es hs v
  unfold addTx tailTx
  dsimp only
  generalize layNew t es hs v = L at r1 l1 ⊢
  obtain ⟨e1, t1, wd, gv⟩ := L
  dsimp only at r1 l1 ⊢
  have r2 : Ris (if t1.plain = true then { t1 with plain := false } else t1).place.toList := by split <;> exact r1
  have l2 : (if t1.plain = true then { t1 with plain := false } else t1).led = t.led := by split <;> exact l1
  generalize (if t1.plain = true then { t1 with plain := false } else t1) = t2 at r2 l2 ⊢
  split
  · refine ⟨relayAll_ris t2 e1 _, g.imp id fun q => ?_⟩
    rw [relayAll_led, l2]; exact q
  · exact ⟨r2, g.imp id fun q => by rw [l2]; exact q⟩
/-- one text is put in -/
theorem TxR.add {a : Addr} {l : List Str} {k : Str} {u : Tok} {Q : Bool → Shared → Prop} (R : TxR P w s.heap a l) (few : l.length + 1 < scanBound)
    (q : ∀ h' b, Heap.SameBut a s.heap h' → TxR P w h' a (if k ∈ l then l else k :: l) → Q b { s with heap := h' }) : wpAny (model P w) A (setAddHashed a (.str k u) (hashStr w k)) Q E s := by
  obtain ⟨D, at_, ok, ris, walk⟩ := R.ex
  by_cases m : k ∈ l
  · obtain ⟨es, ep, t⟩ := D
    have few0 : es.size < scanBound := by have : es.size = l.length := ok.sz; omega
    unfold setAddHashed setAddHashedIn
    refine wpAny_holding (wpAny_bind (wpAny_setState_of at_ (show (sObj "set" (es, ep, t)).data = .set es ep t from rfl) ok.fit ?_))
    dsimp only
    rw [byScan_of (x := Value.str k u) rfl few0 ok.el, if_pos rfl]
    unfold setAddByScan
    refine wpAny_bind (wpAny_bind (wpAny_rule (wpAny_bind (wpAny_setScan_of (knd := strKind P w) (k := k) (is_str k u) at_ (show (sObj "set" (es, ep, t)).data = .set es ep t from rfl) ok.fit ok.el ?_))))
    obtain ⟨e, he, hp⟩ := (ok.mem k).mp m
    cases fnd : List.findIdx? (fun e => (strKind P w).is k e.2) es.toList with
    | none =>
      have := List.findIdx?_eq_none_iff.mp fnd e he
      rw [hp] at this; cases this
    | some j =>
      have z := q s.heap false (Heap.SameBut.refl a s.heap) (by rw [if_pos m]; exact R)
      exact wpAny_pure (wpAny_pure z)
  · refine PySem.Froz.add_x at_ ok m few (q _ _ ?_ ?_)
    · exact ⟨by rw [Heap.size_update], fun b hb => Heap.get?_update_other _ _ (Ne.symm hb)⟩
    · rw [if_neg m]
      exact ⟨⟨addTx (hashStr w k) (.str k u) D, PySem.Froz.get_upd _ at_ rfl, add_ok u ok, addTx_walk ris walk⟩, List.nodup_cons.mpr ⟨m, R.nd⟩⟩
/-- what the first i of xs make of the set at S -/
def Upto (P : Program) (w : World) (S : Addr) (xs : List Str) (i : Nat) (h : Heap) : Prop := ∃ l, TxR P w h S l ∧ (∀ z, z ∈ l ↔ z ∈ xs.take i) ∧ l.length ≤ i
theorem Upto.at {h h' : Heap} {S : Addr} {xs : List Str} {i : Nat} (u : Upto P w S xs i h) (k : ∀ o, h.get? S = some o → h'.get? S = some o) : Upto P w S xs i h' := let ⟨l, r, m⟩ := u; ⟨l, r.at k, m⟩
theorem Upto.more {h' : Heap} {S : Addr} {xs l : List Str} {i : Nat} {z : Str} (at_ : xs[i]? = some z) (mem : ∀ y, y ∈ l ↔ y ∈ xs.take i) (len : l.length ≤ i) (R : TxR P w h' S (if z ∈ l then l else z :: l)) : Upto P w S xs (i + 1) h' := by
  refine ⟨_, R, fun y => ?_, ?_⟩
  · rw [List.take_add_one, at_, List.mem_append, Option.toList_some, List.mem_singleton, ← mem y]
    split
    · rename_i m
      exact ⟨.inl, fun q => q.elim id fun e => by rw [e]; exact m⟩
    · rw [List.mem_cons]
      exact or_comm
  · split
    · omega
    · exact Nat.succ_le_succ len
theorem loop_txts {it S : Addr} {fp wr : List Addr} {G : Array GenState → Array GenState → Prop} {n : Nat} {Pv : Nat → Value → Prop} {St : Nat → Shared → Prop} {R : Result → Shared → Prop} {xs : List Str}
    (W : WalksS P w A.in1 it fp wr G n Pv St) (off : S ∉ fp) (len : n = xs.length) (few : xs.length + 1 < scanBound) (vals : ∀ i v, Pv i v → ∃ z u, xs[i]? = some z ∧ v = Value.str z u) :
    ∀ (k i : Nat) (s : Shared), n - i = k → i ≤ n → St i s → Upto P w S xs i s.heap → (∀ s', Moved (S :: wr) G s s' → Upto P w S xs n s'.heap → R (.ok (.ret .none)) s') →
      codeAny (model P w) A (.builtin "set.update.loop" ⟨[.ref S, .ref it], []⟩) R s := by
  have offW : S ∉ wr := fun m => off (W.sub _ m)
  intro k
  induction k with
  | zero =>
    intro i s left le st up out
    obtain rfl : i = n := by omega
    refine codeAny_builtin F.entry_set_update_loop (by
      rw [Around.under_plainId F.plain_set_update_loop _]
      exact wpAny_bind (m := pyNext (.ref it)) (W.done s _ _ st fun s' moved => wpAny_pure (out s' (moved.mono fun b hb => List.mem_cons_of_mem _ hb) (up.at fun o e => moved.heap S o offW e))))
  | succ k ih =>
    intro i s left le st up out
    have lt : i < n := by omega
    refine codeAny_builtin F.entry_set_update_loop (by
      rw [Around.under_plainId F.plain_set_update_loop _]
      refine wpAny_bind (m := pyNext (.ref it)) (W.item i s _ _ lt st fun v s' is_ st' moved => ?_)
      obtain ⟨z, u, at_, rfl⟩ := vals i v is_
      obtain ⟨l, tr, mem, ll⟩ := up.at (h' := s'.heap) fun o e => moved.heap S o offW e
      refine wpAny_bind (m := holding [Value.str z u] (setAdd S (.str z u))) (wpAny_holding ?_)
      unfold setAdd
      refine wpAny_holding (wpAny_bind ((strKind P w).pyHash (k := z) (is_str z u) ?_))
      refine TxR.add (s := { s' with toks := s'.toks + 1 }) tr (by omega) fun h' b same R2 => ?_
      have frame : ∀ c ∈ fp, ∀ o, s'.heap.get? c = some o → h'.get? c = some o := fun c hc o e => by rw [same.2 c (fun z : c = S => off (by rw [← z]; exact hc))]; exact e
      refine wpAny_pure ⟨plainId_quiet F.plain_set_update_loop _, ih (i + 1) _ (by omega) lt (W.frame _ s' _ _ st' (Nat.le_succ _) frame) (Upto.more at_ mem ll R2) fun s2 moved2 up2 => out s2 (Moved.trans W.gtrans (((moved.mono fun b hb => List.mem_cons_of_mem _ hb)).then_heap (Nat.le_succ _) fun b o off2 e => ?_) moved2) up2⟩
      rw [same.2 b fun z : b = S => off2 (by rw [z]; exact List.mem_cons_self)]
      exact e)
local macro_rules | `(tactic| walk_at "go") => `(tactic| repeat (any_goals (first | assumption | wp_step)))
/-- set(xs), xs a list of texts -/
theorem set_of_txts {l : Addr} {items : Array Value} {xs : List Str} {Q : Value → Shared → Prop} (hh : A.handled = none) (isL : s.heap.IsList l items) (txt : StrsAre items.toList xs) (few : xs.length + 1 < scanBound)
    (q : ∀ (h' : Heap) (tk : Nat), Upto P w s.heap.objs.size xs xs.length h' → (∀ b o, s.heap.get? b = some o → h'.get? b = some o) → Q (.ref s.heap.objs.size) { s with heap := h', toks := tk }) :
    wpAny (model P w) A (call (.type "set") [.ref l]) Q E s := by
  have size : items.size = xs.length := by have z := StrsAre.length txt; rwa [Array.length_toList] at z
  let S := s.heap.objs.size
  let h1 := s.heap.push (newSetObj w)
  have at1 : h1.get? S = some (newSetObj w) := Heap.get?_push_size _ rfl
  have size1 : h1.objs.size = S + 1 := Heap.size_push ..
  obtain ⟨c, tl, mro⟩ := F.called_set.mro
  have made := F.called_set.made
  have sub := F.called_set.sub
  refine wpAny_call (codeAny_of_tree (wpAny_pure ⟨Code.quiet_builtin _ (by decide +kernel), codeAny_builtin F.entry_type_call ?_⟩))
  rw [Around.under_plain (weight_type_call_type "set" [.ref l] []) rfl]
  have nt := F.called_set.notType
  have cc := F.called_set.canCreate
  have tc := F.typeCall_set_1 (.ref l)
  walk_at "go"
  refine codeAny_mono (code_set_led1 (.ref l) (E := E) (Q₁ := fun obj t => obj = .ref S ∧ t = { s with heap := h1 }) ⟨rfl, rfl⟩) fun r t hr => ?_
  cases r with
  | error e => exact hr
  | ok fl =>
    cases fl with
    | next => exact hr.elim
    | brk => exact hr.elim
    | cont => exact hr.elim
    | ret obj =>
      obtain ⟨rfl, rfl⟩ := hr
      have ty : Shared.TypeIs { s with heap := h1 } (.ref S) "set" := ⟨_, at1, rfl⟩
      have li := F.called_set.init.lookup
      have bi := F.called_set.init.bind (.ref S)
      walk_at "go"
      refine codeAny_mono (codeAny_call_builtin (R := wants (fun r t2 => r = .none ∧ ∃ h' tk, t2 = { s with heap := h', toks := tk } ∧ Upto P w S xs xs.length h' ∧ ∀ b o, s.heap.get? b = some o → h'.get? b = some o) E) F.called_set.init.plain F.entry_set_init (check_set_init_1 ty ?_)) fun r2 t2 hr2 => ?_
      · obtain ⟨⟨cls, dct, dat, sls⟩, got, isCls, nn, isDat⟩ := isL
        simp only at isCls isDat
        subst isCls isDat
        have got1 : h1.get? l = some { cls := .type "list", dict := dct, data := .seq items nn, slots := sls } := Heap.get?_push_of_some _ got
        have q1 := F.sub_list_set
        have q2 := F.sub_list_frozenset
        have q3 : (Value.type "list" == Value.type "dict") = false := by decide
        have isL1 : h1.IsList l items := ⟨_, got1, rfl, nn, rfl⟩
        have ltS : l < S := Heap.lt_size got
        unfold Builtin.«set.__init__» noKeywords Builtin.Frozenset.updateFrom
        generalize keepIter : pyIter = PI
        wp_walk
        subst keepIter
        refine wpAny_pyIter_list isL1 (wpAny_bind (wpAny_runValue ?_))
        have calm : A.in1.in1.in1.handled = none := by simp [hh]
        have neIt : l ≠ h1.objs.size := by rw [size1]; exact Nat.ne_of_lt (Nat.lt_succ_of_lt ltS)
        have off : S ∉ [h1.objs.size, l] := by
          rw [size1]
          intro m
          rcases List.mem_cons.mp m with z | z
          · exact Nat.ne_of_lt (Nat.lt_succ_self _) z
          · exact Nat.ne_of_gt ltS (List.mem_singleton.mp z)
        have vals : ∀ (i : Nat) (v : Value), items[i]? = some v → ∃ z u, xs[i]? = some z ∧ v = Value.str z u := fun i v hv => by
          have hi : i < xs.length := by rw [← size]; exact (Array.getElem?_eq_some_iff.mp hv).1
          obtain ⟨u, e⟩ := SS.strs_at txt i v (by rw [Array.getElem?_toList]; exact hv)
          refine ⟨xs[i], u, List.getElem?_eq_getElem hi, e.trans ?_⟩
          rw [List.getD_eq_getElem?_getD, List.getElem?_eq_getElem hi]
          all_goals rfl
        refine loop_txts (xs := xs) (P := P) (w := w) ((Walks.list calm _ l neIt items).toS) off size few vals (items.size - 0) 0 _ (by omega) (Nat.zero_le _) ⟨⟨_, Heap.get?_push_size _ rfl, rfl, rfl⟩, isL1.push _⟩ ?first ?last
        case first => exact ⟨[], TxR.fresh (Heap.get?_push_of_some _ at1), fun z => by simp, Nat.le_refl _⟩
        case last =>
          rintro ⟨h', g', d', tk', os'⟩ moved up
          obtain rfl : g' = s.gens := moved.gens
          obtain rfl : d' = s.drawn := moved.drawn
          obtain rfl : os' = s.os := moved.os
          rw [size] at up
          refine wpAny_pure (wpAny_pure ⟨rfl, h', tk', rfl, up, fun b o e => ?_⟩)
          have ltb : b < S := Heap.lt_size e
          refine moved.heap b o (fun m => ?_) (Heap.get?_push_of_some _ (Heap.get?_push_of_some _ e))
          rcases List.mem_cons.mp m with z | z
          · exact Nat.ne_of_lt ltb z
          · have z := List.mem_singleton.mp z
            rw [size1] at z
            exact absurd z (Nat.ne_of_lt (Nat.lt_succ_of_lt ltb))
      · cases r2 with
        | error e => exact hr2
        | ok fl2 =>
          cases fl2 with
          | next => exact hr2.elim
          | brk => exact hr2.elim
          | cont => exact hr2.elim
          | ret r =>
            obtain ⟨rfl, h', tk, rfl, up, kept⟩ := hr2
            walk_at "go"
            exact q _ _ up kept
end
end SC

namespace SC
open PySem PySem.Spec PyProof.Rows L2
open PySem.Froz (SD sObj TxOk)
/-! the order of texts -/
def lt (x y : Str) : Bool := ltCps (TL.tl x) (TL.tl y)
theorem ltc_irr : ∀ a : List Nat, ltCps a a = false
  | [] => rfl
  | x :: r => by
    show (decide (x < x) || (x == x && ltCps r r)) = false
    rw [ltc_irr r, decide_eq_false (Nat.lt_irrefl x), Bool.and_false]; rfl
theorem ltc_trans : ∀ a b c : List Nat, ltCps a b = true → ltCps b c = true → ltCps a c = true
  | [], [], _, h, _ => by cases h
  | [], _ :: _, [], _, h => by cases h
  | [], _ :: _, _ :: _, _, _ => rfl
  | _ :: _, [], _, h, _ => by cases h
  | _ :: _, _ :: _, [], _, h => by cases h
  | x :: a, y :: b, z :: c, h1, h2 => by
    have k1 : (decide (x < y) || (x == y && ltCps a b)) = true := h1
    have k2 : (decide (y < z) || (y == z && ltCps b c)) = true := h2
    show (decide (x < z) || (x == z && ltCps a c)) = true
    clear h1 h2
    simp only [Bool.or_eq_true, Bool.and_eq_true, decide_eq_true_eq, beq_iff_eq] at k1 k2 ⊢
    rcases k1 with k1 | ⟨e1, k1⟩
    · rcases k2 with k2 | ⟨e2, _⟩
      · exact .inl (Nat.lt_trans k1 k2)
      · exact .inl (by omega)
    · rcases k2 with k2 | ⟨e2, k2⟩
      · exact .inl (by omega)
      · exact .inr ⟨e1.trans e2, ltc_trans a b c k1 k2⟩
theorem ltc_tri : ∀ a b : List Nat, a = b ∨ ltCps a b = true ∨ ltCps b a = true
  | [], [] => .inl rfl
  | [], _ :: _ => .inr (.inl rfl)
  | _ :: _, [] => .inr (.inr rfl)
  | x :: a, y :: b => by
    show _ ∨ (decide (x < y) || (x == y && ltCps a b)) = true ∨ (decide (y < x) || (y == x && ltCps b a)) = true
    simp only [Bool.or_eq_true, Bool.and_eq_true, decide_eq_true_eq, beq_iff_eq]
    rcases Nat.lt_trichotomy x y with h | rfl | h
    · exact .inr (.inl (.inl h))
    · rcases ltc_tri a b with rfl | h | h
      · exact .inl rfl
      · exact .inr (.inl (.inr ⟨rfl, h⟩))
      · exact .inr (.inr (.inr ⟨rfl, h⟩))
    · exact .inr (.inr (.inl h))
theorem lt_irr (x : Str) : lt x x = false := ltc_irr _
theorem lt_trans {x y z : Str} (h1 : lt x y = true) (h2 : lt y z = true) : lt x z = true := ltc_trans _ _ _ h1 h2
theorem lt_tri (x y : Str) : x = y ∨ lt x y = true ∨ lt y x = true := (ltc_tri (TL.tl x) (TL.tl y)).imp TL.ext_tl id
theorem lt_asym {x y : Str} (h : lt x y = true) : lt y x = false := by
  cases e : lt y x with
  | false => rfl
  | true =>
    have := lt_trans h e
    rw [lt_irr] at this; cases this
/-- strictly ascending -/
def asc : List Str → Bool
  | [] => true
  | x :: r => (match r with | [] => true | y :: _ => lt x y) && asc r
theorem asc_cons {x : Str} {r : List Str} : asc (x :: r) = true ↔ (∀ y ∈ r, lt x y = true) ∧ asc r = true := by
  induction r generalizing x with
  | nil => exact ⟨fun _ => ⟨fun y h => absurd h List.not_mem_nil, rfl⟩, fun _ => rfl⟩
  | cons y r ih =>
    show (lt x y && asc (y :: r)) = true ↔ _
    rw [Bool.and_eq_true]
    constructor
    · rintro ⟨h1, h2⟩
      refine ⟨fun z hz => ?_, h2⟩
      rcases List.mem_cons.mp hz with rfl | hz
      · exact h1
      · exact lt_trans h1 ((ih.mp h2).1 z hz)
    · rintro ⟨h1, h2⟩
      exact ⟨h1 y List.mem_cons_self, h2⟩
theorem asc_nodup : ∀ {l : List Str}, asc l = true → l.Nodup
  | [], _ => List.nodup_nil
  | x :: r, h => by
    obtain ⟨h1, h2⟩ := asc_cons.mp h
    refine List.nodup_cons.mpr ⟨fun m => ?_, asc_nodup h2⟩
    have := h1 x m
    rw [lt_irr] at this; cases this
/-- an ascending list is known by its members -/
theorem asc_eq : ∀ {l m : List Str}, asc l = true → asc m = true → (∀ z, z ∈ l ↔ z ∈ m) → l = m
  | [], [], _, _, _ => rfl
  | [], y :: _, _, _, h => absurd ((h y).mpr List.mem_cons_self) List.not_mem_nil
  | x :: _, [], _, _, h => absurd ((h x).mp List.mem_cons_self) List.not_mem_nil
  | x :: l, y :: m, h1, h2, h => by
    obtain ⟨a1, a2⟩ := asc_cons.mp h1
    obtain ⟨b1, b2⟩ := asc_cons.mp h2
    have e : x = y := by
      rcases List.mem_cons.mp ((h x).mp List.mem_cons_self) with e | e
      · exact e
      rcases List.mem_cons.mp ((h y).mpr List.mem_cons_self) with e2 | e2
      · exact e2.symm
      have := lt_asym (b1 x e)
      rw [a1 y e2] at this; cases this
    subst e
    congr 1
    refine asc_eq a2 b2 fun z => ?_
    constructor
    · intro hz
      rcases List.mem_cons.mp ((h z).mp (List.mem_cons_of_mem _ hz)) with e | e
      · subst e
        have := a1 z hz
        rw [lt_irr] at this; cases this
      · exact e
    · intro hz
      rcases List.mem_cons.mp ((h z).mpr (List.mem_cons_of_mem _ hz)) with e | e
      · subst e
        have := b1 z hz
        rw [lt_irr] at this; cases this
      · exact e
theorem rise_cons : ∀ (p : Str) (l : List Str), risingS p l = true → (p :: l).Nodup → asc (p :: l) = true
  | _, [], _, _ => rfl
  | p, x :: r, h, n => by
    have h : (!ltCps x.cps.toList p.cps.toList && risingS x r) = true := h
    rw [Bool.and_eq_true] at h
    show (lt p x && asc (x :: r)) = true
    rw [rise_cons x r h.2 (List.nodup_cons.mp n).2, Bool.and_true]
    rcases lt_tri p x with e | e | e
    · exact absurd (by rw [e]; exact List.mem_cons_self) (List.nodup_cons.mp n).1
    · exact e
    · have e : ltCps x.cps.toList p.cps.toList = true := e
      rw [e] at h; cases h.1
theorem asc_of {l : List Str} (h : sortedS l = true) (n : l.Nodup) : asc l = true := by
  cases l with
  | nil => rfl
  | cons x r => exact rise_cons x r h n
theorem perm_sub {α : Type} [DecidableEq α] : ∀ (l m : List α), l.Nodup → (∀ x ∈ l, x ∈ m) → m.length ≤ l.length → l.Perm m
  | [], m, _, _, h => by
    have : m = [] := List.eq_nil_of_length_eq_zero (Nat.le_zero.mp h)
    rw [this]
  | x :: l, m, n, s, h => by
    obtain ⟨n1, n2⟩ := List.nodup_cons.mp n
    have hx := s x List.mem_cons_self
    have p := List.perm_cons_erase hx
    refine ((perm_sub l (m.erase x) n2 (fun y hy => ?_) ?_).cons x).trans p.symm
    · exact (List.mem_erase_of_ne (fun e => n1 (by rw [← e]; exact hy))).mpr (s y (List.mem_cons_of_mem _ hy))
    · have := p.length_eq
      rw [List.length_cons] at this
      rw [List.length_cons] at h
      omega
section
variable {P : Program} {w : World} {A : Around} {E : Value → Shared → Prop} {s : Shared}
def txtOf : Value → Str
  | .str z _ => z
  | _ => Str.empty
theorem strsAre_map : ∀ (vs : List Value), (∀ v ∈ vs, ∃ z u, v = Value.str z u) → StrsAre vs (vs.map txtOf)
  | [], _ => .nil
  | v :: r, h => by
    obtain ⟨z, u, rfl⟩ := h v List.mem_cons_self
    exact .cons z u (strsAre_map r fun y hy => h y (List.mem_cons_of_mem _ hy))
/-- sorted(S), S a set of texts -/
theorem sorted_txts {a : Addr} {l : List Str} {Q : Value → Shared → Prop} (R : TxR P w s.heap a l) (few : l.length < scanBound) (hh : A.handled = none)
    (q : ∀ (s' : Shared) (p : Addr) (out : Array Value) (c : Nat) (ys : List Str), (∀ b o, s.heap.get? b = some o → s'.heap.get? b = some o) → s'.gens = s.gens → s'.os = s.os → s.heap.objs.size ≤ p → s'.heap.get? p = some (seqObj "list" out c) → StrsAre out.toList ys → ys.Perm l → sortedS ys = true → Q (.ref p) s') :
    wpAny (model P w) A (call (.builtin "sorted") [.ref a]) Q E s := by
  obtain ⟨⟨es, ep, t⟩, at_, ok, ris, walk⟩ := R.ex
  have size : es.size = l.length := ok.sz
  refine Calls.call_function_entry kind_sorted plain_sorted entry_sorted (args_sorted1 _) ?_
  unfold Builtin.«sorted»
  refine wpAny_bind (m := checkCount "sorted" 1 1 _) (wpAny_pure (wpAny_bind (collect_set (A := A.in1) hh ⟨_, at_, rfl, rfl⟩ ok.fit (by rw [size]; exact few) ris walk fun s1 vs kept bigger gens os perm => ?_)))
  have lenV : vs.length = l.length := by rw [perm.length_eq, List.length_map, Array.length_toList]; exact size
  have allT : ∀ v ∈ vs, ∃ z u, v = Value.str z u ∧ z ∈ l := fun v hv => by
    obtain ⟨e, he, rfl⟩ := List.mem_map.mp (perm.mem_iff.mp hv)
    obtain ⟨⟨k, isK, _⟩, _⟩ := ok.el e he
    have m : k ∈ l := (ok.mem k).mpr ⟨e, he, isK⟩
    have isK : Value.isStrOf k e.2 = true := isK
    cases q : e.2 <;> rw [q] at isK <;> first | (cases isK; done) | skip
    rename_i z u
    have : z = k := by simpa [Value.isStrOf] using isK
    exact ⟨z, u, rfl, by rw [this]; exact m⟩
  have txt := strsAre_map vs fun v hv => let ⟨z, u, e, _⟩ := allT v hv; ⟨z, u, e⟩
  have permL : (vs.map txtOf).Perm l := by
    refine (perm_sub l (vs.map txtOf) R.nd (fun z hz => ?_) (by rw [List.length_map, lenV]; exact Nat.le_refl _)).symm
    obtain ⟨e, he, isK⟩ := (ok.mem z).mp hz
    have mv : e.2 ∈ vs := perm.mem_iff.mpr (List.mem_map.mpr ⟨e, he, rfl⟩)
    obtain ⟨y, u, ey, _⟩ := allT _ mv
    have isK : Value.isStrOf z e.2 = true := isK
    rw [ey] at isK mv
    have : y = z := by simpa [Value.isStrOf] using isK
    exact List.mem_map.mpr ⟨_, mv, this⟩
  have fits : vs.length ≤ sizeLine := by rw [lenV]; exact Nat.le_trans (Nat.le_of_lt few) (by rw [sizeLine_eq]; decide)
  refine wpAny_bind (wpAny_newList ?_ fits)
  have atL : (s1.heap.push (seqObj "list" vs.toArray 0)).get? s1.heap.objs.size = some (seqObj "list" vs.toArray 0) := Heap.get?_push_size _ rfl
  refine wpAny_bind (wpAny_holding (wpAny_call_entry slot_list_sort ⟨_, atL, rfl⟩ entry_list_sort (list_sort_treeKAny strKind_oneLt atL txt.keysOf (fun v1 v2 rest e => keyKind_strs (by rw [← e]; exact txt)) fits fun st hp hs => ?_) (args_list_sort _)))
  obtain ⟨ys, isY, permY, srt⟩ := sorted_out_str txt hp hs
  obtain ⟨c, atS⟩ := sortedHeap_at (vs := vs) (out := (arrOf st).map (·.2)) atL
  refine ⟨_, rfl, wpAny_pure ⟨_, rfl, q _ s1.heap.objs.size _ c ys (fun b u e => ?_) gens os bigger atS isY (permY.trans permL) srt⟩⟩
  have old := Heap.lt_size (kept b u e)
  show (sortedHeap (s1.heap.push (seqObj "list" vs.toArray 0)) s1.heap.objs.size vs ((arrOf st).map (·.2))).get? b = some u
  rw [sortedHeap_old (Nat.ne_of_lt old) (by rw [Heap.size_push]; exact Nat.lt_succ_of_lt old)]
  exact Heap.get?_push_of_some _ (kept b u e)
end
section
variable {X : Cx}
theorem strsOf : ∀ {ys : List Str} {us : List Value}, Vals (ys.map V.str) us → StrsAre us ys
  | [], _, .nil => .nil
  | y :: ys, _, .cons r t => by
    obtain ⟨k, rfl⟩ := r
    exact .cons y k (strsOf t)
/-- sorted(xs) of texts, of any number -/
def rSortedA (K : PySem.W.Frag) : List V → Hp → VK → Prop := fun vs H Q => ∃ (a : Addr) (xs : List Str), vs = [V.ref a] ∧ SqL K H a (xs.map V.str) ∧ ∀ (ys : List Str) (p : Addr), ys.Perm xs → sortedS ys = true → H p = none → Q (.ref p) (upd H p (.lst (ys.map V.str)))
theorem cr_sortedA : CallR X (.builtin "sorted") (rSortedA X.K) := by
  intro pins s σ H vs us Q I r h
  obtain ⟨a, xs, rfl, isL, q⟩ := h
  obtain ⟨its, rv, hl, fits⟩ := I.list isL
  rw [Vals.ref1 r]
  refine sorted_strsAny hl.isList (strsOf rv) (by rw [← rv.length]; exact fits) fun out ys isY perm srt => ?_
  obtain ⟨c, atS⟩ := sortedAll_at s.heap its out
  have len : (ys.map V.str).length ≤ sizeLine := by
    rw [List.length_map] at fits ⊢
    rw [perm.length_eq]; exact fits
  have J := I.laid (a := s.heap.objs.size + 1) (o := .lst (ys.map V.str)) (t' := s.toks) (fun _ _ => sortedAll_old) (Nat.le_succ _) ⟨len, out.toList, c, vals_of_strs isY, atS⟩
  exact ⟨.ref _, _, J, rfl, q ys _ perm srt (I.hok.fresh (Nat.le_succ _))⟩
/-- sorted(set(xs)), xs a list of texts -/
def tSortSet (K : PySem.W.Frag) (ta : TE) : TE := fun σ H Q => ta σ H fun x H1 => ∃ (l : Addr) (xs : List Str), x = .ref l ∧ SqL K H1 l (xs.map V.str) ∧ xs.length ≤ 1000 ∧
  ∀ (ys : List Str) (p : Addr), asc ys = true → (∀ z, z ∈ ys ↔ z ∈ xs) → H1 p = none → Q (.ref p) (upd H1 p (.lst (ys.map V.str)))
theorem pe_sortSet {e : Expr} {ta : TE} {p1 p2 p3 p4 : Pos} (calm : X.calm = true) (g1 : Gl X "sorted") (m1 : X.mg "sorted" = none) (g2 : Gl X "set") (m2 : X.mg "set" = none) (he : PE X e ta)
    (one : starEach [e] X.env = (false, eval e X.env) :: starEach [] X.env := by rfl) : PE X (.Call (.Name "sorted" p1) [.Call (.Name "set" p2) [e] [] p3] [] p4) (tSortSet X.K ta) := by
  refine ⟨fun held s σ H Q I pre => Call_ (ld_blt I g1 m1 (show bootBuiltins "sorted" = some (.builtin "sorted") by decide +kernel) (callWith_builtin1 (args_cons (Call_ (ld_blt I g2 m2 (show bootBuiltins "set" = some (.type "set") by decide +kernel) (callWith_type1 (args_cons (thn (he.run held s σ H _ I pre) fun u s1 gives => args_nil ?_) one) one rfl))) rfl) rfl rfl))⟩
  obtain ⟨v, H1, I1, rel, l, xs, rfl, isL, few, q⟩ := gives
  cases (show u = Value.ref l from rel)
  obtain ⟨its, rv, hl, _⟩ := I1.list isL
  have bound : xs.length + 1 < scanBound := Nat.lt_of_le_of_lt (Nat.succ_le_succ few) (by decide)
  have hh : X.A.handled = none := I1.ok.hd calm
  refine set_of_txts hh hl.isList (by simpa using strsOf rv) bound fun h' tk up kept => args_nil ?_
  obtain ⟨ms, tr, mem, le⟩ := up
  rw [List.take_of_length_le (Nat.le_refl _)] at mem
  have lms : ms.length < scanBound := Nat.lt_of_le_of_lt le (Nat.lt_of_succ_lt bound)
  refine sorted_txts (s := { s1 with heap := h', toks := tk }) tr lms hh fun s' p out c ys kept2 gens os bigger atS isY perm srt => ?_
  have old : ∀ b o, s1.heap.get? b = some o → s'.heap.get? b = some o := fun b o q => kept2 b o (kept b o q)
  obtain ⟨_, atD, _⟩ := id tr.ex
  have ge : s1.heap.objs.size ≤ p := Nat.le_trans (Nat.le_of_lt (Heap.lt_size atD)) bigger
  have free : H1 p = none := I1.hok.fresh ge
  have len : (ys.map V.str).length ≤ sizeLine := by
    rw [List.length_map, perm.length_eq]
    exact Nat.le_trans (Nat.le_of_lt lms) (by rw [sizeLine_eq]; decide)
  have J : Inv X held σ (upd H1 p (.lst (ys.map V.str))) { s1 with heap := s'.heap, gens := s'.gens, drawn := s'.drawn, toks := s'.toks } :=
    I1.call (ch := []) (Un.laid old ge free) (I1.hok.laid old ge ⟨len, out.toList, c, vals_of_strs isY, atS⟩) (by rw [gens]; exact I1.bare) (fun _ z => nomatch z)
  have same : s' = { s1 with heap := s'.heap, gens := s'.gens, drawn := s'.drawn, toks := s'.toks } := by
    obtain ⟨a1, a2, a3, a4, a5⟩ := s'
    obtain rfl : a5 = s1.os := os
    rfl
  rw [same]
  exact ⟨.ref p, _, J, rfl, q ys p (asc_of srt (perm.nodup_iff.mpr tr.nd)) (fun z => (perm.mem_iff).trans (mem z)) free⟩
end
end SC

set_option maxHeartbeats 2000000 -- from here on
/-! sum(..) over a generator expression whose element is any expression of the layer -/
namespace SC
open PySem PySem.Spec PyProof.Rows L2 GenW
open GxR (TabB TabG Tabbed inv_tab sh_eta)
/-- the list in which sum keeps what it has -/
def sob (a : Int) (t : Tok) (c : Nat) : Obj := { cls := .type "list", dict := none, data := .seq #[.int a t] c, slots := #[] }
section
variable {Y : Cx} {go : Addr × Obj} {W : Nat → Nat → List (Addr × Obj) → L2.St → Hp → Prop} {B : Nat → Nat → List (Addr × Obj) → V → L2.St → Hp → Prop} {Dn : List (Addr × Obj) → L2.St → Hp → Prop}
theorem cp_one {S : Addr} {cp : List (Addr × Obj)} {h : Heap} {o : Obj} (e : h.get? S = some o) (hcp : Cp [S] cp) (hs0 : ∀ p ∈ cp, h.get? p.1 = some p.2) : cp = [(S, o)] := by
  unfold Cp at hcp
  cases cp with
  | nil => cases hcp
  | cons p r =>
    rw [List.map_cons, List.cons.injEq, List.map_eq_nil_iff] at hcp
    obtain ⟨rfl, rfl⟩ := hcp
    have := hs0 p List.mem_cons_self
    rw [e] at this
    rw [Option.some.inj this]
/-- sum(..) walks it -/
theorem sum_loop_gen {gi : Nat} {A : Around} {R : Result → Shared → Prop} {S : Addr} {V : Nat → Nat → Int → L2.St → Hp → Prop} {Dv : Int → L2.St → Hp → Prop} (hh : A.handled = none) (hroom : A.depth < recursionLimit) (hgo : ∀ h : Heap, h.get? go.1 = some go.2 → h.IsGen go.1 gi) (nS : cStatics ≠ S) (ngo : S ≠ go.1)
    (hW : ∀ i m a t c σ H, V i m a σ H → W i m [(S, sob a t c)] σ H)
    (hB : ∀ i m y σ H a t c, B i m [(S, sob a t c)] y σ H → ∃ k, y = .int k ∧ InLong k ∧ InLong (a + k) ∧ ∃ m', m' < m ∧ V (i + 1) m' (a + k) σ H)
    (hD : ∀ a t c σ H, Dn [(S, sob a t c)] σ H → Dv a σ H) (hR : ∀ pp a σ H s t, Inv Y pp σ H s → Dv a σ H → R (.ok (.ret (.int a t))) s) :
    ∀ (n : Nat) (s : Shared) (a : Int) (t : Tok) (c : Nat), Asl Y A.in1.in1 go gi [S] W B Dn n s → s.heap.get? S = some (sob a t c) → codeAny (model Y.prog Y.w) A (.builtin "sum.loop" ⟨[.ref go.1, .ref S, rawInt 0, rawInt 0], []⟩) R s := by
  intro n
  induction n using Nat.strongRecOn with
  | ind n ih =>
    intro s a t c al hS
    refine codeAny_builtin F.entry_sum_loop ?_
    rw [Around.under_plainId F.plain_sum_loop _]
    show wpAny _ A.in1 (seqItems? (.ref S) >>= _) _ _ s
    refine wpAny_bind (wpAny_seqItems hS rfl ?_)
    show wpAny _ A.in1 (tryCatch (pyNext (.ref go.1)) _ >>= _) _ _ s
    refine wpAny_bind (wpAny_tryCatch (next_gen (C := A.in1) hh hroom hgo al (fun i m cp y v σ H s' hcp hs0 rv I hb again => ?_) fun cp σ H s' hcp hs0 I dn => ?_))
    · obtain rfl := cp_one hS hcp hs0
      obtain ⟨k, rfl, ⟨f1, f2⟩, ⟨f3, f4⟩, m', hm', w'⟩ := hB i m y σ H a t c hb
      obtain ⟨t2, rfl⟩ : ∃ t2, v = .int k t2 := rv
      have hS' : s'.heap.get? S = some (sob a t c) := (I.pin (S, sob a t c) (List.mem_append_right _ (List.mem_cons_of_mem _ List.mem_cons_self))).1
      have hc : ((decide (-(2 ^ 63) ≤ k) && decide (k < 2 ^ 63)) && (decide (-(2 ^ 63) ≤ a + k) && decide (a + k < 2 ^ 63))) = true := by
        simp only [Bool.and_eq_true, decide_eq_true_eq]
        exact ⟨⟨f1, f2⟩, f3, f4⟩
      show wpAny _ A.in1 (if (_ : Bool) = true then (mkInt (a + k) >>= _) else _) _ _ _
      split
      · refine wpAny_bind (wpAny_mkInt ?_)
        show wpAny _ A.in1 (updateSeq S (fun _ => #[.int (a + k) s'.toks]) >>= _) _ _ _
        refine wpAny_bind ?_
        refine wpAny_updateSeq hS' rfl ?_
        have e2 : (s'.heap.update S (Obj.mapSeq fun _ => #[Value.int (a + k) s'.toks])).get? S = some (sob (a + k) s'.toks _) := Heap.get?_update_self _ hS' rfl
        have oth : ∀ b o, b ≠ S → s'.heap.get? b = some o → (s'.heap.update S (Obj.mapSeq fun _ => #[Value.int (a + k) s'.toks])).get? b = some o := fun b o hb e => (Heap.get?_update_other _ _ (Ne.symm hb)).trans e
        obtain ⟨j, hj, aj⟩ := again { s' with heap := s'.heap.update S (Obj.mapSeq fun _ => #[Value.int (a + k) s'.toks]), toks := s'.toks + 1 } [(S, sob (a + k) s'.toks _)] ⟨rfl, I.bare, fun b o hb e => oth b o (by simpa using hb) e⟩ rfl rfl
          (fun p hp => by rw [List.mem_singleton.mp hp]; exact ⟨e2, fun v z => by cases z⟩)
          (oth _ _ (Ne.symm ngo) (I.pin go (List.mem_append_right _ List.mem_cons_self)).1) (I.nolimit.at fun o e => oth _ _ nS e) m' hm' (hW _ _ _ _ _ _ _ w')
        exact wpAny_pure ⟨plainId_quiet F.plain_sum_loop _, ih j hj _ _ _ _ aj e2⟩
      · rename_i hneg
        exact absurd hc hneg
    · obtain rfl := cp_one hS hcp hs0
      exact wpAny_pure (hR _ a σ H s' t I (hD _ _ _ _ _ dn))
end
end SC
namespace SC
open PySem PySem.Spec PyProof.Rows L2 GenW
open GxR (TabB TabG Tabbed inv_tab sh_eta)
section
variable {X : Cx} {N : List Str} {nt : Nat} {fr : List Nat} {scope : Scope}
theorem sob_inj {S : Addr} {a b : Int} {t u : Tok} {c d : Nat} (h : [(S, sob a t c)] = [(S, sob b u d)]) : a = b := by
  have h := (Prod.mk.inj (List.cons.inj h).1).2
  have h := congrArg Obj.data h
  have h : Data.seq #[Value.int a t] c = Data.seq #[Value.int b u] d := h
  injection h with h _
  have h := congrArg Array.toList h
  injection h with h _
  injection h
/-- the turns of a sum, as a reading -/
def tForS (J : It) (g : TG) (tt : TT) (te : TE) (σ : L2.St) (H : Hp) (Q : VK) : Prop := ∃ V : Nat → Nat → Int → L2.St → Hp → Prop, (∃ m, V 0 m 0 σ H) ∧ ∀ i m a σ H, V i m a σ H →
  (J.stop i H ∧ Q (.int a) H) ∨ (J.go i H ∧ ∃ Nx : Int → L2.St → Hp → Prop, (∀ b σ' H', Nx b σ' H' → ∃ m', m' < m ∧ V (i + 1) m' b σ' H') ∧ ∀ x H', J.yld i H x H' → g x σ H' fun σ2 H2 => tt σ2 H2 fun b H3 =>
    if b = true then te σ2 H3 (fun y H4 => ∃ k, y = .int k ∧ InLong k ∧ InLong (a + k) ∧ Nx (a + k) σ2 H4) else Nx a σ2 H3)
/-- sum(elt for tg in iter if ..); st: the captured names -/
def tSumG (P : Addr) (wi : TI) (g : TG) (tt : TT) (te : TE) (st : L2.St → L2.St) : TE := fun σ H Q => wi σ H fun J H1 => TabG H1 P ∧ ∀ H2, Tabbed P H1 H2 → tForS J g tt te (st σ) H2 Q
theorem pe_sumG {c P : Addr} {elt iter tg : Expr} {ifs : List Expr} {p pos gpos : Pos} {wi : TI} {g : TG} {tt : TT} {te : TE} {k : Nat} (hcalm : X.calm = true) (hr : Room (k + 2) X.A) (hz : X.mg "sum" = none) (TB : TabB X.base X.mg c P) (hcode : X.env.code = .ref c)
    (S : GnS scope) (hfr : freeOk scope X.env.scope = true) (hcap : capOk N nt fr X.N scope X.env.scope = true) (hi : PI X tg iter wi)
    (hg : ∀ C code fp s4 H4, Room k (gxC X N scope C code fp s4 H4).A → PG (gxC X N scope C code fp s4 H4) tg g) (ht : ∀ C code fp s4 H4, Room k (gxC X N scope C code fp s4 H4).A → PTs (gxC X N scope C code fp s4 H4) ifs tt)
    (he : ∀ C code fp s4 H4, Room k (gxC X N scope C code fp s4 H4).A → PE (gxC X N scope C code fp s4 H4) elt te)
    (hs : ∀ v, genFold iter X.env v = pure v) (hgl : Gl X "sum" := by rfl)
    (hse : starEach [.GeneratorExp elt [⟨tg, iter, ifs, 0⟩] scope gpos] X.env = (false, eval (.GeneratorExp elt [⟨tg, iter, ifs, 0⟩] scope gpos) X.env) :: starEach [] X.env := by rfl) :
    PE X (.Call (.Name "sum" p) [.GeneratorExp elt [⟨tg, iter, ifs, 0⟩] scope gpos] [] pos) (tSumG P wi g tt te (capSt nt fr)) := by
  refine ⟨fun pins s σ H Q I h => ?_⟩
  have hh : X.A.handled = none := I.ok.hd hcalm
  refine wpAny_Call_Name_kw (ld_blt I hgl hz (show bootBuiltins "sum" = some (.builtin "sum") by decide +kernel) ?_)
  refine PyProof.Rows.callWith_builtin1 ?_ hse (by rfl)
  rw [hse]
  show wpAny _ _ (spliced ((false, eval (.GeneratorExp elt [⟨tg, iter, ifs, 0⟩] scope gpos) X.env) :: backTo pos (starEach [] X.env))) _ _ s
  refine Calls.spliced_cons (gen_mkI (N := N) (nt := nt) (fr := fr) (R := fun J H2 => tForS J g tt te (capSt nt fr σ) H2 Q) hcalm hr TB hcode S hfr hcap hi hs I h fun J H2 a s5 hR hF => ?_)
  refine Calls.spliced_nil ?_
  obtain ⟨s4, code, fp, it, tn, go, gi, I4, hf, hlt, ha, ha2, T, st5, hgo, hga, hgs, I5⟩ := hF
  obtain ⟨V, ⟨m0, w0⟩, turn⟩ := hR
  have hrA : Room k (gxC X N scope s4.heap.objs.size code fp s4 H2).A := by
    have r1 := hr.dp
    have r2 := hr.un
    have q1 : (gxC X N scope s4.heap.objs.size code fp s4 H2).A.depth = X.A.depth + 1 := rfl
    have q2 : (gxC X N scope s4.heap.objs.size code fp s4 H2).A.units = X.A.units + 1 + 1 + 3 := rfl
    exact ⟨hh, by omega, by omega⟩
  refine call_function_tree F.kind_sum F.plain_sum F.entry_sum (F.args_sum1 _) ?_
  unfold Builtin.«sum»
  simp only [List.length_cons, List.length_nil]
  rw [if_neg (by decide)]
  refine wpAny_bind (wpAny_of_eq (show Builtin.Builtins.bindParams "sum" ["start"] 0 { } = pure [none] from rfl) ?_)
  refine wpAny_bind (wpAny_pyIter_gen (hgo _ hga) ?_)
  refine wpAny_bind (wpAny_mkInt ?_)
  refine wpAny_bind (wpAny_pure ?_)
  simp only [List.forIn_cons, List.forIn_nil]
  refine wpAny_bind (wpAny_bind (wpAny_bind (wpAny_isInstance (T := "int") (b := false) (typeIs_int _ _ _) PySem.sub_int_str ?_)))
  simp only [Bool.false_eq_true, if_false]
  refine wpAny_pure (wpAny_bind (wpAny_bind (wpAny_isInstance (T := "int") (b := false) (typeIs_int _ _ _) PySem.sub_int_bytes ?_)))
  simp only [Bool.false_eq_true, if_false]
  refine wpAny_pure (wpAny_bind (wpAny_bind (wpAny_isInstance (T := "int") (b := false) (typeIs_int _ _ _) PySem.sub_int_bytearray ?_)))
  simp only [Bool.false_eq_true, if_false]
  refine wpAny_pure (wpAny_pure ?_)
  refine wpAny_bind (wpAny_newObj_type ?_)
  have depth : X.A.depth < recursionLimit := by have := hr.dp; omega
  have sz : s4.heap.objs.size < s5.heap.objs.size := Nat.lt_trans ha ha2
  have hn2 : H2 s5.heap.objs.size = none := I5.hok.fresh (Nat.le_refl _)
  have fo := I5.fpOk (Nat.le_refl _) hn2
  have nS : cStatics ≠ s5.heap.objs.size := let ⟨_, b, _⟩ := I5.nolimit; Nat.ne_of_lt b.lt
  have e6 : (s5.heap.push (sob 0 s5.toks 0)).get? s5.heap.objs.size = some (sob 0 s5.toks 0) := Heap.get?_push_size _ rfl
  have I6 : L2.Inv (gxC X N scope s4.heap.objs.size code fp s4 H2) [(a, go)] (capSt nt fr σ) H2 { s5 with heap := s5.heap.push (sob 0 s5.toks 0), toks := s5.toks + 1 } := inv_kept I5 rfl I5.bare fun b o e => Heap.get?_push_of_some _ e
  have I7 := I6.pinned (fp := [s5.heap.objs.size]) (fun b hb => by rw [List.mem_singleton.mp hb]; exact fo) (fun b hb => by rw [List.mem_singleton.mp hb]; exact ⟨_, e6, fun v z => by cases z⟩)
  have ep : pinsAt [s5.heap.objs.size] (s5.heap.push (sob 0 s5.toks 0)) = [(s5.heap.objs.size, sob 0 s5.toks 0)] := by
    unfold pinsAt
    rw [List.filterMap_cons, e6]; rfl
  rw [show pinsAt [s5.heap.objs.size] ({ s5 with heap := s5.heap.push (sob 0 s5.toks 0), toks := s5.toks + 1 } : Shared).heap = _ from ep] at I7
  refine wpAny_pure ⟨plainId_quiet F.plain_sum_loop _, ?_⟩
  refine sum_loop_gen (Y := gxC X N scope s4.heap.objs.size code fp s4 H2) (go := (a, go)) (gi := gi) (S := s5.heap.objs.size) (V := V)
    (W := fun i m cp σ H => ∃ b t c, cp = [(s5.heap.objs.size, sob b t c)] ∧ V i m b σ H)
    (B := fun i m cp y σ H => ∃ b t c k, cp = [(s5.heap.objs.size, sob b t c)] ∧ y = .int k ∧ InLong k ∧ InLong (b + k) ∧ ∃ m', m' < m ∧ V (i + 1) m' (b + k) σ H)
    (Dn := fun cp _ H => ∃ b t c, cp = [(s5.heap.objs.size, sob b t c)] ∧ Q (.int b) H) (Dv := fun b _ H => Q (.int b) H)
    hh depth hgo nS (Nat.ne_of_gt ha2) (fun i m b t c σ H v => ⟨b, t, c, rfl, v⟩) (fun i m y σ H b t c ⟨b2, t2, c2, k, e, q1, q2, q3, q4⟩ => by
      have := sob_inj e; subst this; exact ⟨k, q1, q2, q3, q4⟩) (fun b t c σ H ⟨b2, t2, c2, e, q⟩ => by have := sob_inj e; subst this; exact q)
    (fun pp b σ' H' s' t J' q => ⟨.int b, H', back_to I4 hf J', ⟨_, rfl⟩, q⟩) (m0 + 1) _ 0 s5.toks 0 ⟨hgo _ (Heap.get?_push_of_some _ hga), I6.nolimit, _, hgs, rfl, ?_⟩ e6
  refine seg_turns0 (Y := gxC X N scope s4.heap.objs.size code fp s4 H2) (fp := fp) (tn := tn) (J := J) (tg := tg) (g := g) (tt := tt) (te := te) rfl (fun _ _ z => z) rfl T (hg _ _ _ _ _ hrA) (ht _ _ _ _ _ hrA) (he _ _ _ _ _ hrA) S.co (fun i m cp σ H w => ?_)
    (fun cp H' hcp h0 => stat_of S I4 hf hlt hfr (Nat.le_refl _) (fun p hp => ?_) h0) (fun b hb => ?_) (fun p hp hb => ?_) (fun b hb hb2 => ?_) (Nat.lt_succ_self m0) (cp := [(s5.heap.objs.size, sob 0 s5.toks 0)]) rfl (fun p hp => ?_) (inv_kept I7 rfl (allBare_setGen I7.bare rfl) fun _ _ e => e) (T.keep 0 _ _ st5 fun b hb o e => Heap.get?_push_of_some _ e) (fun b hb => (hf b hb).1) ⟨0, s5.toks, 0, rfl, w0⟩
  · obtain ⟨b, t, c, rfl, v⟩ := w
    rcases turn i m b σ H v with ⟨q1, q2⟩ | ⟨q1, Nt, hN, q2⟩
    · exact .inl ⟨q1, b, t, c, rfl, q2⟩
    · exact .inr ⟨q1, fun y σ' H' => ∃ k, y = .int k ∧ InLong k ∧ InLong (b + k) ∧ Nt (b + k) σ' H', Nt b, fun y σ' H' ⟨k, e, z1, z2, z3⟩ => ⟨b, t, c, k, rfl, e, z1, z2, hN _ _ _ z3⟩, fun σ' H' z => let ⟨m', hm, vv⟩ := hN _ _ _ z; ⟨m', hm, b, t, c, rfl, vv⟩, q2⟩
  · rcases List.mem_cons.mp hp with e | hp
    · rw [e]; exact Nat.le_of_lt ha
    · have h1 : p.1 ∈ cp.map (·.1) := List.mem_map_of_mem hp
      rw [hcp] at h1
      rw [List.mem_singleton.mp h1]; exact Nat.le_of_lt sz
  · rw [List.mem_singleton.mp hb]
    exact ⟨Nat.le_of_lt sz, fo.2.2.2.2.1⟩
  · exact fo.2.2.2.2.2 p hp (List.mem_singleton.mp hb)
  · rw [List.mem_singleton.mp hb2] at hb
    exact absurd (Nat.lt_trans (hlt _ hb) sz) (Nat.lt_irrefl _)
  · rw [List.mem_singleton.mp hp]; exact e6
theorem sum_tup {K : PySem.W.Frag} {a : Addr} {xs : List L2.V} {g : TG} {tt : TT} {te : TE} {σ : L2.St} {H : Hp} {Q : VK} (Pv : Nat → Int → L2.St → Hp → Prop) (h0 : Pv 0 0 σ H) (hl : ∀ i b σ H, i ≤ xs.length → Pv i b σ H → SqT K H a xs)
    (hs : ∀ i b x σ H, xs[i]? = some x → Pv i b σ H → g x σ H fun σ2 H2 => tt σ2 H2 fun c H3 => if c = true then te σ2 H3 (fun y H4 => ∃ k, y = .int k ∧ InLong k ∧ InLong (b + k) ∧ Pv (i + 1) (b + k) σ2 H4) else Pv (i + 1) b σ2 H3)
    (hd : ∀ b σ H, Pv xs.length b σ H → Q (.int b) H) : tForS (Itt K a) g tt te σ H Q := by
  refine ⟨fun i m b σ H => m = xs.length - i ∧ i ≤ xs.length ∧ Pv i b σ H, ⟨xs.length, by simp, Nat.zero_le _, h0⟩, ?_⟩
  rintro i m b σ H ⟨rfl, hi, p⟩
  have q := hl i b σ H hi p
  by_cases hlt : i < xs.length
  · refine .inr ⟨⟨xs, xs[i], q, by simp [hlt]⟩, Pv (i + 1), fun b' σ' H' p' => ⟨xs.length - (i + 1), by omega, rfl, hlt, p'⟩, fun x H' y => ?_⟩
    obtain ⟨e, y⟩ := y
    subst e
    exact hs i b x σ _ (y xs q) p
  · have e : i = xs.length := by omega
    subst e
    exact .inl ⟨⟨xs, q, Nat.le_refl _⟩, hd b σ H p⟩
end
end SC

/-! sorted(..) of pairs of texts -/
namespace SC
open PySem PySem.Spec PyProof.Rows L2
def lexS (p q : Str × Str) : Bool := if p.1 = q.1 then lt p.2 q.2 else lt p.1 q.1
theorem lt_nt {x y z : Str} (h1 : lt y x = false) (h2 : lt z y = false) : lt z x = false := by
  rcases lt_tri x y with rfl | h | h
  · exact h2
  · rcases lt_tri y z with rfl | g | g
    · exact h1
    · exact lt_asym (lt_trans h g)
    · rw [h2] at g; cases g
  · rw [h1] at h; cases h
theorem lt_of_no {x y : Str} (h : lt y x = false) (n : y ≠ x) : lt x y = true := by
  rcases lt_tri x y with e | g | g
  · exact absurd e.symm n
  · exact g
  · rw [h] at g; cases g
theorem swo_lexS {α : Type} (k : α → Str × Str) : SrtO.Swo fun v u => lexS (k v) (k u) := by
  refine ⟨fun x y h => ?_, fun x y z h1 h2 => ?_⟩
  · unfold lexS at h ⊢
    by_cases e : (k x).1 = (k y).1
    · rw [if_pos e] at h
      rw [if_pos e.symm]
      exact lt_asym h
    · rw [if_neg e] at h
      rw [if_neg fun z => e z.symm]
      exact lt_asym h
  · unfold lexS at h1 h2 ⊢
    by_cases e1 : (k y).1 = (k x).1
    · rw [if_pos e1] at h1
      by_cases e2 : (k z).1 = (k y).1
      · rw [if_pos e2] at h2
        rw [if_pos (e2.trans e1)]
        exact lt_nt h1 h2
      · rw [if_neg e2] at h2
        rw [if_neg fun e => e2 (e.trans e1.symm), ← e1]
        exact h2
    · rw [if_neg e1] at h1
      by_cases e2 : (k z).1 = (k y).1
      · rw [if_neg fun e => e1 (e2.symm.trans e), e2]
        exact h1
      · rw [if_neg e2] at h2
        have a := lt_trans (lt_of_no h1 e1) (lt_of_no h2 e2)
        rw [if_neg fun e => by rw [e, lt_irr] at a; cases a]
        exact lt_asym a
section
variable {prog : Program} {w : World} {A : Around} {E : Value → Shared → Prop} {s : Shared}
def IsPairS (h : Heap) (v : Value) (p : Str × Str) : Prop := ∃ a o t u n, v = .ref a ∧ h.get? a = some o ∧ o.cls = .type "tuple" ∧ o.data = .seq #[.str p.1 t, .str p.2 u] n
theorem IsPairS.keeps {h h' : Heap} {v : Value} {q : Str × Str} (p : IsPairS h v q) (k : ∀ b o, h.get? b = some o → o.cls = .type "tuple" → h'.get? b = some o) : IsPairS h' v q :=
  let ⟨a, o, t, u, n, e, ho, hc, hd⟩ := p
  ⟨a, o, t, u, n, e, k _ _ ho hc, hc, hd⟩
theorem firstsS {h : Heap} {k : Value → Str × Str} : ∀ {vs : List Value}, (∀ v ∈ vs, IsPairS h v (k v)) → ∃ fs : List Value, PySem.W.KatTups h vs fs ∧ fs.length = vs.length ∧ ∀ f ∈ fs, ∃ x t, f = Value.str x t
  | [], _ => ⟨[], PySem.W.KatTups.nil, rfl, fun _ m => absurd m List.not_mem_nil⟩
  | v :: vs, hp => by
    obtain ⟨fs, h1, h2, h3⟩ := firstsS (k := k) (vs := vs) fun u m => hp u (List.mem_cons_of_mem _ m)
    obtain ⟨a, o, t, u, n, e, ho, hc, hd⟩ := hp v List.mem_cons_self
    generalize (k v).1 = x at hd
    subst e
    refine ⟨.str x t :: fs, PySem.W.KatTups.cons ho hc hd rfl h1, by rw [List.length_cons, List.length_cons, h2], fun f m => ?_⟩
    rcases List.mem_cons.mp m with rfl | m
    · exact ⟨x, t, rfl⟩
    · exact h3 f m
theorem pair_cmpS {vs : List Value} {k : Value → Str × Str} (hp : ∀ v ∈ vs, IsPairS s.heap v (k v)) : SrtO.Cmp prog w A s (tuples' true) (fun p => p.1 ∈ vs) (SrtO.lt2 fun v u => lexS (k v) (k u)) := by
  intro p q hm hm'
  have h1 := hp _ hm
  have h2 := hp _ hm'
  show wpAny (model prog w) A (keyLt' (tuples' true) p.1 q.1) (fun r s' => s' = s ∧ r = lexS (k p.1) (k q.1)) (fun _ _ => False) s
  unfold lexS
  unfold IsPairS at h1 h2
  generalize (k p.1).1 = x at h1 ⊢
  generalize (k p.1).2 = y at h1 ⊢
  generalize (k q.1).1 = x' at h2 ⊢
  generalize (k q.1).2 = y' at h2 ⊢
  obtain ⟨a, o, t, u, n, e, ho, hc, hd⟩ := h1
  obtain ⟨a', o', t', u', n', e', ho', hc', hd'⟩ := h2
  have lm : ∀ a b : Str, decide (a.cps.toList < b.cps.toList) = lt a b := fun a b => lt_meets a b
  rw [e, e']
  refine PySem.W.kat_lt ho hd ho' hd' ?_
  show PySem.W.KatLex prog w A true (decide (2 < 2)) _ [(.str x t, .str x' t'), (.str y u, .str y' u')] 0 s
  refine PySem.W.kat_cons (SeqAt.EqAt.str_str x t x' t' prog w _ _ ?_)
  refine PySem.W.kat_go (fun e1 => ?_) (fun e1 => ?_)
  · have ex : x = x' := by simpa using e1
    refine PySem.W.kat_yes (PySem.W.kat_cons (SeqAt.EqAt.str_str y u y' u' prog w _ _ ?_))
    refine PySem.W.kat_go (fun e2 => ?_) (fun e2 => ?_)
    · have ey : y = y' := by simpa using e2
      refine PySem.W.kat_yes (PySem.W.kat_nil ⟨rfl, ?_⟩)
      rw [if_pos ex, ey, lt_irr]; rfl
    · refine PySem.W.kat_no (PySem.W.kat_one _ _ (PyProof.Rows.lt_str ?_))
      refine ⟨rfl, ?_⟩
      rw [if_pos ex]
      exact lm y y'
  · have ex : ¬ x = x' := by simpa using e1
    refine PySem.W.kat_no (oneLt_str ⟨rfl, ?_⟩)
    rw [if_neg ex]
    exact lm x x'
theorem pairs_sortableS {a : Addr} {vs : List Value} {k : Value → Str × Str} (h0 : 0 < vs.length) (hp : ∀ v ∈ vs, IsPairS s.heap v (k v)) (ha : ∀ o, s.heap.get? a = some o → o.cls ≠ .type "tuple") : SrtO.SortableO prog w A s a vs fun v u => lexS (k v) (k u) := by
  intro h' keep
  have hp' : ∀ v ∈ vs, IsPairS h' v (k v) := fun v hm => (hp v hm).keeps fun b o e c => keep b o (fun z => by subst z; exact ha o e c) e
  obtain ⟨fs, h1, h2, h3⟩ := firstsS hp'
  refine ⟨tuples' true, fun Q E hq => ?_, pair_cmpS hp'⟩
  refine PySem.W.kat_kind (T := .type "str") h1 (by omega) (fun f hm => ?_) (by rfl) ?_
  · obtain ⟨x, t, rfl⟩ := h3 f hm
    exact PySem.W.Looks.now
  · have e : (Value.type "str" != Value.type "tuple") = true := by decide +kernel
    rw [e]
    exact hq
theorem sorted_pairsS {l : Addr} {vs : List Value} {k : Value → Str × Str} {Q : Value → Shared → Prop} (hl : s.heap.IsList l vs.toArray) (hz : vs.length ≤ sizeLine) (hp : ∀ v ∈ vs, IsPairS s.heap v (k v))
    (h : ∀ (h' : Heap) (d : Addr) (out : List Value), SrtO.Srtd (fun v u => lexS (k v) (k u)) out → SrtO.Stb (fun v u => lexS (k v) (k u)) out vs → (∀ b o, s.heap.get? b = some o → h'.get? b = some o) → s.heap.objs.size ≤ d → (∃ n, h'.get? d = some (seqObj "list" out.toArray n)) → Q (.ref d) { s with heap := h' }) :
    wpAny (model prog w) A (call (.builtin "sorted") [.ref l]) Q E s := by
  refine SrtO.sorted_ord (swo_lexS k) hl hz (fun h2 h₁ a ha kk => ?_) fun out hs hb => ?_
  · refine pairs_sortableS (s := { s with heap := h₁ }) (by omega) (fun v hm => (hp v hm).keeps fun b o e _ => (kk b o e).2) fun o e => ?_
    have e' : some o = some (seqObj "list" vs.toArray 0) := e.symm.trans ha
    cases e'
    intro c
    exact absurd (Value.type.inj c) (by decide)
  · exact h _ _ out hs hb (fun b o e => PyProof.Rows.sortedAll_old e) (Nat.le_succ _) (PyProof.Rows.sortedAll_at s.heap vs out.toArray)
end
/-- sorted(xs), xs a list of pairs of texts (k says which): a new list, sorted -/
def rSortedPS (K : PySem.W.Frag) : List V → Hp → VK → Prop := fun vs H Q => ∃ (a : Addr) (xs : List V) (k : V → Str × Str), vs = [V.ref a] ∧ SqL K H a xs ∧ (∀ x ∈ xs, ∃ t, x = V.ref t ∧ H t = some (.tup [.str (k x).1, .str (k x).2])) ∧
  ∀ ys p, SrtO.Srtd (fun v u => lexS (k v) (k u)) ys → ys.Perm xs → H p = none → Q (.ref p) (upd H p (.lst ys))
theorem cr_sortedPS {X : Cx} : CallR X (.builtin "sorted") (rSortedPS X.K) := by
  intro pins s σ H vs us Q I r h
  obtain ⟨a, xs, k, rfl, hs, hx, q⟩ := h
  obtain ⟨its, rv, hl, hz⟩ := I.list hs
  obtain ⟨u, rfl, ru⟩ := vals1 r
  obtain rfl : u = Value.ref a := ru
  obtain ⟨e1, e2⟩ := refs_back rv fun x m => by
    obtain ⟨t, e, _⟩ := hx x m
    exact ⟨t, e⟩
  refine sorted_pairsS (k := fun u => k (backV u)) hl.isList (by rw [← rv.length]; exact hz) (fun v hv => ?_) fun h' d out h1 h2 kp hd hn => ?_
  · obtain ⟨t, rfl⟩ := e2 v hv
    have hm : V.ref t ∈ xs := by rw [e1]; exact List.mem_map.mpr ⟨_, hv, rfl⟩
    obtain ⟨t', e, ht⟩ := hx _ hm
    cases e
    obtain ⟨_, its2, r2, o, ho, hc, n, hd⟩ := I.hok _ _ ht
    obtain ⟨u1, u2, rfl, ri, rj⟩ := vals2 r2
    obtain ⟨t1, rfl⟩ := ri
    obtain ⟨t2, rfl⟩ := rj
    exact ⟨t, o, t1, t2, n, rfl, ho, hc, hd⟩
  · have h3 : ∀ u ∈ out, ∃ a, u = Value.ref a := fun u hu => e2 u (h2.perm.mem_iff.mp hu)
    obtain ⟨n, hn⟩ := hn
    have hb : SrtO.Stb (fun v u => lexS (k v) (k u)) (out.map backV) xs := by
      rw [e1]
      exact SrtO.Stb.map (swo_lexS k) backV h2
    refine ⟨.ref d, upd H d (.lst (out.map backV)), I.laid (t' := s.toks) kp hd ⟨?_, out, n, vals_back h3, hn⟩, rfl, q _ d (SrtO.srtd_map h1) hb.perm (I.hok.fresh hd)⟩
    rw [hb.len]
    exact hz
end SC

namespace SC
open PySem L2
def top (i : Nat) : Stmt := PySem.Challenge.pw_sealchart_k19_collected_seals.main.body.getD i (.Pass ⟨0, 0, 0, 0⟩)
local macro_rules | `(tactic| walk_at "wp") => `(tactic| simp (config := { decide := false }) only [tFmtX, gCons, gNil, tSeq, tAsg, tIfS, tRet, tTest, tOp, tUn, tVar, tC, tCB, tCall, tCons, tNil, tLst, tTup, tAnd, tOr, tNot, tAndV, tOrV, tNotV, tB, tChain, tIf, tIsT, tSl, rSlS, tNoPart, tPart, tErr, tAug, ipI, tDrop, tM1, tBM, rAppend, tFld, sFld, sDPut, tDGet1, tDNewT, tMeth, tMake, gSub, gName, tNext, rI, rI0, rU, rEq, rNe, scal, rSetL, L2.start, List.map_cons, List.map_nil, List.length_cons, List.length_nil, List.replicate, List.cons_append, List.nil_append, List.append_nil, List.getElem?_cons_zero, List.getElem?_cons_succ, List.set_cons_zero, List.set_cons_succ, cxOf,
    Option.some.injEq, V.int.injEq, V.ref.injEq, V.str.injEq, V.bl.injEq, V.ty.injEq, HO.lst.injEq, HO.tup.injEq, List.cons.injEq, exists_eq_left, exists_eq_left', exists_eq_right, exists_and_left, exists_eq, and_true, true_and, and_assoc, reduceCtorEq, false_and, and_false, exists_false, or_false, false_or, decide_eq_true_eq, Bool.not_eq_true', decide_eq_false_iff_not, decide_true, decide_false, Bool.false_eq_true, upd_same, at0, at1, ixN_20, ixN_21, ixN_10, if_true, if_false, ite_true, ite_false, Nat.reduceAdd, Nat.reduceSub, tyN_non, tyN_bl, tyN_int, tyN_str, isaB_all])
local macro_rules | `(tactic| walk_at "wt") => `(tactic| simp (config := { decide := false }) only [tTest, tOp, tVar, tC, tCB, tCons, tNil, tSl, rSlS, tNoPart, tPart, tB, tAnd, tOr, tNot, tAndV, tOrV, tNotV, tChain, tIsT, rI, rI0, rU, rEq, rNe, scal, List.getElem?_cons_zero, List.getElem?_cons_succ,
    Option.some.injEq, V.int.injEq, V.ref.injEq, V.str.injEq, V.bl.injEq, V.ty.injEq, HO.lst.injEq, HO.tup.injEq, List.cons.injEq, exists_eq_left, exists_eq_left', exists_eq_right, exists_and_left, exists_eq, and_true, true_and, and_assoc, reduceCtorEq, false_and, and_false, exists_false, or_false, false_or, decide_eq_true_eq, Bool.not_eq_true', decide_eq_false_iff_not, decide_true, decide_false, Bool.false_eq_true, upd_same, at0, at1, ixN_20, ixN_21, ixN_10, if_true, if_false, ite_true, ite_false, Nat.reduceAdd, Nat.reduceSub, tyN_non, tyN_bl, tyN_int, tyN_str, isaB_all])
/-! the law's own helpers: cell, stream, take, char, string -/
abbrev s_law_cell : Stmt := top 45
abbrev N_law_cell : List Str := ["script", "k"]
theorem sc_law_cell : FnScope N_law_cell ["script", "k"] (defScope s_law_cell) := ⟨rfl, rfl, rfl, by decide +kernel, rfl, by decide +kernel, by decide +kernel⟩
abbrev s_law_stream : Stmt := top 46
abbrev N_law_stream : List Str := ["cell"]
theorem sc_law_stream : FnScope N_law_stream ["cell"] (defScope s_law_stream) := ⟨rfl, rfl, rfl, by decide +kernel, rfl, by decide +kernel, by decide +kernel⟩
abbrev s_law_take : Stmt := top 47
abbrev N_law_take : List Str := ["stream", "many", "worth"]
theorem sc_law_take : FnScope N_law_take ["stream", "many"] (defScope s_law_take) := ⟨rfl, rfl, rfl, by decide +kernel, rfl, by decide +kernel, by decide +kernel⟩
abbrev s_law_char : Stmt := top 48
abbrev N_law_char : List Str := ["k", "chars"]
theorem sc_law_char : FnScope N_law_char ["k"] (defScope s_law_char) := ⟨rfl, rfl, rfl, by decide +kernel, rfl, by decide +kernel, by decide +kernel⟩
abbrev s_law_string : Stmt := top 49
abbrev N_law_string : List Str := ["stream", "most", "size", "k"]
theorem sc_law_string : FnScope N_law_string ["stream", "most"] (defScope s_law_string) := ⟨rfl, rfl, rfl, by decide +kernel, rfl, by decide +kernel, by decide +kernel⟩
def spCell (K : PySem.W.Frag) : Sp := fun vs H Q _ => ∃ (a : Addr) (ns : List Int) (k : Nat), vs = [.ref a, .int k] ∧ SqL K H a (ns.map V.int) ∧ Q (.int (ns.getD k 0)) H
def spStream : Sp := fun vs H Q _ => ∃ z : Int, vs = [.int z] ∧ ∀ s, H s = none → ∀ a b : Int, Q (.ref s) (upd H s (.lst [.int a, .int b]))
def spTake : Sp := fun vs H Q _ => ∃ (s : Addr) (m : Int), vs = [.ref s, .int m] ∧ Strm H s ∧ (0 < m ∧ m < 2 ^ 200) ∧
  ∀ (w : Int) (H' : Hp), 0 ≤ w → w < m → Kp [s] H H' → Strm H' s → Q (.int w) H'
/-- the 94 signs of the law's alphabet -/
def abc : List Nat := (List.range 95).map (· + 32) |>.filter (· != 37)
def spChar : Sp := fun vs H Q _ => ∃ k : Int, vs = [.int k] ∧ 0 ≤ k ∧ k < 94 ∧ Q (.str ⟨#[abc.getD k.toNat 0]⟩) H
def spString : Sp := fun vs H Q _ => ∃ (s : Addr) (m : Int), vs = [.ref s, .int m] ∧ Strm H s ∧ 0 ≤ m ∧ m < 1000 ∧
  ∀ (z : Str) (H' : Hp), z.length ≤ m.toNat → (∀ c ∈ z.cps.toList, c ∈ abc) → Kp [s] H H' → Strm H' s → Q (.str z) H'
section
variable {P : Program} {w : World} {K : PySem.W.Frag} {mg : Str → Option Value} {base : Heap} {f : Addr} {fd : FuncData}
theorem two200 {m : Int} (h0 : 0 < m) (h : m < 2 ^ 200) : CDivW a m := by
  refine wide_div (b := 200) h0 ?_ (by decide) (by decide)
  have : (2 : Int) ^ 200 = ((2 ^ 200 : Nat) : Int) := by decide +kernel
  rw [this] at h
  omega
theorem ok_cell (F : Fun K "_law_cell" "_law_cell" s_law_cell f fd) (B : Blt mg) : FnOk P w K mg base CX0 1 f fd ["script", "k"] (spCell K) := by
  refine F.ok sc_law_cell (fun vs H Q E h => ?_) (fun cdv A outer s H vs Q E hr h => ?_)
  · obtain ⟨a, ns, k, rfl, _⟩ := h; rfl
  obtain ⟨a, ns, k, rfl, hS, q⟩ := h
  refine ⟨_, (pss_cons (ps_if (pt_cmpR op_lt (pv 1) (B.len_q (pa_cons (pv 0) pa_nil)) (nomark _)) (pss_one (ps_ret (pe_ix ix_list (pv 0) (pv 1) (fun _ _ => rfl)))) pss_nil)
    (pss_one (ps_ret pe_int))), ?_⟩
  walk_at "wp"
  refine ⟨_, Or.inl hS, ?_⟩
  rw [List.length_map]
  by_cases c : k < ns.length
  · rw [if_pos (by omega)]
    rw [List.getD_eq_getElem?_getD, List.getElem?_eq_getElem c] at q
    exact ⟨a, _, (k : Int), V.int ns[k], rfl, rfl, hS, atI_nat (j := k) (by rw [List.getElem?_map, List.getElem?_eq_getElem c] <;> rfl), q⟩
  · rw [if_neg (by omega)]
    rw [List.getD_eq_getElem?_getD, List.getElem?_eq_none (by omega)] at q
    exact q
theorem ok_stream (F : Fun K "_law_stream" "_law_stream" s_law_stream f fd) (B : Blt mg) : FnOk P w K mg base CX0 1 f fd ["cell"] spStream := by
  refine F.ok sc_law_stream (fun vs H Q E h => ?_) (fun cdv A outer s H vs Q E hr h => ?_)
  · obtain ⟨z, rfl, _⟩ := h; rfl
  obtain ⟨z, rfl, q⟩ := h
  refine ⟨_, (pss_cons (ps_if (pt_cmpR op_ge (pv 0) (pe_op op_pow pe_int pe_int) (nomark _)) (pss_one (ps_ret (pe_lst (pa_cons (pv 0) (pa_cons pe_int pa_nil))))) pss_nil)
    (pss_one (ps_ret (pe_lst (pa_cons pe_int (pa_cons (pv 0) pa_nil)))))), ?_⟩
  walk_at "wp"
  have e2 : (2 : Nat) ≤ sizeLine := by decide
  refine ⟨by refine ⟨?_, ?_, ?_⟩ <;> decide, ?_⟩
  split
  · exact ⟨e2, fun p hp => q p hp _ _⟩
  · exact ⟨e2, fun p hp => q p hp _ _⟩
theorem ok_take (F : Fun K "_law_take" "_law_take" s_law_take f fd) (B : Blt mg) : FnOk P w K mg base CX0 1 f fd ["stream", "many"] spTake := by
  refine F.ok sc_law_take (fun vs H Q E h => ?_) (fun cdv A outer s H vs Q E hr h => ?_)
  · obtain ⟨s, m, rfl, _⟩ := h; rfl
  obtain ⟨p, m, rfl, ⟨a, b, hp⟩, ⟨m0, m1⟩, q⟩ := h
  refine ⟨_, (pss_cons (ps_if (pt_cmpR op_gt (pe_ix ix_lM (pv 0) pe_int (fun _ _ => rfl)) pe_int (nomark _)) (pss_cons (ps_set (i := 2) sc_law_take.nd rfl (Or.inl rfl) (pe_op op_mod (B.int_i (pa_cons (pe_ix ix_lM (pv 0) pe_int (fun _ _ => rfl)) pa_nil)) (pv 1)))
    (pss_cons (ps_asg (pe_op op_fdivW (pe_ix ix_lM (pv 0) pe_int (fun _ _ => rfl)) (pv 1)) (pg_sub (pv 0) pe_int set_list))
    (pss_one (ps_ret (pv 2))))) pss_nil)
    (pss_cons (ps_asg (pe_op op_mod (B.int_i (pa_cons (pe_op op_add (pe_op op_mul (pe_ix ix_lM (pv 0) pe_int (fun _ _ => rfl)) pe_int) pe_int) pa_nil)) pe_int) (pg_sub (pv 0) pe_int set_list))
    (pss_one (ps_ret (pe_op op_mod (B.int_i (pa_cons (pe_op op_add (pe_op op_fdivW (pe_op op_mul (pe_ix ix_lM (pv 0) pe_int (fun _ _ => rfl)) (pe_ix ix_lM (pv 0) pe_int (fun _ _ => rfl))) pe_int) (pe_op op_fdivW (pe_ix ix_lM (pv 0) pe_int (fun _ _ => rfl)) pe_int)) pa_nil)) (pv 1)))))), ?_⟩
  walk_at "wp"
  simp only [hp, Option.some.injEq, HO.lst.injEq, exists_eq_left', at0, at1, V.int.injEq, List.length_cons, List.length_nil, Nat.reduceAdd, ixN_20, ixN_21, List.set_cons_zero, List.set_cons_succ, upd_same]
  have kp : ∀ x y : Int, Kp [p] H (upd H p (.lst [.int x, .int y])) := fun x y => Kp.lst hp (List.mem_singleton.mpr rfl)
  split
  · exact ⟨m0, two200 m0 m1, q _ _ (Int.emod_nonneg _ (by omega)) (Int.emod_lt_of_pos _ m0) (kp _ _) Strm.mk⟩
  · have n0 := Int.emod_nonneg (b * 48271 + 69621) (show (2147483647 : Int) ≠ 0 by decide)
    have n1 := Int.emod_lt_of_pos (b * 48271 + 69621) (show (0 : Int) < 2147483647 by decide)
    have lit : ∀ {j : Int} {i : Int}, 0 < j → j < 2 ^ 200 → CDivW i j := fun h0 h1 => two200 h0 h1
    refine ⟨.inr (by decide), by decide, .inl ⟨by omega, by omega⟩, lit (by decide) (by decide), lit (by decide) (by decide), m0, ?_⟩
    exact q _ _ (Int.emod_nonneg _ (by omega)) (Int.emod_lt_of_pos _ m0) (kp _ _) Strm.mk
theorem abc_get : ∀ k : Nat, k < 94 → abc.getD k 0 ∈ abc := by decide +kernel
theorem ok_char (F : Fun K "_law_char" "_law_char" s_law_char f fd) : FnOk P w K mg base CX0 1 f fd ["k"] spChar := by
  refine F.ok sc_law_char (fun vs H Q E h => ?_) (fun cdv A outer s H vs Q E hr h => ?_)
  · obtain ⟨k, rfl, _⟩ := h; rfl
  obtain ⟨k, rfl, k0, k1, q⟩ := h
  refine ⟨_, (pss_cons (ps_set (i := 1) sc_law_char.nd rfl (Or.inl rfl) pe_str)
    (pss_cons (ps_set (i := 1) sc_law_char.nd rfl (Or.inl rfl) (pe_op op_add_str (pv 1) pe_str))
    (pss_one (ps_ret (pe_ix ix_str (pv 1) (pv 0) (fun _ _ => rfl)))))), ?_⟩
  walk_at "wp"
  have e : TL.tl (Str.ofString " !\"#$&'()*+,-./0123456789:;<=>?@ABCDEFGHIJKLMNOPQRSTUVWXYZ[\\]^_`" ++ Str.ofString "abcdefghijklmnopqrstuvwxyz{|}~") = abc := by decide +kernel
  have l : abc.length = 94 := by decide +kernel
  refine ⟨by decide +kernel, _, k, abc.getD k.toNat 0, rfl, rfl, ?_, ?_, q⟩
  · rw [TL.len_tl, e, l]; decide
  · have ek : k = ((k.toNat : Nat) : Int) := by omega
    rw [show (Str.ofString " !\"#$&'()*+,-./0123456789:;<=>?@ABCDEFGHIJKLMNOPQRSTUVWXYZ[\\]^_`" ++ Str.ofString "abcdefghijklmnopqrstuvwxyz{|}~").cps.toList = abc from e]
    have g : abc[k.toNat]? = some (abc.getD k.toNat 0) := by
      rw [List.getD_eq_getElem?_getD, List.getElem?_eq_getElem (by omega)]; rfl
    have z := atI_nat g
    rw [← ek] at z
    exact z
theorem ok_string (F : Fun K "_law_string" "_law_string" s_law_string f fd) (B : Blt mg) (c_law_take : Cal P w K mg base CX0 1 "_law_take" spTake) (c_law_char : Cal P w K mg base CX0 1 "_law_char" spChar) :
    FnOk P w K mg base CX0 2 f fd ["stream", "most"] spString := by
  refine F.ok sc_law_string (fun vs H Q E h => ?_) (fun cdv A outer s H vs Q E hr h => ?_)
  · obtain ⟨s, m, rfl, _⟩ := h; rfl
  obtain ⟨p, m, rfl, hs, m0, m1, q⟩ := h
  refine ⟨_, (pss_cons (ps_set (i := 2) sc_law_string.nd rfl (Or.inl rfl) (c_law_take.pe hr (pa_cons (pv 0) (pa_cons (pe_op op_add (pv 1) pe_int) pa_nil))))
    (pss_one (ps_ret (pe_join pe_str (pe_lc (own := [("k", 3)]) (g := gName 3) (tt := tYes) rfl sc_law_string.nd (B.range1 (pa_cons (pv 2) pa_nil)) (blkOk_by (own := [("k", 3)]) (N := N_law_string) (sc := defScope s_law_string) (by decide +kernel)) (fun _ _ _ _ _ => pg_name (i := 3) sc_law_string.nd rfl (Or.inl rfl)) (fun _ _ _ _ _ => pts_nil) (fun _ _ _ _ _ => (c_law_char.pe hr (pa_cons (c_law_take.pe hr (pa_cons (pv 0) (pa_cons pe_int pa_nil))) pa_nil)))))))), ?_⟩
  walk_at "wp"
  refine ⟨p, m + 1, rfl, hs, ⟨by omega, by omega⟩, fun n H1 n0 n1 k1 s1 => ?_⟩
  simp only [tM1, tC]
  refine ⟨⟨_, rfl⟩, ?_⟩
  refine ⟨_, rfl, n, rfl, by omega, by omega, fun D hD => ?_⟩
  refine lc_range (lo := 0) (n := n.toNat) (fun i H' => ∃ cs : List Nat, H' D = some (.lst ((sgs cs).map V.str)) ∧ cs.length = i ∧ (∀ c ∈ cs, c ∈ abc) ∧ Kp [p] H1 H' ∧ Strm H' p)
    ⟨[], upd_same, rfl, fun c h => absurd h (by simp), Kp.new hD _, s1.kp (Kp.new hD _ : Kp [] _ _) (by simp)⟩ (fun i H2 hi ⟨cs, hcD, hcl, hca, k2, s2⟩ => ?_) (fun H2 ⟨cs, hcD, hcl, hca, k2, s2⟩ => ?_)
  · refine ⟨rfl, ?_⟩
    simp only [tYes, if_true]
    refine ⟨_, rfl, p, 94, rfl, s2, ⟨by decide, by decide⟩, fun v H3 v0 v1 k3 s3 => ⟨v, rfl, v0, v1, ?_⟩⟩
    have nD : D ≠ p := by obtain ⟨a, b, e⟩ := s1; exact (ne_of_none e hD).symm
    have hcD3 := k3.keep D _ (by simpa using nD) hcD
    have big : (200 : Nat) < sizeLine := by decide
    have lim : sizeLine = 16777216 := sizeLine_eq
    refine ⟨(sgs cs).map V.str, hcD3, by rw [List.length_map, sgs_len]; omega, cs ++ [abc.getD v.toNat 0], ?_, by rw [List.length_append, hcl]; rfl, fun c h => ?_, (k2.trans k3).upd hD hcD3, ?_⟩
    · rw [upd_same, sgs_add]
    · rcases List.mem_append.mp h with h | h
      · exact hca c h
      · rw [List.mem_singleton.mp h]
        exact abc_get v.toNat (by omega)
    · obtain ⟨a, b, e⟩ := s3
      exact ⟨a, b, by rw [upd_ne (Ne.symm nD)]; exact e⟩
  · have ez := tl_sgs cs
    refine ⟨_, rfl, sgs cs, .inl (SqL.of hcD), ?_, ?_⟩
    · rw [sgs_sum, sgs_len, hcl]
      show n.toNat + n.toNat * 0 ≤ _
      omega
    · refine q _ _ ?_ ?_ (k1.trans k2) s2
      · rw [TL.len_tl, ez]; omega
      · intro c hc
        rw [show (Txt.join (Str.ofString "") (sgs cs)).cps.toList = cs from ez] at hc
        exact hca c hc
end

/-! the program's is_printable, is_integer; the law's says -/
abbrev s_is_printable : Stmt := top 22
abbrev N_is_printable : List Str := ["value"]
theorem sc_is_printable : FnScope N_is_printable ["value"] (defScope s_is_printable) := ⟨rfl, rfl, rfl, by decide +kernel, rfl, by decide +kernel, by decide +kernel⟩
abbrev s_is_integer : Stmt := top 23
abbrev N_is_integer : List Str := ["value", "least", "greatest"]
theorem sc_is_integer : FnScope N_is_integer ["value", "least", "greatest"] (defScope s_is_integer) := ⟨rfl, rfl, rfl, by decide +kernel, rfl, by decide +kernel, by decide +kernel⟩
def prV : V → Bool
  | .str z => prn z
  | _ => false
def inV (lo hi : Int) : V → Bool
  | .int i => decide (lo ≤ i) && decide (i ≤ hi)
  | _ => false
/-- is_printable(v), Pt the table of its code -/
def spPrn (Pt : Addr) : Sp := fun vs H Q _ => ∃ v : V, vs = [v] ∧ GxR.TabG H Pt ∧ (∃ t, tyN H v = some t) ∧ ∀ H', Kp [Pt] H H' → GxR.TabG H' Pt → Q (.bl (prV v)) H'
def spIntg : Sp := fun vs H Q _ => ∃ (v : V) (lo hi : Int), vs = [v, .int lo, .int hi] ∧ (∃ t, tyN H v = some t) ∧ Q (.bl (inV lo hi v)) H
section
variable {P : Program} {w : World} {K : PySem.W.Frag} {mg : Str → Option Value} {base : Heap} {f : Addr} {fd : FuncData}
theorem ok_printable {oc kV doc pm ct : Value} {od an : Option Addr} {osl : Array (Option Value)} {c Pt : Addr} {t37 : Tok} (B : Blt mg) (h37 : mg "_BARRED_CODE" = some (.int 37 t37)) (TB : GxR.TabB base mg c Pt)
    (lk : K.lookup f = some ⟨oc, od, .func (PySem.W.fnOf "is_printable" "is_printable" (defArgs s_is_printable) (defBody s_is_printable) (defScope s_is_printable) .none kV doc pm an (.ref c) ct), osl⟩) (hcd : PySem.W.codeIn K (.ref c) "is_printable" = true) :
    FnOk P w K mg base CX0 3 f (PySem.W.fnOf "is_printable" "is_printable" (defArgs s_is_printable) (defBody s_is_printable) (defScope s_is_printable) .none kV doc pm an (.ref c) ct) ["value"] (spPrn Pt) := by
  refine fn_of lk hcd sc_is_printable (fun vs H Q E h => ?_) (fun A outer s H vs Q E hr h => ?_)
  · obtain ⟨v, rfl, _⟩ := h; rfl
  obtain ⟨v, rfl, hG, ⟨t, ht⟩, q⟩ := h
  refine ⟨_, PSs.nox (pss_cons (ps_if (pt_not (pt_val (B.isT (pv 0) B.v_str))) (pss_one (ps_ret pe_bl)) pss_nil)
    (pss_one (ps_ret (pe_allX hr B TB rfl (gsOf (by decide +kernel) (by decide +kernel)) (pv 0) (elt_prn B h37 rfl rfl rfl rfl) (fun _ => rfl))))), ?_⟩
  walk_at "wp"
  refine ⟨t, ht, ?_⟩
  cases c1 : isaB t "str" with
  | true =>
    obtain ⟨z, rfl⟩ := isa_str ht c1
    rw [if_neg (by decide)]
    exact ⟨_, rfl, z, rfl, hG, fun H2 hT => q H2 (Kp.tab hG hT (List.mem_singleton.mpr rfl)) hT.1⟩
  | false =>
    rw [if_pos rfl]
    have e : prV v = false := by
      cases v with
      | str z => cases ht; exact absurd c1 (by decide)
      | _ => rfl
    have z := q H (Kp.refl _ _) hG
    rw [e] at z
    exact z
theorem ok_integer (F : Fun K "is_integer" "is_integer" s_is_integer f fd) (B : Blt mg) : FnOk P w K mg base CX0 1 f fd ["value", "least", "greatest"] spIntg := by
  refine F.ok sc_is_integer (fun vs H Q E h => ?_) (fun cdv A outer s H vs Q E hr h => ?_)
  · obtain ⟨v, lo, hi, rfl, _⟩ := h; rfl
  obtain ⟨v, lo, hi, rfl, ⟨t, ht⟩, q⟩ := h
  refine ⟨_, (pss_cons (ps_if (PW.pt (pw_or (pt_not (pt_val (B.isT (pv 0) B.v_int))) (pw_or1 (pt_val (B.isT (pv 0) B.v_bool))))) (pss_one (ps_ret pe_bl)) pss_nil)
    (pss_one (ps_ret (pe_chain op_le op_le (pv 1) (pv 0) (pv 2))))), ?_⟩
  walk_at "wp"
  refine ⟨t, ht, ?_⟩
  cases c1 : isaB t "int" with
  | false =>
    rw [if_pos rfl]
    have e : inV lo hi v = false := by
      cases v with
      | int z => cases ht; exact absurd c1 (by decide)
      | _ => rfl
    rw [e] at q
    exact q
  | true =>
    rw [if_neg (by decide)]
    refine ⟨t, ht, ?_⟩
    rcases isa_int ht c1 with ⟨z, rfl⟩ | ⟨b, rfl⟩
    · cases ht
      rw [if_neg (by decide)]
      have q : Q (.bl (decide (lo ≤ z) && decide (z ≤ hi))) H := q
      refine ⟨z, rfl, ?_⟩
      by_cases c2 : lo ≤ z
      · rw [if_pos c2]
        rw [decide_eq_true c2] at q
        exact ⟨z, rfl, q⟩
      · rw [if_neg c2]
        rw [decide_eq_false c2] at q
        exact q
    · cases ht
      rw [if_pos (by decide)]
      exact q
end

/-! list names and keys -/
abbrev s_consists_of : Stmt := top 19
abbrev N_consists_of : List Str := ["text", "marks"]
theorem sc_consists_of : FnScope N_consists_of ["text", "marks"] (defScope s_consists_of) := ⟨rfl, rfl, rfl, by decide +kernel, rfl, by decide +kernel, by decide +kernel⟩
abbrev s_is_key : Stmt := top 17
abbrev N_is_key : List Str := ["value"]
theorem sc_is_key : FnScope N_is_key ["value"] (defScope s_is_key) := ⟨rfl, rfl, rfl, by decide +kernel, rfl, by decide +kernel, by decide +kernel⟩
structure NmC (mg : Str → Option Value) : Prop where
  c_DIGITS : ∃ t, mg "_DIGITS" = some (.str "0123456789" t)
  c_MOST_NAME : ∃ t, mg "_MOST_NAME" = some (.int 12 t)
def inT (m z : Str) : Bool := z.cps.toList.all fun c => decide (c ∈ m.cps.toList)
def lnS (z : Str) : Bool := decide (1 ≤ z.length) && decide (z.length ≤ 12) && inT (Str.ofString "abcdefghijklmnopqrstuvwxyz") z
def kyS (z : Str) : Bool := decide (2 ≤ z.length) && decide (z.length ≤ 12) && decide (z.cps.toList.head? = some 107) && inT (Str.ofString "0123456789") (cutS z (some 1) none)
def lnV : V → Bool
  | .str z => lnS z
  | _ => false
def kyV : V → Bool
  | .str z => kyS z
  | _ => false
def szV : V → Prop
  | .str z => z.length ≤ sizeLine
  | _ => True
/-- _consists_of(z, m), Pc the table of its code -/
def spCons (Pc : Addr) : Sp := fun vs H Q _ => ∃ z m : Str, vs = [.str z, .str m] ∧ GxR.TabG H Pc ∧ ∀ H', Kp [Pc] H H' → GxR.TabG H' Pc → Q (.bl (inT m z)) H'
def spNm (f : V → Bool) (Pc : Addr) : Sp := fun vs H Q _ => ∃ v : V, vs = [v] ∧ GxR.TabG H Pc ∧ (∃ t, tyN H v = some t) ∧ szV v ∧ ∀ H', Kp [Pc] H H' → GxR.TabG H' Pc → Q (.bl (f v)) H'
section
variable {P : Program} {w : World} {K : PySem.W.Frag} {mg : Str → Option Value} {base : Heap} {f : Addr} {fd : FuncData}
theorem ok_consists {oc kV doc pm ct : Value} {od an : Option Addr} {osl : Array (Option Value)} {c Pc : Addr} (B : Blt mg) (TB : GxR.TabB base mg c Pc)
    (lk : K.lookup f = some ⟨oc, od, .func (PySem.W.fnOf "_consists_of" "_consists_of" (defArgs s_consists_of) (defBody s_consists_of) (defScope s_consists_of) .none kV doc pm an (.ref c) ct), osl⟩) (hcd : PySem.W.codeIn K (.ref c) "_consists_of" = true) :
    FnOk P w K mg base CX0 3 f (PySem.W.fnOf "_consists_of" "_consists_of" (defArgs s_consists_of) (defBody s_consists_of) (defScope s_consists_of) .none kV doc pm an (.ref c) ct) ["text", "marks"] (spCons Pc) := by
  refine fn_of lk hcd sc_consists_of (fun vs H Q E h => ?_) (fun A outer s H vs Q E hr h => ?_)
  · obtain ⟨z, m, rfl, _⟩ := h; rfl
  obtain ⟨z, m, rfl, hG, q⟩ := h
  refine ⟨_, PSs.nox (pss_one (ps_ret (pe_allC (iy := 1) hr B TB rfl (gs0Of (by decide +kernel) (by decide +kernel)) (by show freeOk _ (defScope s_consists_of) = true; decide +kernel) (pv 0) (elt_in rfl rfl rfl) (by rfl) (by rfl) (fun _ => rfl) (fun _ => rfl)))), ?_⟩
  exact ⟨m, rfl, _, rfl, z, rfl, hG, fun H2 hT => q H2 (Kp.tab hG hT (List.mem_singleton.mpr rfl)) hT.1⟩
theorem cps_lenN (z : Str) : z.cps.toList.length = z.length := by
  show _ = z.cps.size
  exact Array.length_toList
theorem spNm_no {g : V → Bool} {v : V} {t : String} {H : Hp} {Pc : Addr} {Q : VK} (hg : ∀ v, (∀ z, v ≠ .str z) → g v = false) (ht : tyN H v = some t) (c1 : isaB t "str" = false) (hG : GxR.TabG H Pc) (q : ∀ H', Kp [Pc] H H' → GxR.TabG H' Pc → Q (.bl (g v)) H') : Q (.bl false) H := by
  have z := q H (Kp.refl _ _) hG
  rw [hg v (fun z e => by subst e; cases ht; exact absurd c1 (by decide))] at z
  exact z
theorem ok_key {Pc : Addr} (F : Fun K "is_key" "is_key" s_is_key f fd) (B : Blt mg) (D : NmC mg) (c_consists_of : Cal P w K mg base CX0 3 "_consists_of" (spCons Pc)) : FnOk P w K mg base CX0 4 f fd ["value"] (spNm kyV Pc) := by
  refine F.ok sc_is_key (fun vs H Q E h => ?_) (fun cdv A outer s H vs Q E hr h => ?_)
  · obtain ⟨v, rfl, _⟩ := h; rfl
  obtain ⟨v, rfl, hG, ⟨t, ht⟩, hz, q⟩ := h
  refine ⟨_, (pss_cons (ps_if (PW.pt (pw_or (pt_not (pt_val (B.isT (pv 0) B.v_str))) (pw_or1 (pt_not (pt_chain op_le op_le pe_int (B.len_s (pa_cons (pv 0) pa_nil)) (pe_cE D.c_MOST_NAME)))))) (pss_one (ps_ret pe_bl)) pss_nil)
    (pss_one (ps_ret (pe_and (pe_cmpR op_eq (pe_ix ix_str (pv 0) pe_int (fun _ _ => rfl)) pe_str (nomark _)) (pe_one (c_consists_of.pe hr (pa_cons (pe_slice sl_str (pv 0) (po_some pe_int) po_none) (pa_cons (pe_cSE D.c_DIGITS) pa_nil)))))))), ?_⟩
  walk_at "wp"
  refine ⟨t, ht, ?_⟩
  have off : ∀ z, v = .str z → kyV v = false → Q (.bl false) H := fun z e h => by
    have y := q H (Kp.refl _ _) hG
    rw [h] at y; exact y
  cases c1 : isaB t "str" with
  | false => rw [if_pos rfl]; exact spNm_no (fun v h => by cases v <;> first | rfl | exact absurd rfl (h _)) ht c1 hG q
  | true =>
    rw [if_neg (by decide)]
    obtain ⟨z, rfl⟩ := isa_str ht c1
    refine ⟨z, rfl, hz, ?_⟩
    split
    · rename_i h1
      split
      · rename_i h2
        refine off z rfl ?_
        show kyS z = false
        unfold kyS
        rw [decide_eq_false (show ¬ z.length ≤ 12 by omega), Bool.and_false, Bool.false_and, Bool.false_and]
      · rename_i h2
        have hl : z.cps.toList.length = z.length := cps_lenN z
        obtain ⟨c, r, ez⟩ : ∃ c r, z.cps.toList = c :: r := by
          cases e : z.cps.toList with
          | nil => rw [e] at hl; simp at hl; omega
          | cons c r => exact ⟨c, r, rfl⟩
        refine ⟨z, 0, c, rfl, rfl, hz, by rw [ez]; exact at0, rfl, ?_⟩
        have ek : (V.str ⟨#[c]⟩ = V.str (Str.ofString "k")) ↔ c = 107 := by
          constructor
          · intro h
            have h := congrArg (fun s : Str => s.cps.toList) (V.str.inj h)
            have h : [c] = [107] := h
            exact (List.cons.inj h).1
          · rintro rfl; rfl
        have eh : z.cps.toList.head? = some c := by rw [ez]; rfl
        by_cases h3 : c = 107
        · rw [if_pos (ek.mpr h3)]
          refine ⟨z, rfl, hz, _, _, rfl, hG, fun H' k g => ?_⟩
          have y := q H' k g
          rw [show kyV (.str z) = inT (Str.ofString "0123456789") (cutS z (some 1) none) by
            show kyS z = _
            unfold kyS
            rw [decide_eq_true (show 2 ≤ z.length by omega), decide_eq_true (show z.length ≤ 12 by omega), eh, decide_eq_true (by rw [h3]), Bool.true_and, Bool.true_and, Bool.true_and]] at y
          exact y
        · rw [if_neg (fun h => h3 (ek.mp h))]
          refine off z rfl ?_
          show kyS z = false
          unfold kyS
          rw [eh, decide_eq_false (fun h => h3 (Option.some.inj h)), Bool.and_false, Bool.false_and]
    · rename_i h1
      refine off z rfl ?_
      show kyS z = false
      unfold kyS
      rw [decide_eq_false (show ¬ 2 ≤ z.length by omega), Bool.false_and, Bool.false_and, Bool.false_and]
end

/-! digest -/
abbrev s_digest : Stmt := top 5
abbrev N_digest : List Str := ["text", "number", "mark", "digits"]
theorem sc_digest : FnScope N_digest ["text"] (defScope s_digest) := ⟨rfl, rfl, rfl, by decide +kernel, rfl, by decide +kernel, by decide +kernel⟩
structure DgC (mg : Str → Option Value) : Prop where
  c_FACTOR : ∃ t, mg "_FACTOR" = some (.int 65599 t)
  c_DIVISOR : ∃ t, mg "_DIVISOR" = some (.int 2361183241434822606617 t)
  c_DIGEST_LENGTH : ∃ t, mg "DIGEST_LENGTH" = some (.int 18 t)
def spDigest : Sp := fun vs H Q _ => ∃ z : Str, vs = [.str z] ∧ z.length ≤ sizeLine ∧ Q (.str (dgs z)) H
section
variable {P : Program} {w : World} {K : PySem.W.Frag} {mg : Str → Option Value} {base : Heap} {f : Addr} {fd : FuncData}
theorem cps_len (z : Str) : z.cps.toList.length = z.length := by
  show _ = z.cps.size
  exact Array.length_toList
theorem take1 {l : List Nat} {i c : Nat} (h : l[i]? = some c) : l.take (i + 1) = l.take i ++ [c] := by
  rw [List.take_add_one, h]; rfl
theorem cps_at {z : Str} {i c : Nat} (h : z.cps[i]? = some c) : z.cps.toList[i]? = some c := by rw [Array.getElem?_toList]; exact h
theorem take_cps (z : Str) : z.cps.toList.take z.cps.size = z.cps.toList := List.take_of_length_le (by rw [Array.length_toList]; exact Nat.le_refl _)
theorem ok_digest (F : Fun K "digest" "digest" s_digest f fd) (B : Blt mg) (D : DgC mg) : FnOk P w K mg base CX0 1 f fd ["text"] spDigest := by
  refine F.ok sc_digest (fun vs H Q E h => ?_) (fun cdv A outer s H vs Q E hr h => ?_)
  · obtain ⟨z, rfl, _⟩ := h; rfl
  obtain ⟨z, rfl, hz, q⟩ := h
  refine ⟨_, (pss_cons (ps_set (i := 1) sc_digest.nd rfl (Or.inl rfl) (pe_op op_add (B.len_s (pa_cons (pv 0) pa_nil)) pe_int))
    (pss_cons (ps_for PassesOwn.never rfl (pi_str (pv 0)) (pg_name (i := 2) sc_digest.nd rfl (Or.inl rfl)) (pss_one (ps_set (i := 1) sc_digest.nd rfl (Or.inl rfl) (pe_op op_mod (pe_op op_add (pe_op op_mul (pv 1) (pe_cE D.c_FACTOR)) (B.ord_ (pa_cons (pv 2) pa_nil))) (pe_cE D.c_DIVISOR)))))
    (pss_cons (ps_set (i := 3) sc_digest.nd rfl (Or.inl rfl) (pe_joined1 (pe_fmtX (pv 1))))
    (pss_one (ps_ret (pe_m1 PySem.F.slot_str_zfill PySem.F.type_str_zfill mt_zfill (pv 3) (pe_cE D.c_DIGEST_LENGTH))))))), ?_⟩
  walk_at "wp"
  refine ⟨hz, _, rfl, z, rfl, ?_⟩
  refine for_it walk_str (fun i σ H' => H' = H ∧ ∃ o : Option V, σ = [some (.str z), some (.int (((z.cps.toList.take i).foldl dgF (z.length + 1) : Nat) : Int)), o, none]) ⟨rfl, _, rfl⟩ (fun _ _ _ _ _ => True.intro) (fun i x σ H1 H2 hi ⟨hH, o, hσ⟩ ⟨h2, c, hc, hx⟩ => ?_) (fun σ H1 ⟨hH, o, hσ⟩ => ?_)
  · subst hσ
    subst hx
    subst h2
    subst hH
    walk_at "wp"
    refine ⟨.inr ⟨by decide, by decide⟩, by rfl, by decide, ?_⟩
    rw [take1 (cps_at hc), List.foldl_append]
    generalize (z.cps.toList.take i).foldl dgF (z.length + 1) = a
    refine ⟨?_, _, rfl⟩
    show ((a : Int) * 65599 + (c : Int)) % 2361183241434822606617 = (((a * 65599 + c) % 2361183241434822606617 : Nat) : Int)
    rw [Int.natCast_emod, Int.natCast_add, Int.natCast_mul]
    rfl
  · subst hσ
    subst hH
    walk_at "wp"
    have hd := dgN_lt z.cps.toList
    rw [take_cps, show z.length = z.cps.toList.length from (cps_len z).symm]
    refine ⟨_, rfl, ?_, ?_⟩
    · have := hxT_len hd
      unfold hxT at this
      rw [List.length_map] at this
      exact Nat.le_trans this (by decide)
    rw [show (⟨((Nat.toDigits 16 (z.cps.toList.foldl dgF (z.cps.toList.length + 1))).map Char.toNat).toArray⟩ : Str) = ⟨(hxT (dgN z.cps.toList)).toArray⟩ from rfl, zfill_hx hd]
    exact ⟨⟨_, rfl⟩, by decide, q⟩
end

/-! encode and its helpers -/
abbrev s_greatest_integer : Stmt := top 28
abbrev N_greatest_integer : List Str := []
theorem sc_greatest_integer : FnScope N_greatest_integer [] (defScope s_greatest_integer) := ⟨rfl, rfl, rfl, by decide +kernel, rfl, by decide +kernel, by decide +kernel⟩
abbrev s_encode : Stmt := top 24
abbrev N_encode : List Str := ["value", "text"]
theorem sc_encode : FnScope N_encode ["value"] (defScope s_encode) := ⟨rfl, rfl, rfl, by decide +kernel, rfl, by decide +kernel, by decide +kernel⟩
abbrev s_text_of : Stmt := top 26
abbrev N_text_of : List Str := ["value", "levels"]
theorem sc_text_of : FnScope N_text_of ["value", "levels"] (defScope s_text_of) := ⟨rfl, rfl, rfl, by decide +kernel, rfl, by decide +kernel, by decide +kernel⟩
abbrev s_tuple_text : Stmt := top 27
abbrev N_tuple_text : List Str := ["parts", "levels", "texts", "length", "part", "text"]
theorem sc_tuple_text : FnScope N_tuple_text ["parts", "levels"] (defScope s_tuple_text) := ⟨rfl, rfl, rfl, by decide +kernel, rfl, by decide +kernel, by decide +kernel⟩
section
variable {P : Program} {w : World} {K : PySem.W.Frag} {mg : Str → Option Value} {base : Heap} {f : Addr} {fd : FuncData}
structure TxtC (K : PySem.W.Frag) (mg : Str → Option Value) (C : Addr) (td tz tt : Tok) : Prop where
  bad : Err K mg "BadText" C
  dg : mg "MOST_DIGITS" = some (.int 20 td)
  dp : mg "MOST_DEPTH" = some (.int 8 tz)
  mt : mg "MOST_TEXT" = some (.int 100000 tt)
def spGreat : Sp := fun vs H Q _ => vs = [] ∧ Q (.int 99999999999999999999) H
/-- _text_of(v, n) of the tree t: its text, or a BadText -/
def spText (C Pt : Addr) (n : Nat) : Sp := fun vs H Q E => ∃ (v : V) (t : Tr), vs = [v, .int n] ∧ Rep H v t ∧ sml t = true ∧ GxR.TabG H Pt ∧
  (pl n t = true → fit t = true → ∀ H', Kp [Pt] H H' → GxR.TabG H' Pt → Q (.str ⟨(txt t).toArray⟩) H') ∧ (¬ (pl n t = true ∧ fit t = true) → ∀ H', Kp [Pt] H H' → GxR.TabG H' Pt → E (.ref C) none H')
def spTup (C Pt : Addr) (n : Nat) : Sp := fun vs H Q E => ∃ (a : Addr) (ts : List Tr), vs = [.ref a, .int n] ∧ Rep H (.ref a) (.tup ts) ∧ sml (.tup ts) = true ∧ GxR.TabG H Pt ∧
  (pl n (.tup ts) = true → fit (.tup ts) = true → ∀ H', Kp [Pt] H H' → GxR.TabG H' Pt → Q (.str ⟨(txt (.tup ts)).toArray⟩) H') ∧ (¬ (pl n (.tup ts) = true ∧ fit (.tup ts) = true) → ∀ H', Kp [Pt] H H' → GxR.TabG H' Pt → E (.ref C) none H')
def spEnc (C Pt : Addr) : Sp := fun vs H Q E => ∃ (v : V) (t : Tr), vs = [v] ∧ Rep H v t ∧ sml t = true ∧ GxR.TabG H Pt ∧
  (pl 8 t = true → (txt t).length ≤ 100000 → ∀ H', Kp [Pt] H H' → GxR.TabG H' Pt → Q (.str ⟨(txt t).toArray⟩) H') ∧ (¬ (pl 8 t = true ∧ (txt t).length ≤ 100000) → ∀ H', Kp [Pt] H H' → GxR.TabG H' Pt → E (.ref C) none H')
variable {C Pt : Addr} {td tz tt : Tok}
theorem ok_great (F : Fun K "_greatest_integer" "_greatest_integer" s_greatest_integer f fd) (B : Blt mg) (T : TxtC K mg C td tz tt) : FnOk P w K mg base CX0 1 f fd [] spGreat := by
  refine F.ok sc_greatest_integer (fun vs H Q E h => ?_) (fun cdv A outer s H vs Q E hr h => ?_)
  · obtain ⟨rfl, _⟩ := h; rfl
  obtain ⟨rfl, q⟩ := h
  refine ⟨_, (pss_one (ps_ret (B.int_s (pa_cons (pe_op op_mulS pe_str (pe_cI T.dg)) pa_nil)))), ?_⟩
  walk_at "wp"
  exact ⟨57, by decide +kernel, by decide, by decide, 99999999999999999999, by decide +kernel, by decide +kernel, q⟩
theorem ok_encode (F : Fun K "encode" "encode" s_encode f fd) (B : Blt mg) (T : TxtC K mg C td tz tt) (c_text_of : Cal P w K mg base (L2.CX P w) 22 "_text_of" (spText C Pt 8)) : FnOk P w K mg base (L2.CX P w) 23 f fd ["value"] (spEnc C Pt) := by
  refine F.okX sc_encode (fun vs H Q E h => ?_) (fun cdv A outer s H vs Q E hr h => ?_)
  · obtain ⟨v, t, rfl, _⟩ := h; rfl
  obtain ⟨v, t, rfl, hR, hs, hG, q, qe⟩ := h
  refine ⟨_, (pss_cons (ps_set (i := 1) sc_encode.nd rfl (Or.inl rfl) (c_text_of.pex hr (passX (takes_of rfl rfl rfl rfl) fun _ _ _ _ h => h) (pa_cons (pv 0) (pa_cons (pe_cI T.dp) pa_nil))))
    (pss_cons (ps_if (pt_cmpR op_gt (B.len_s (pa_cons (pv 1) pa_nil)) (pe_cI T.mt) (nomark _)) (pss_one (T.bad.raise (takes_of rfl rfl rfl rfl))) pss_nil)
    (pss_one (ps_ret (pv 1))))), ?_⟩
  walk_at "wp"
  have lim : sizeLine = 16777216 := sizeLine_eq
  refine ⟨v, t, rfl, hR, hs, hG, fun h1 h2 H' k g => ?_, fun h H' k g => ?_⟩
  · have := txt_size h1 h2 hs
    refine ⟨_, rfl, by rw [S_len]; omega, ?_⟩
    rw [S_len]
    by_cases c : (txt t).length ≤ 100000
    · rw [if_neg (by omega)]
      exact q h1 c H' k g
    · rw [if_pos (by omega)]
      exact qe (fun z => c z.2) H' k g
  · exact qe (fun z => h ⟨z.1, fit_of t z.2⟩) H' k g
theorem ok_text_of {n : Nat} {j : Nat} (hj : 4 ≤ j) (F : Fun K "_text_of" "_text_of" s_text_of f fd) (B : Blt mg) (T : TxtC K mg C td tz tt) (c_is_printable : Cal P w K mg base CX0 3 "is_printable" (spPrn Pt)) (c_is_integer : Cal P w K mg base CX0 1 "is_integer" spIntg)
    (c_greatest_integer : Cal P w K mg base CX0 1 "_greatest_integer" spGreat) (c_tuple_text : Cal P w K mg base (L2.CX P w) j "_tuple_text" (spTup C Pt n)) : FnOk P w K mg base (L2.CX P w) (j + 1) f fd ["value", "levels"] (spText C Pt n) := by
  refine F.okX sc_text_of (fun vs H Q E h => ?_) (fun cdv A outer s H vs Q E hr h => ?_)
  · obtain ⟨v, t, rfl, _⟩ := h; rfl
  obtain ⟨v, t, rfl, hR, hs, hG, q, qe⟩ := h
  refine ⟨_, (pss_cons (ps_if (pt_val (B.isT (pv 0) B.v_tuple)) (pss_one (ps_ret (c_tuple_text.pex hr (passX (takes_of rfl rfl rfl rfl) fun _ _ _ _ h => h) (pa_cons (pv 0) (pa_cons (pv 1) pa_nil))))) pss_nil)
    (pss_cons (ps_if (pt_val (c_is_printable.pe hr (pa_cons (pv 0) pa_nil))) (pss_one (ps_ret (pe_op op_add_str (pe_op op_add_str (B.str_i (pa_cons (B.len_s (pa_cons (pv 0) pa_nil)) pa_nil)) pe_str) (pv 0)))) pss_nil)
    (pss_cons (ps_if (pt_val (c_is_integer.pe hr (pa_cons (pv 0) (pa_cons pe_int (pa_cons (c_greatest_integer.pe0 hr) pa_nil))))) (pss_one (ps_ret (pe_op op_add_str (B.str_i (pa_cons (pv 0) pa_nil)) pe_str))) pss_nil)
    (pss_one (T.bad.raise (takes_of rfl rfl rfl rfl)))))), ?_⟩
  walk_at "wp"
  have lim : sizeLine = 16777216 := sizeLine_eq
  have cs : (prV v = false ∧ inV 0 99999999999999999999 v = false ∧ (∃ s, tyN H v = some s ∧ isaB s "tuple" = false) ∧ ¬ (pl n t = true ∧ fit t = true)) ∨ (∃ a xs ts, v = .ref a ∧ t = .tup ts ∧ H a = some (.tup xs) ∧ RepAll H xs ts) ∨ (∃ z, v = .str z ∧ t = .str z ∧ prn z = true) ∨
      (∃ i, v = .int i ∧ t = .int i ∧ 0 ≤ i ∧ i ≤ 99999999999999999999) := by
    cases hR with
    | tup e h => exact .inr (.inl ⟨_, _, _, rfl, rfl, e, h⟩)
    | str z =>
      cases hp : prn z with
      | false => exact .inl ⟨hp, rfl, ⟨_, rfl, rfl⟩, fun h => by have : prn z = true := h.1; rw [hp] at this; cases this⟩
      | true => exact .inr (.inr (.inl ⟨z, rfl, rfl, hp⟩))
    | int i =>
      cases hp : (decide (0 ≤ i) && decide (i ≤ 99999999999999999999)) with
      | false => exact .inl ⟨rfl, hp, ⟨_, rfl, rfl⟩, fun h => by have : (decide (0 ≤ i) && decide (i ≤ 99999999999999999999)) = true := h.1; rw [hp] at this; cases this⟩
      | true =>
        rw [Bool.and_eq_true, decide_eq_true_eq, decide_eq_true_eq] at hp
        exact .inr (.inr (.inr ⟨i, rfl, rfl, hp.1, hp.2⟩))
    | oth e n1 n2 n3 =>
      rename_i s
      refine .inl ⟨?_, ?_, ⟨s, e, ?_⟩, fun h => by have : false = true := h.1; cases this⟩
      · cases v with
        | str z => cases e; exact absurd rfl n2
        | _ => rfl
      · cases v with
        | int z => cases e; exact absurd rfl n1
        | _ => rfl
      · have : (s == "tuple") = false := by simpa using n3
        unfold isaB
        rw [this]
        simp
  rcases cs with ⟨hp, hi, ⟨s, hs1, hs2⟩, hn⟩ | ⟨a, xs, ts, rfl, rfl, e, h⟩ | ⟨z, rfl, rfl, hp⟩ | ⟨i, rfl, rfl, hh⟩
  · refine ⟨s, hs1, ?_⟩
    rw [hs2, if_neg Bool.false_ne_true]
    refine ⟨_, rfl, hG, ⟨s, hs1⟩, fun H1 k1 g1 => ⟨_, rfl, ?_⟩⟩
    rw [hp, if_neg Bool.false_ne_true]
    refine ⟨rfl, _, 0, _, rfl, ⟨s, tyN_kp k1 hG hs1⟩, _, rfl, ?_⟩
    rw [hi, if_neg Bool.false_ne_true]
    exact qe hn H1 k1 g1
  · exact ⟨_, tyN_tup e, by rw [if_pos (by decide)]; exact ⟨_, _, rfl, .tup e h, hs, hG, q, qe⟩⟩
  · have hz : z.length ≤ 10000000 := of_decide_eq_true hs
    refine ⟨_, rfl, ?_⟩
    rw [if_neg (by decide)]
    refine ⟨_, rfl, hG, ⟨_, rfl⟩, fun H1 k1 g1 => ⟨_, rfl, ?_⟩⟩
    have hp' : prV (.str z) = true := hp
    rw [hp', if_pos rfl]
    have dl := dig_len (n := z.length) (by omega)
    have e1 : (Str.ofString (toString (z.length : Int))).length ≤ 20 := by rw [toString_S, S_len]; exact dl
    have e2 : (Str.ofString ":").length = 1 := by decide +kernel
    have e3 : (Str.ofString (toString (z.length : Int)) ++ Str.ofString ":").length ≤ 21 := by
      rw [TL.len_tl, TL.tl_append, List.length_append, ← TL.len_tl, ← TL.len_tl]; omega
    refine ⟨z, rfl, by omega, log_small (by omega) (by omega), by omega, z, rfl, by omega, ?_⟩
    have e4 : Str.ofString (toString (z.length : Int)) ++ Str.ofString ":" ++ z = ⟨(txt (.str z)).toArray⟩ := by
      refine TL.ext_tl ?_
      rw [TL.tl_append, TL.tl_append, TL.tl_num]
      show (dig z.length ++ [58]) ++ TL.tl z = dig z.length ++ 58 :: TL.tl z
      rw [List.append_assoc]; rfl
    rw [e4]
    exact q hp rfl H1 k1 g1
  · have hp : (decide (0 ≤ i) && decide (i ≤ 99999999999999999999)) = true := by rw [decide_eq_true hh.1, decide_eq_true hh.2]; rfl
    refine ⟨_, rfl, ?_⟩
    rw [if_neg (by decide)]
    refine ⟨_, rfl, hG, ⟨_, rfl⟩, fun H1 k1 g1 => ⟨_, rfl, ?_⟩⟩
    rw [show prV (.int i) = false from rfl, if_neg Bool.false_ne_true]
    refine ⟨rfl, _, 0, _, rfl, ⟨_, rfl⟩, _, rfl, ?_⟩
    rw [show inV 0 99999999999999999999 (.int i) = true from hp, if_pos rfl]
    have ei : i = ((i.toNat : Nat) : Int) := by omega
    have dl := dig_len (n := i.toNat) (by omega)
    have e2 : (Str.ofString ".").length = 1 := by decide +kernel
    have e1 : (Str.ofString (toString i)).length ≤ 20 := by rw [ei, toString_S, S_len]; exact dl
    refine ⟨i, rfl, log_small hh.1 hh.2, by omega, ?_⟩
    have e4 : Str.ofString (toString i) ++ Str.ofString "." = ⟨(txt (.int i)).toArray⟩ := by
      refine TL.ext_tl ?_
      rw [TL.tl_append]
      show TL.tl (Str.ofString (toString i)) ++ [46] = dig i.toNat ++ [46]
      rw [show TL.tl (Str.ofString (toString i)) = dig i.toNat by rw [ei]; exact TL.tl_num _]
    rw [e4]
    exact q hp rfl H1 k1 g1
theorem ok_tuple0 (F : Fun K "_tuple_text" "_tuple_text" s_tuple_text f fd) (B : Blt mg) (T : TxtC K mg C td tz tt) : FnOk P w K mg base (L2.CX P w) 4 f fd ["parts", "levels"] (spTup C Pt 0) := by
  refine F.okX sc_tuple_text (fun vs H Q E h => ?_) (fun cdv A outer s H vs Q E hr h => ?_)
  · obtain ⟨v, t, rfl, _⟩ := h; rfl
  obtain ⟨a, ts, rfl, hR, hs, hG, q, qe⟩ := h
  refine ⟨_, pss_cons (ps_if (pt_cmpR op_eq (pv 1) pe_int (nomark _)) (pss_one (T.bad.raise (takes_of rfl rfl rfl rfl))) pss_nil) pss_never, ?_⟩
  walk_at "wp"
  rw [if_pos (by rfl)]
  exact qe (fun z => by have : false = true := z.1; cases this) H (Kp.refl _ _) hG
theorem ok_tuple {n : Nat} {j : Nat} (hj : 4 ≤ j) (F : Fun K "_tuple_text" "_tuple_text" s_tuple_text f fd) (B : Blt mg) (T : TxtC K mg C td tz tt) (c_text_of : Cal P w K mg base (L2.CX P w) j "_text_of" (spText C Pt n)) : FnOk P w K mg base (L2.CX P w) (j + 1) f fd ["parts", "levels"] (spTup C Pt (n + 1)) := by
  refine F.okX sc_tuple_text (fun vs H Q E h => ?_) (fun cdv A outer s H vs Q E hr h => ?_)
  · obtain ⟨v, t, rfl, _⟩ := h; rfl
  obtain ⟨a, ts, rfl, hR, hs, hG, q, qe⟩ := h
  refine ⟨_, (pss_cons (ps_if (pt_cmpR op_eq (pv 1) pe_int (nomark _)) (pss_one (T.bad.raise (takes_of rfl rfl rfl rfl))) pss_nil)
    (pss_cons (ps_set (i := 2) sc_tuple_text.nd rfl (Or.inl rfl) (pe_lst pa_nil))
    (pss_cons (ps_set (i := 3) sc_tuple_text.nd rfl (Or.inl rfl) (B.len_s (pa_cons pe_str pa_nil)))
    (pss_cons (ps_for (passes_of rfl) rfl (pi_tup (pv 0)) (pg_name (i := 4) sc_tuple_text.nd rfl (Or.inl rfl)) (pss_cons (ps_set (i := 5) sc_tuple_text.nd rfl (Or.inl rfl) (c_text_of.pex hr (passX (takes_of rfl rfl rfl rfl) fun _ _ _ _ h => h) (pa_cons (pv 4) (pa_cons (pe_op op_sub (pv 1) pe_int) pa_nil))))
    (pss_cons (ps_aug (i := 3) sc_tuple_text.nd rfl (Or.inl rfl) (B.len_s (pa_cons (pv 5) pa_nil)) ip_add)
    (pss_cons (ps_if (pt_cmpR op_gt (pv 3) (pe_cI T.mt) (nomark _)) (pss_one (T.bad.raise (takes_of rfl rfl rfl rfl))) pss_nil)
    (pss_one (ps_expr (pe_bm PySem.F.plainAttrs_list PySem.F.slot_list_append PySem.F.type_list_append mt_append (pv 2) (pa_cons (pv 5) pa_nil))))))))
    (pss_one (ps_ret (pe_op op_add_str (pe_op op_add_str pe_str (pe_join pe_str (pv 2))) pe_str))))))), ?_⟩
  walk_at "wp"
  have lim : sizeLine = 16777216 := sizeLine_eq
  rw [if_neg (by omega)]
  refine ⟨Nat.zero_le _, fun p hp => ⟨by decide +kernel, ?_⟩⟩
  cases hR with
  | tup e hA =>
  rename_i xs
  have hs' : (smls ts && decide (ts.length ≤ 1000000)) = true := hs
  rw [Bool.and_eq_true, decide_eq_true_eq] at hs'
  have xl := hA.len
  refine ⟨_, rfl, a, rfl, ⟨xs, SqT.of (by rw [upd_ne (ne_of_none e hp)]; exact e)⟩, for_tup (K := K) (a := a) (xs := xs)
    (fun i σ H' => (∃ o4 o5 : Option V, σ = [some (.ref a), some (.int ((n + 1 : Nat) : Int)), some (.ref p), some (.int ((txts (ts.take i)).length + 2)), o4, o5]) ∧ pls n (ts.take i) = true ∧ fits (ts.take i) = true ∧ (txts (ts.take i)).length + 2 ≤ 100000 ∧
      H' p = some (.lst ((tys (ts.take i)).map V.str)) ∧ Kp [Pt] H H' ∧ GxR.TabG H' Pt)
    ⟨⟨none, none, rfl⟩, rfl, rfl, (by show 0 + 2 ≤ 100000; decide), upd_same, Kp.new hp _, TabG.upd hG (fun z => by subst z; obtain ⟨ps, q1, _⟩ := hG; rw [hp] at q1; cases q1)⟩
    (fun i σ H' _ ⟨_, _, _, _, _, k, _⟩ => SqT.of (k.tup _ _ e)) (fun i x σ H' hx ⟨⟨o4, o5, hσ⟩, i1, i2, i3, i4, k, g⟩ => ?_) (fun σ H' ⟨⟨o4, o5, hσ⟩, i1, i2, i3, i4, k, g⟩ => ?_)⟩
  · subst hσ
    obtain ⟨t, ht, hRt⟩ := hA.get hx
    have hm := List.mem_of_getElem? ht
    have e1 := take_one ht
    walk_at "wp"
    refine ⟨x, t, by rw [show ((n + 1 : Nat) : Int) - 1 = n by omega], hRt.kp k hG, smls_mem hs'.1 hm, g, fun p1 p2 H2 k2 g2 => ?_, fun hn H2 k2 g2 => ?_⟩
    · have := txt_size p1 p2 (smls_mem hs'.1 hm)
      have il : (txts (ts.take (i + 1))).length = (txts (ts.take i)).length + (txt t).length := by
        rw [e1, txts_app, List.length_append]
        show _ + (txt t ++ []).length = _
        rw [List.append_nil]
      walk_at "wp"
      have i5 := k2.keep p _ (by simpa using TabG.ne_lst g i4) i4
      refine ⟨by rw [S_len]; omega, ?_⟩
      rw [S_len]
      by_cases c : (txts (ts.take (i + 1))).length + 2 ≤ 100000
      · rw [if_neg (by omega)]
        have tl1 : (ts.take i).length ≤ 1000000 := by rw [List.length_take]; omega
        refine ⟨.inl ⟨rfl, _, SqL.of i5⟩, _, i5, by rw [List.length_map]; unfold tys; rw [List.length_map]; omega, by omega, ⟨_, rfl⟩, ?_, ?_, c, ?_, (k.trans k2).upd hp i5, TabG.upd g2 (TabG.ne_lst g2 i5)⟩
        · rw [e1, pls_app, i1]
          show (true && (pl n t && true)) = true
          rw [p1]; rfl
        · rw [e1, fits_app, i2]
          show (true && (fit t && true)) = true
          rw [p2]; rfl
        · rw [e1, tys_app, List.map_append]
          rfl
      · rw [if_pos (by omega)]
        refine qe (fun z => c ?_) H2 (k.trans k2) g2
        have z2 : (fits ts && decide ((txts ts).length + 2 ≤ 100000)) = true := z.2
        rw [Bool.and_eq_true, decide_eq_true_eq] at z2
        have := take_le ts (i + 1)
        omega
    · refine qe (fun z => hn ⟨?_, ?_⟩) H2 (k.trans k2) g2
      · exact pls_mem (show pls n ts = true from z.1) hm
      · have z2 : (fits ts && decide ((txts ts).length + 2 ≤ 100000)) = true := z.2
        rw [Bool.and_eq_true] at z2
        exact fits_mem z2.1 hm
  · subst hσ
    rw [xl, List.take_length] at i1 i2 i3 i4
    walk_at "wp"
    refine ⟨⟨_, rfl⟩, tys ts, .inl (SqL.of i4), ?_, ?_, ?_, ?_⟩
    · rw [tys_sum]
      show _ + (tys ts).length * 0 ≤ _
      omega
    · have : (Str.ofString "[").length = 1 := by decide +kernel
      rw [this, TL.len_tl, tl_tys]; omega
    · have h2 : (Str.ofString "]").length = 1 := by decide +kernel
      have h1 : (Str.ofString "[").length = 1 := by decide +kernel
      rw [TL.len_tl, TL.tl_append, List.length_append, ← TL.len_tl, h1, tl_tys, h2]; omega
    · have e4 : Str.ofString "[" ++ Txt.join (Str.ofString "") (tys ts) ++ Str.ofString "]" = ⟨(txt (.tup ts)).toArray⟩ := by
        refine TL.ext_tl ?_
        rw [TL.tl_append, TL.tl_append, tl_tys]
        rfl
      rw [e4]
      refine q i1 ?_ H' k g
      show (fits ts && decide ((txts ts).length + 2 ≤ 100000)) = true
      rw [i2, decide_eq_true i3]
      rfl
end

/-! decode and its helpers -/
abbrev s_decode : Stmt := top 25
abbrev N_decode : List Str := ["text", "value", "end"]
theorem sc_decode : FnScope N_decode ["text"] (defScope s_decode) := ⟨rfl, rfl, rfl, by decide +kernel, rfl, by decide +kernel, by decide +kernel⟩
abbrev s_end_of_digits : Stmt := top 32
abbrev N_end_of_digits : List Str := ["text", "start", "end"]
theorem sc_end_of_digits : FnScope N_end_of_digits ["text", "start"] (defScope s_end_of_digits) := ⟨rfl, rfl, rfl, by decide +kernel, rfl, by decide +kernel, by decide +kernel⟩
abbrev s_number_of : Stmt := top 33
abbrev N_number_of : List Str := ["digits"]
theorem sc_number_of : FnScope N_number_of ["digits"] (defScope s_number_of) := ⟨rfl, rfl, rfl, by decide +kernel, rfl, by decide +kernel, by decide +kernel⟩
abbrev s_string_at : Stmt := top 31
abbrev N_string_at : List Str := ["text", "start", "length", "end"]
theorem sc_string_at : FnScope N_string_at ["text", "start", "length"] (defScope s_string_at) := ⟨rfl, rfl, rfl, by decide +kernel, rfl, by decide +kernel, by decide +kernel⟩
abbrev s_value_at : Stmt := top 29
abbrev N_value_at : List Str := ["text", "start", "levels", "end", "number", "sign"]
theorem sc_value_at : FnScope N_value_at ["text", "start", "levels"] (defScope s_value_at) := ⟨rfl, rfl, rfl, by decide +kernel, rfl, by decide +kernel, by decide +kernel⟩
abbrev s_tuple_at : Stmt := top 30
abbrev N_tuple_at : List Str := ["text", "start", "levels", "parts", "at", "part"]
theorem sc_tuple_at : FnScope N_tuple_at ["text", "start", "levels"] (defScope s_tuple_at) := ⟨rfl, rfl, rfl, by decide +kernel, rfl, by decide +kernel, by decide +kernel⟩
section
variable {P : Program} {w : World} {K : PySem.W.Frag} {mg : Str → Option Value} {base : Heap} {f : Addr} {fd : FuncData} {C Pt : Addr} {td tz tt : Tok}
def spEod : Sp := fun vs H Q _ => ∃ (z : Str) (s : Nat), vs = [.str z, .int s] ∧ z.length ≤ 1000000 ∧ s ≤ z.length ∧ Q (.int ((s + (((TL.tl z).drop s).takeWhile isD).length : Nat) : Int)) H
def spNum (C : Addr) : Sp := fun vs H Q E => ∃ d : Str, vs = [.str d] ∧ d.length ≤ 1000000 ∧ (∀ c ∈ TL.tl d, isD c = true) ∧ (goodD (TL.tl d) = true → Q (.int (val (TL.tl d))) H) ∧ (goodD (TL.tl d) = false → E (.ref C) none H)
def spStrAt (C : Addr) : Sp := fun vs H Q E => ∃ (z : Str) (s n : Nat), vs = [.str z, .int s, .int n] ∧ z.length ≤ 1000000 ∧ s ≤ z.length ∧
  (s + n ≤ z.length → ∀ p, H p = none → Q (.ref p) (upd H p (.tup [.str ⟨(((TL.tl z).drop s).take n).toArray⟩, .int ((s + n : Nat) : Int)]))) ∧ (¬ s + n ≤ z.length → E (.ref C) none H)
def spVal (C : Addr) (n : Nat) : Sp := fun vs H Q E => ∃ (z : Str) (s : Nat), vs = [.str z, .int s, .int n] ∧ z.length ≤ 100000 ∧ s ≤ z.length ∧
  (∀ t r, pval n ((TL.tl z).drop s) = some (t, r) → ∀ (p : Addr) (v : V) (e : Nat) (H' : Hp), Kp [] H H' → H' p = some (.tup [v, .int e]) → Rep H' v t → e ≤ z.length → (TL.tl z).drop e = r → Q (.ref p) H') ∧
  (pval n ((TL.tl z).drop s) = none → ∀ H', Kp [] H H' → E (.ref C) none H')
/-- _tuple_at behind its opening bracket -/
def spTupAt (C : Addr) (n : Nat) : Sp := fun vs H Q E => ∃ (z : Str) (s : Nat), vs = [.str z, .int s, .int n] ∧ z.length ≤ 100000 ∧ s ≤ z.length ∧
  (∀ t r, pval n (91 :: (TL.tl z).drop s) = some (t, r) → ∀ (p : Addr) (v : V) (e : Nat) (H' : Hp), Kp [] H H' → H' p = some (.tup [v, .int e]) → Rep H' v t → e ≤ z.length → (TL.tl z).drop e = r → Q (.ref p) H') ∧
  (pval n (91 :: (TL.tl z).drop s) = none → ∀ H', Kp [] H H' → E (.ref C) none H')
/-- decode(v): the tree whose text it is; or a BadText -/
def spDec (C Pt : Addr) : Sp := fun vs H Q E => ∃ v : V, vs = [v] ∧ (∃ t, tyN H v = some t) ∧ (∀ z, v = .str z → z.length ≤ 10000000) ∧ GxR.TabG H Pt ∧
  (∀ z t, v = .str z → z.length ≤ 100000 → prn z = true → pval 8 (TL.tl z) = some (t, []) → ∀ (u : V) (H' : Hp), Kp [Pt] H H' → GxR.TabG H' Pt → Rep H' u t → Q u H') ∧
  ((∀ z t, v = .str z → z.length ≤ 100000 → prn z = true → pval 8 (TL.tl z) ≠ some (t, [])) → ∀ H', Kp [Pt] H H' → GxR.TabG H' Pt → E (.ref C) none H')
theorem ok_eod (F : Fun K "_end_of_digits" "_end_of_digits" s_end_of_digits f fd) (B : Blt mg) : FnOk P w K mg base CX0 1 f fd ["text", "start"] spEod := by
  refine F.ok sc_end_of_digits (fun vs H Q E h => ?_) (fun cdv A outer s H vs Q E hr h => ?_)
  · obtain ⟨v, t, rfl, _⟩ := h; rfl
  obtain ⟨z, st, rfl, hz, hs, q⟩ := h
  refine ⟨_, (pss_cons (ps_set (i := 2) sc_end_of_digits.nd rfl (Or.inl rfl) (pv 1))
    (pss_cons (ps_while PassesOwn.never (pt_chain op_le_str op_le_str pe_str (pe_slice sl_str (pv 0) (po_some (pv 2)) (po_some (pe_op op_add (pv 2) pe_int))) pe_str) (pss_one (ps_aug (i := 2) sc_end_of_digits.nd rfl (Or.inl rfl) pe_int ip_add)))
    (pss_one (ps_ret (pv 2))))), ?_⟩
  walk_at "wp"
  refine ⟨fun m σ H' => H' = H ∧ ∃ k : Nat, k ≤ (((TL.tl z).drop st).takeWhile isD).length ∧ σ = [some (.str z), some (.int st), some (.int ((st + k : Nat) : Int))] ∧ m = (((TL.tl z).drop st).takeWhile isD).length - k, ⟨_, rfl, 0, Nat.zero_le _, rfl, rfl⟩, ?_⟩
  rintro m σ H' ⟨rfl, k, hk, rfl, rfl⟩
  walk_at "wp"
  have lim : sizeLine = 16777216 := sizeLine_eq
  refine ⟨by omega, ?_⟩
  have ct := cut_one z (st + k)
  rw [show (TL.tl z).drop (st + k) = ((TL.tl z).drop st).drop k by rw [List.drop_drop]] at ct
  rcases tw_next _ k hk with ⟨c, r, e, hc, hlt⟩ | ⟨he, e⟩
  · have hc := isD_iff.mp hc
    rw [e] at ct
    rw [if_pos (fun z => by
      rcases (lt48 ct).mp z with q | ⟨c', r', q, q2⟩
      · cases q
      · injection q with q _; omega), if_pos (fun z => by have := (lt57 ct).mp z; omega)]
    exact ⟨fun σ' H'' => H'' = H' ∧ σ' = [some (.str z), some (.int st), some (.int ((st + (k + 1) : Nat) : Int))], fun σ' H'' ⟨q1, q2⟩ => ⟨_, by omega, q1, k + 1, hlt, q2, rfl⟩, rfl, rfl⟩
  · rw [← he] at q
    rcases e with e | ⟨c, r, e, hc⟩
    · rw [e] at ct
      rw [if_neg (fun z => z ((lt48 ct).mpr (.inl rfl)))]
      exact q
    · rw [e] at ct
      by_cases c1 : c < 48
      · rw [if_neg (fun z => z ((lt48 ct).mpr (.inr ⟨c, r, rfl, c1⟩)))]
        exact q
      · rw [if_pos (fun z => by
          rcases (lt48 ct).mp z with q | ⟨c', r', q, q2⟩
          · cases q
          · injection q with q _; omega), if_neg (fun z => z ((lt57 ct).mpr (by
          rcases Nat.lt_or_ge 57 c with h | h
          · exact h
          · have := isD_iff.mpr ⟨Nat.not_lt.mp c1, h⟩; rw [hc] at this; cases this)))]
        exact q
theorem ok_number (F : Fun K "_number_of" "_number_of" s_number_of f fd) (B : Blt mg) (T : TxtC K mg C td tz tt) : FnOk P w K mg base (L2.CX P w) 2 f fd ["digits"] (spNum C) := by
  refine F.okX sc_number_of (fun vs H Q E h => ?_) (fun cdv A outer s H vs Q E hr h => ?_)
  · obtain ⟨v, rfl, _⟩ := h; rfl
  obtain ⟨d, rfl, hl, hd, q, qe⟩ := h
  refine ⟨_, (pss_cons (ps_if (PW.pt (pw_or (pt_cmpR op_eq (pv 0) pe_str (nomark _)) (pw_or1 (pt_cmpR op_gt (B.len_s (pa_cons (pv 0) pa_nil)) (pe_cI T.dg) (nomark _))))) (pss_one (T.bad.raise (takes_of rfl rfl rfl rfl))) pss_nil)
    (pss_cons (ps_if (PW.pt (pw_and (pt_cmpR op_eq (pe_ix ix_str (pv 0) pe_int (fun _ _ => rfl)) pe_str (nomark _)) (pw_and1 (pt_cmpR op_ne (pv 0) pe_str (nomark _))))) (pss_one (T.bad.raise (takes_of rfl rfl rfl rfl))) pss_nil)
    (pss_one (ps_ret (B.int_s (pa_cons (pv 0) pa_nil)))))), ?_⟩
  walk_at "wp"
  have lim : sizeLine = 16777216 := sizeLine_eq
  by_cases c0 : d = Str.ofString ""
  · rw [if_pos c0]
    exact qe (by rw [c0]; decide +kernel)
  · rw [if_neg c0]
    refine ⟨by omega, ?_⟩
    have dl : (TL.tl d).length = d.length := (TL.len_tl d).symm
    by_cases c1 : d.length ≤ 20
    · rw [if_neg (by omega)]
      have ne : TL.tl d ≠ [] := fun z => c0 (TL.ext_tl (by rw [z]; rfl))
      obtain ⟨a, r, ea⟩ := List.exists_cons_of_ne_nil ne
      refine ⟨d, 0, a, rfl, rfl, by omega, by rw [show d.cps.toList = a :: r from ea]; exact at0, ?_⟩
      have it : PySem.intText? d = some ((val (TL.tl d) : Nat) : Int) := intText_digits (fun c hc => by have := isD_iff.mp (hd c hc); exact ⟨by omega, by omega⟩) ne (by omega)
      have e48 : Str.ofString "0" = ⟨#[48]⟩ := by decide +kernel
      refine ⟨rfl, ?_⟩
      by_cases ha : a = 48
      · subst ha
        rw [if_pos (by rw [e48])]
        by_cases cd : d = Str.ofString "0"
        · rw [if_neg (by rw [cd]; simp)]
          exact ⟨_, it, by omega, q (by rw [cd]; decide +kernel)⟩
        · rw [if_pos (by simp [cd])]
          refine qe ?_
          unfold goodD
          have : (TL.tl d == [48]) = false := by
            simp only [beq_eq_false_iff_ne, ne_eq]
            intro z
            exact cd (TL.ext_tl (by rw [z]; decide +kernel))
          rw [this, ea]
          simp
      · rw [if_neg (by rw [e48]; intro z; injection z with z; injection z with z; injection z with z; injection z with z; exact ha z)]
        refine ⟨_, it, by omega, q ?_⟩
        unfold goodD
        rw [decide_eq_true (by omega), ea]
        simp [ha]
    · rw [if_pos (by omega)]
      refine qe ?_
      unfold goodD
      rw [decide_eq_false (by omega)]
      simp
theorem ok_string_at (F : Fun K "_string_at" "_string_at" s_string_at f fd) (B : Blt mg) (T : TxtC K mg C td tz tt) : FnOk P w K mg base (L2.CX P w) 2 f fd ["text", "start", "length"] (spStrAt C) := by
  refine F.okX sc_string_at (fun vs H Q E h => ?_) (fun cdv A outer s H vs Q E hr h => ?_)
  · obtain ⟨v, _, _, rfl, _⟩ := h; rfl
  obtain ⟨z, st, n, rfl, hz, hs, q, qe⟩ := h
  refine ⟨_, (pss_cons (ps_set (i := 3) sc_string_at.nd rfl (Or.inl rfl) (pe_op op_add (pv 1) (pv 2)))
    (pss_cons (ps_if (pt_cmpR op_gt (pv 3) (B.len_s (pa_cons (pv 0) pa_nil)) (nomark _)) (pss_one (T.bad.raise (takes_of rfl rfl rfl rfl))) pss_nil)
    (pss_one (ps_ret (pe_tup (pa_cons (pe_slice sl_str (pv 0) (po_some (pv 1)) (po_some (pv 3))) (pa_cons (pv 3) pa_nil))))))), ?_⟩
  walk_at "wp"
  have lim : sizeLine = 16777216 := sizeLine_eq
  refine ⟨by omega, ?_⟩
  by_cases c : st + n ≤ z.length
  · rw [if_neg (by omega)]
    refine ⟨by omega, by decide, fun p hp => ?_⟩
    have e : cutS z (some (st : Int)) (some ((st : Int) + (n : Int))) = ⟨(((TL.tl z).drop st).take n).toArray⟩ := by
      refine TL.ext_tl ?_
      have h := cut_nat z (a := st) (b := st + n) (by omega)
      rw [show st + n - st = n by omega] at h
      exact h
    rw [e]
    exact q c p hp
  · rw [if_pos (by omega)]
    exact qe c
theorem ok_value_at {n j : Nat} (hj : 4 ≤ j) (F : Fun K "_value_at" "_value_at" s_value_at f fd) (B : Blt mg) (T : TxtC K mg C td tz tt) (c_end_of_digits : Cal P w K mg base CX0 1 "_end_of_digits" spEod) (c_number_of : Cal P w K mg base (L2.CX P w) 2 "_number_of" (spNum C))
    (c_string_at : Cal P w K mg base (L2.CX P w) 2 "_string_at" (spStrAt C)) (c_tuple_at : Cal P w K mg base (L2.CX P w) j "_tuple_at" (spTupAt C n)) : FnOk P w K mg base (L2.CX P w) (j + 1) f fd ["text", "start", "levels"] (spVal C n) := by
  refine F.okX sc_value_at (fun vs H Q E h => ?_) (fun cdv A outer s H vs Q E hr h => ?_)
  · obtain ⟨v, _, rfl, _⟩ := h; rfl
  obtain ⟨z, st, rfl, hz, hs, q, qe⟩ := h
  refine ⟨_, (pss_cons (ps_if (pt_cmpR op_eq (pe_slice sl_str (pv 0) (po_some (pv 1)) (po_some (pe_op op_add (pv 1) pe_int))) pe_str (nomark _)) (pss_one (ps_ret (c_tuple_at.pex hr (passX (takes_of rfl rfl rfl rfl) fun _ _ _ _ h => h) (pa_cons (pv 0) (pa_cons (pe_op op_add (pv 1) pe_int) (pa_cons (pv 2) pa_nil)))))) pss_nil)
    (pss_cons (ps_set (i := 3) sc_value_at.nd rfl (Or.inl rfl) (c_end_of_digits.pe hr (pa_cons (pv 0) (pa_cons (pv 1) pa_nil))))
    (pss_cons (ps_set (i := 4) sc_value_at.nd rfl (Or.inl rfl) (c_number_of.pex hr (passX (takes_of rfl rfl rfl rfl) fun _ _ _ _ h => h) (pa_cons (pe_slice sl_str (pv 0) (po_some (pv 1)) (po_some (pv 3))) pa_nil)))
    (pss_cons (ps_set (i := 5) sc_value_at.nd rfl (Or.inl rfl) (pe_slice sl_str (pv 0) (po_some (pv 3)) (po_some (pe_op op_add (pv 3) pe_int))))
    (pss_cons (ps_if (pt_cmpR op_eq (pv 5) pe_str (nomark _)) (pss_one (ps_ret (pe_tup (pa_cons (pv 4) (pa_cons (pe_op op_add (pv 3) pe_int) pa_nil))))) pss_nil)
    (pss_cons (ps_if (pt_cmpR op_eq (pv 5) pe_str (nomark _)) (pss_one (ps_ret (c_string_at.pex hr (passX (takes_of rfl rfl rfl rfl) fun _ _ _ _ h => h) (pa_cons (pv 0) (pa_cons (pe_op op_add (pv 3) pe_int) (pa_cons (pv 4) pa_nil)))))) pss_nil)
    (pss_one (T.bad.raise (takes_of rfl rfl rfl rfl))))))))), ?_⟩
  walk_at "wp"
  have lim : sizeLine = 16777216 := sizeLine_eq
  have zl : (TL.tl z).length = z.length := (TL.len_tl z).symm
  have e1 : Str.ofString "[" = ⟨#[91]⟩ := by decide +kernel
  have e2 : Str.ofString "." = ⟨#[46]⟩ := by decide +kernel
  have e3 : Str.ofString ":" = ⟨#[58]⟩ := by decide +kernel
  rw [e1, e2, e3]
  refine ⟨by omega, ?_⟩
  have o1 := one_sign_eq (c := 91) (cut_one z st)
  by_cases c1 : cutS z (some (st : Int)) (some ((st : Int) + 1)) = ⟨#[91]⟩
  · rw [if_pos c1]
    have hd := o1.mp c1
    have lt : st < z.length := by
      rcases Nat.lt_or_ge st z.length with h | h
      · exact h
      · rw [List.drop_eq_nil_of_le (by omega)] at hd; cases hd
    obtain ⟨a, e⟩ := TL.getElem_drop_cons (L := TL.tl z) (a := st) (by omega)
    rw [e] at hd
    have ha : a = 91 := Option.some.inj hd
    subst ha
    rw [e] at q qe
    exact ⟨z, st + 1, rfl, hz, lt, q, qe⟩
  · rw [if_neg c1]
    have hd : ((TL.tl z).drop st).head? ≠ some 91 := fun h => c1 (o1.mpr h)
    have pl0 : pval n ((TL.tl z).drop st) = leaf ((TL.tl z).drop st) := pval_leaf fun r e => hd (by rw [e]; rfl)
    rw [pl0] at q qe
    obtain ⟨tk1, tk2⟩ := takeWhile_take ((TL.tl z).drop st)
    refine ⟨z, st, rfl, by omega, hs, _, rfl, by omega, ?_⟩
    have twl : (((TL.tl z).drop st).takeWhile isD).length ≤ z.length - st := by
      have := List.takeWhile_sublist isD (l := (TL.tl z).drop st) |>.length_le
      rw [List.length_drop] at this
      omega
    generalize hk : (((TL.tl z).drop st).takeWhile isD).length = k at tk1 tk2 twl ⊢
    have ed : (TL.tl z).drop (st + k) = ((TL.tl z).drop st).dropWhile isD := by rw [← tk2, List.drop_drop]
    have ec : TL.tl (cutS z (some (st : Int)) (some ((st + k : Nat) : Int))) = ((TL.tl z).drop st).takeWhile isD := by
      rw [cut_nat z (by omega), show st + k - st = k by omega, tk1]
    refine ⟨_, rfl, ?_, ?_, fun g => ?_, fun g => ?_⟩
    · rw [TL.len_tl, ec, hk]; omega
    · rw [ec]; exact takeD _
    · rw [ec] at g ⊢
      refine ⟨_, rfl, _, rfl, by omega, ?_⟩
      have lf : leaf ((TL.tl z).drop st) = match ((TL.tl z).drop st).dropWhile isD with
          | 46 :: r => some (.int (val (((TL.tl z).drop st).takeWhile isD)), r)
          | 58 :: r => if val (((TL.tl z).drop st).takeWhile isD) ≤ r.length then some (.str ⟨(r.take (val (((TL.tl z).drop st).takeWhile isD))).toArray⟩, r.drop (val (((TL.tl z).drop st).takeWhile isD))) else none
          | _ => none := by unfold leaf; rw [if_pos g]; try rfl
      generalize val (((TL.tl z).drop st).takeWhile isD) = vv at lf ⊢
      rw [← ed] at lf
      have o2 := one_sign_eq (c := 46) (cut_one z (st + k))
      have o3 := one_sign_eq (c := 58) (cut_one z (st + k))
      have lt : ∀ {c}, ((TL.tl z).drop (st + k)).head? = some c → st + k < z.length ∧ (TL.tl z).drop (st + k) = c :: (TL.tl z).drop (st + k + 1) := fun {c} h => by
        have l : st + k < z.length := by
          rcases Nat.lt_or_ge (st + k) z.length with h' | h'
          · exact h'
          · rw [List.drop_eq_nil_of_le (by omega)] at h; cases h
        obtain ⟨a, e⟩ := TL.getElem_drop_cons (L := TL.tl z) (a := st + k) (by omega)
        rw [e] at h
        rw [e, Option.some.inj h]
        exact ⟨l, rfl⟩
      by_cases c2 : cutS z (some ((st + k : Nat) : Int)) (some (((st + k : Nat) : Int) + 1)) = ⟨#[46]⟩
      · rw [if_pos c2]
        obtain ⟨l, e⟩ := lt (o2.mp c2)
        rw [e] at lf
        refine ⟨_, rfl, by decide, fun p hp => ?_⟩
        exact q _ _ lf p _ (st + k + 1) _ (Kp.new hp _) upd_same (.int _) (by omega) rfl
      · rw [if_neg c2]
        by_cases c3 : cutS z (some ((st + k : Nat) : Int)) (some (((st + k : Nat) : Int) + 1)) = ⟨#[58]⟩
        · rw [if_pos c3]
          obtain ⟨l, e⟩ := lt (o3.mp c3)
          rw [e] at lf
          have rl : ((TL.tl z).drop (st + k + 1)).length = z.length - (st + k + 1) := by rw [List.length_drop, zl]
          refine ⟨_, rfl, z, st + k + 1, vv, rfl, by omega, by omega, fun h p hp => ?_, fun h => ?_⟩
          · have lf : leaf _ = if vv ≤ ((TL.tl z).drop (st + k + 1)).length then _ else _ := lf
            rw [if_pos (by omega)] at lf
            exact q _ _ lf p _ (st + k + 1 + vv) _ (Kp.new hp _) upd_same (.str _) (by omega) (by rw [List.drop_drop])
          · have lf : leaf _ = if vv ≤ ((TL.tl z).drop (st + k + 1)).length then _ else _ := lf
            rw [if_neg (by omega)] at lf
            exact qe lf H (Kp.refl _ _)
        · rw [if_neg c3]
          refine qe ?_ H (Kp.refl _ _)
          rw [lf]
          split
          · rename_i r e; exact absurd (o2.mpr (by rw [e]; rfl)) c2
          · rename_i r e; exact absurd (o3.mpr (by rw [e]; rfl)) c3
          · rfl
    · rw [ec] at g
      refine qe ?_ H (Kp.refl _ _)
      unfold leaf
      rw [g, if_neg Bool.false_ne_true]
theorem ok_tuple_at0 (F : Fun K "_tuple_at" "_tuple_at" s_tuple_at f fd) (B : Blt mg) (T : TxtC K mg C td tz tt) : FnOk P w K mg base (L2.CX P w) 4 f fd ["text", "start", "levels"] (spTupAt C 0) := by
  refine F.okX sc_tuple_at (fun vs H Q E h => ?_) (fun cdv A outer s H vs Q E hr h => ?_)
  · obtain ⟨v, t, rfl, _⟩ := h; rfl
  obtain ⟨z, st, rfl, hz, hs, q, qe⟩ := h
  refine ⟨_, pss_cons (ps_if (pt_cmpR op_eq (pv 2) pe_int (nomark _)) (pss_one (T.bad.raise (takes_of rfl rfl rfl rfl))) pss_nil) pss_never, ?_⟩
  walk_at "wp"
  rw [if_pos (by rfl)]
  exact qe rfl H (Kp.refl _ _)
theorem ok_tuple_at {n j : Nat} (hj : 4 ≤ j) (F : Fun K "_tuple_at" "_tuple_at" s_tuple_at f fd) (B : Blt mg) (T : TxtC K mg C td tz tt) (c_value_at : Cal P w K mg base (L2.CX P w) j "_value_at" (spVal C n)) : FnOk P w K mg base (L2.CX P w) (j + 1) f fd ["text", "start", "levels"] (spTupAt C (n + 1)) := by
  refine F.okX sc_tuple_at (fun vs H Q E h => ?_) (fun cdv A outer s H vs Q E hr h => ?_)
  · obtain ⟨v, t, rfl, _⟩ := h; rfl
  obtain ⟨z, st, rfl, hz, hs, q, qe⟩ := h
  refine ⟨_, (pss_cons (ps_if (pt_cmpR op_eq (pv 2) pe_int (nomark _)) (pss_one (T.bad.raise (takes_of rfl rfl rfl rfl))) pss_nil)
    (pss_cons (ps_set (i := 3) sc_tuple_at.nd rfl (Or.inl rfl) (pe_lst pa_nil))
    (pss_cons (ps_set (i := 4) sc_tuple_at.nd rfl (Or.inl rfl) (pv 1))
    (pss_cons (ps_while (passes_of rfl) (pt_cmpR op_ne (pe_slice sl_str (pv 0) (po_some (pv 4)) (po_some (pe_op op_add (pv 4) pe_int))) pe_str (nomark _)) (pss_cons (ps_asg (c_value_at.pex hr (passX (takes_of rfl rfl rfl rfl) fun _ _ _ _ h => h) (pa_cons (pv 0) (pa_cons (pv 4) (pa_cons (pe_op op_sub (pv 2) pe_int) pa_nil)))) (pg_tup rfl (pgs_cons (pg_name (i := 5) sc_tuple_at.nd rfl (Or.inl rfl)) (pgs_cons (pg_name (i := 4) sc_tuple_at.nd rfl (Or.inl rfl)) pgs_nil))))
    (pss_one (ps_expr (pe_bm PySem.F.plainAttrs_list PySem.F.slot_list_append PySem.F.type_list_append mt_append (pv 3) (pa_cons (pv 5) pa_nil))))))
    (pss_one (ps_ret (pe_tup (pa_cons (B.tuple_l (pa_cons (pv 3) pa_nil)) (pa_cons (pe_op op_add (pv 4) pe_int) pa_nil))))))))), ?_⟩
  walk_at "wp"
  have lim : sizeLine = 16777216 := sizeLine_eq
  have zl : (TL.tl z).length = z.length := (TL.len_tl z).symm
  have e1 : Str.ofString "]" = ⟨#[93]⟩ := by decide +kernel
  rw [if_neg (by omega)]
  rw [pval_br] at q qe
  refine ⟨Nat.zero_le _, fun p hp => ⟨fun m σ H' => ∃ (b : Nat) (us : List V) (ts : List Tr) (o : Option V), σ = [some (.str z), some (.int st), some (.int ((n + 1 : Nat) : Int)), some (.ref p), some (.int b), o] ∧ b ≤ z.length ∧ m = z.length - b ∧ H' p = some (.lst us) ∧ RepAll H' us ts ∧ Kp [] H H' ∧ us.length ≤ b ∧
    itm n ((TL.tl z).drop st) = (itm n ((TL.tl z).drop b)).map (fun x => (ts ++ x.1, x.2)), ⟨_, st, [], [], none, rfl, hs, rfl, upd_same, .nil, Kp.new hp _, Nat.zero_le _, ?_⟩, ?_⟩⟩
  · cases itm n ((TL.tl z).drop st) with
    | none => rfl
    | some x => rfl
  rintro m σ H' ⟨b, us, ts, o, rfl, hb, rfl, hu, hR, k, hl, ev⟩
  rw [e1]
  have o1 := one_sign_eq (c := 93) (cut_one z b)
  walk_at "wt"
  refine ⟨by omega, ?_⟩
  by_cases c1 : cutS z (some (b : Int)) (some ((b : Int) + 1)) = ⟨#[93]⟩
  · rw [if_neg (by simp [c1])]
    have hd := o1.mp c1
    have lt : b < z.length := by
      rcases Nat.lt_or_ge b z.length with h | h
      · exact h
      · rw [List.drop_eq_nil_of_le (by omega)] at hd; cases hd
    obtain ⟨a, e⟩ := TL.getElem_drop_cons (L := TL.tl z) (a := b) (by omega)
    rw [e] at hd
    have ha : a = 93 := Option.some.inj hd
    subst ha
    rw [e, itm_close] at ev
    rw [ev] at q
    walk_at "wp"
    refine ⟨us, .inl ⟨SqL.of hu, fun l hl => ⟨by decide, fun p2 hp2 => ?_⟩⟩⟩
    have k2 : Kp [] H' (upd (upd H' l (.tup us)) p2 (.tup [.ref l, .int ((b : Int) + 1)])) := (Kp.new hl _).trans (Kp.new hp2 _)
    refine q _ _ rfl p2 (.ref l) (b + 1) _ (k.trans k2) upd_same ?_ lt rfl
    show Rep _ _ (.tup (ts ++ []))
    rw [List.append_nil]
    exact .tup (by rw [upd_ne (ne_of_none upd_same hp2)]; exact upd_same) (hR.kp0 k2)
  · rw [if_pos (by simp [c1])]
    have hd : ((TL.tl z).drop b).head? ≠ some 93 := fun h => c1 (o1.mpr h)
    have st1 := itm_step (n := n) hd
    refine ⟨_, fun σ' H'' h => h, ?_⟩
    walk_at "wp"
    refine ⟨z, b, by rw [show ((n + 1 : Nat) : Int) - 1 = n by omega], hz, hb, fun t r hv p2 v e H2 k2 hq hRv he hde => ?_, fun hn H2 k2 => ?_⟩
    · refine ⟨p2, [v, .int e], rfl, SqT.of hq, rfl, v, [.int e], rfl, .int e, [], rfl, rfl, ?_⟩
      have hu2 := k2.keep p _ (by simp) hu
      have dec := pval_dec hv
      rw [← hde, List.length_drop, List.length_drop] at dec
      refine ⟨_, rfl, .inl ⟨rfl, _, SqL.of hu2⟩, _, rfl, p, us, v, rfl, rfl, hu2, by omega, ?_⟩
      refine ⟨z.length - e, by omega, e, us ++ [v], ts ++ [t], some v, rfl, he, rfl, upd_same, ((hR.kp0 k2).updL hu2).app (.cons (hRv.updL hu2) .nil), (k.trans k2).upd hp hu2, by rw [List.length_append]; show us.length + 1 ≤ e; omega, ?_⟩
      rw [ev, st1, hv, hde]
      show Option.map _ ((itm n r).map _) = Option.map _ (itm n r)
      cases itm n r with
      | none => rfl
      | some x => show some (ts ++ (t :: x.1), x.2) = some ((ts ++ [t]) ++ x.1, x.2); rw [List.append_assoc]; rfl
    · refine qe ?_ H2 (k.trans k2)
      rw [ev, st1, hn]
      rfl
theorem ok_decode (F : Fun K "decode" "decode" s_decode f fd) (B : Blt mg) (T : TxtC K mg C td tz tt) (c_is_printable : Cal P w K mg base CX0 3 "is_printable" (spPrn Pt)) (c_value_at : Cal P w K mg base (L2.CX P w) 22 "_value_at" (spVal C 8)) : FnOk P w K mg base (L2.CX P w) 23 f fd ["text"] (spDec C Pt) := by
  refine F.okX sc_decode (fun vs H Q E h => ?_) (fun cdv A outer s H vs Q E hr h => ?_)
  · obtain ⟨v, rfl, _⟩ := h; rfl
  obtain ⟨v, rfl, ⟨t, ht⟩, hz, hG, q, qe⟩ := h
  refine ⟨_, (pss_cons (ps_if (PW.pt (pw_or (pt_not (pt_val (B.isT (pv 0) B.v_str))) (pw_or1 (pt_cmpR op_gt (B.len_s (pa_cons (pv 0) pa_nil)) (pe_cI T.mt) (nomark _))))) (pss_one (T.bad.raise (takes_of rfl rfl rfl rfl))) pss_nil)
    (pss_cons (ps_if (pt_not (pt_val (c_is_printable.pe hr (pa_cons (pv 0) pa_nil)))) (pss_one (T.bad.raise (takes_of rfl rfl rfl rfl))) pss_nil)
    (pss_cons (ps_asg (c_value_at.pex hr (passX (takes_of rfl rfl rfl rfl) fun _ _ _ _ h => h) (pa_cons (pv 0) (pa_cons pe_int (pa_cons (pe_cI T.dp) pa_nil)))) (pg_tup rfl (pgs_cons (pg_name (i := 1) sc_decode.nd rfl (Or.inl rfl)) (pgs_cons (pg_name (i := 2) sc_decode.nd rfl (Or.inl rfl)) pgs_nil))))
    (pss_cons (ps_if (pt_cmpR op_ne (pv 2) (B.len_s (pa_cons (pv 0) pa_nil)) (nomark _)) (pss_one (T.bad.raise (takes_of rfl rfl rfl rfl))) pss_nil)
    (pss_one (ps_ret (pv 1))))))), ?_⟩
  walk_at "wp"
  have lim : sizeLine = 16777216 := sizeLine_eq
  refine ⟨t, ht, ?_⟩
  cases c1 : isaB t "str" with
  | false =>
    rw [if_pos rfl]
    refine qe (fun z u e => ?_) H (Kp.refl _ _) hG
    subst e
    cases ht
    exact absurd c1 (by decide)
  | true =>
    rw [if_neg (by decide)]
    obtain ⟨z, rfl⟩ := isa_str ht c1
    have hz := hz z rfl
    refine ⟨z, rfl, by omega, ?_⟩
    by_cases c2 : z.length ≤ 100000
    · rw [if_neg (by omega)]
      refine ⟨_, rfl, hG, ⟨_, rfl⟩, fun H1 k1 g1 => ⟨_, rfl, ?_⟩⟩
      cases hp : prn z with
      | false =>
        rw [if_pos (show prV (.str z) = false from hp)]
        exact qe (fun z' u e _ hp' => by cases e; rw [hp] at hp'; cases hp') H1 k1 g1
      | true =>
        rw [if_neg (by rw [show prV (.str z) = true from hp]; decide)]
        refine ⟨z, 0, rfl, c2, Nat.zero_le _, fun u r hv p v e H2 k2 hq hR he hd => ?_, fun hv H2 k2 => ?_⟩
        · have zl : (TL.tl z).length = z.length := (TL.len_tl z).symm
          have kk : Kp [Pt] H H2 := k1.trans (k2.mono fun b hb => absurd hb (by simp))
          have gg := tabG_kp g1 k2 (by simp)
          refine ⟨p, [v, .int e], rfl, SqT.of hq, rfl, v, [.int e], rfl, .int e, [], rfl, rfl, ?_⟩
          walk_at "wp"
          refine ⟨by omega, ?_⟩
          rw [List.drop_zero] at hv
          by_cases c3 : e = z.length
          · rw [if_neg (by omega)]
            refine q z u rfl c2 hp ?_ v H2 kk gg hR
            rw [hv, ← hd, List.drop_eq_nil_of_le (by omega)]
          · rw [if_pos (by omega)]
            refine qe (fun z' u' ez _ _ hv' => ?_) H2 kk gg
            cases ez
            rw [hv] at hv'
            injection hv' with hv'
            injection hv' with _ hr
            have := congrArg List.length hr
            rw [← hd, List.length_drop, List.length_nil] at this
            omega
        · refine qe (fun z' u e _ _ hv' => ?_) H2 (k1.trans (k2.mono fun b hb => absurd hb (by simp))) (tabG_kp g1 k2 (by simp))
          cases e
          rw [List.drop_zero] at hv
          rw [hv] at hv'
          cases hv'
    · rw [if_pos (by omega)]
      exact qe (fun z' u e h => by cases e; exact absurd h c2) H (Kp.refl _ _) hG
end

/-! the office -/
abbrev s_Seals___init : Stmt := inClass (top 43) 0
abbrev N_Seals___init : List Str := ["self"]
theorem sc_Seals___init : FnScope N_Seals___init ["self"] (defScope s_Seals___init) := ⟨rfl, rfl, rfl, by decide +kernel, rfl, by decide +kernel, by decide +kernel⟩
abbrev s_Seals_make : Stmt := inClass (top 43) 1
abbrev N_Seals_make : List Str := ["self", "key", "text", "mark"]
theorem sc_Seals_make : FnScope N_Seals_make ["self", "key", "text"] (defScope s_Seals_make) := ⟨rfl, rfl, rfl, by decide +kernel, rfl, by decide +kernel, by decide +kernel⟩
abbrev s_Seals_holds : Stmt := inClass (top 43) 2
abbrev N_Seals_holds : List Str := ["self", "key", "text", "mark"]
theorem sc_Seals_holds : FnScope N_Seals_holds ["self", "key", "text", "mark"] (defScope s_Seals_holds) := ⟨rfl, rfl, rfl, by decide +kernel, rfl, by decide +kernel, by decide +kernel⟩
/-- the mark of a key and a text -/
def mkS (k t : Str) : Str := dgs (k ++ Str.ofString " " ++ t)
def mkO (made : List (Str × Str)) : List (List Key × V) := made.map fun p => ([Sum.inr p.1, Sum.inr p.2], V.str (mkS p.1 p.2))
/-- made with one pair more, if it is a new one -/
def addP (made : List (Str × Str)) (p : Str × Str) : List (Str × Str) := if p ∈ made then made else made ++ [p]
/-- an office at o, its dict at dm, made the pairs that signed -/
structure Ofc (C o dm : Addr) (made : List (Str × Str)) (H : Hp) : Prop where
  ob : ∃ dx, H o = some (.ins C dx [("_marks", .ref dm)])
  dc : H dm = some (.dT (mkO made))
theorem mkO_val (k t : Str) : ∀ made : List (Str × Str), valV (mkO made) ([Sum.inr k, Sum.inr t] : List Key) = if (k, t) ∈ made then some (.str (mkS k t)) else none
  | [] => rfl
  | p :: r => by
    have ih := mkO_val k t r
    show valV (([Sum.inr p.1, Sum.inr p.2], V.str (mkS p.1 p.2)) :: mkO r) _ = _
    by_cases e : (k, t) = p
    · subst e
      rw [if_pos List.mem_cons_self]
      exact valV_pos rfl
    · rw [valV_neg (fun z => e (by
        have z : ([Sum.inr p.1, Sum.inr p.2] : List Key) = [Sum.inr k, Sum.inr t] := z
        simp only [List.cons.injEq, Sum.inr.injEq, and_true] at z
        exact Prod.ext z.1.symm z.2.symm)), ih]
      by_cases m : (k, t) ∈ r
      · rw [if_pos m, if_pos (List.mem_cons_of_mem _ m)]
      · rw [if_neg m, if_neg (fun z => by
          rcases List.mem_cons.mp z with z | z
          · exact e z
          · exact m z)]
theorem mkO_put (k t : Str) (made : List (Str × Str)) : putK (mkO made) ([Sum.inr k, Sum.inr t] : List Key) (.str (mkS k t)) = mkO (addP made (k, t)) := by
  have v := mkO_val k t made
  unfold addP
  by_cases m : (k, t) ∈ made
  · rw [if_pos m] at v ⊢
    unfold putK
    rw [valV_any, v]
    rw [if_pos (show (some (V.str (mkS k t))).isSome = true from rfl)]
    unfold mkO
    rw [List.map_map]
    refine List.map_congr_left fun p hp => ?_
    show (if ([Sum.inr p.1, Sum.inr p.2] : List Key) = [Sum.inr k, Sum.inr t] then (([Sum.inr p.1, Sum.inr p.2] : List Key), V.str (mkS k t)) else ([Sum.inr p.1, Sum.inr p.2], V.str (mkS p.1 p.2))) = _
    split
    · rename_i z
      simp only [List.cons.injEq, Sum.inr.injEq, and_true] at z
      rw [z.1, z.2]
    · rfl
  · rw [if_neg m] at v ⊢
    rw [putK_new _ v]
    unfold mkO
    rw [List.map_append]
    rfl
theorem addP_len (made : List (Str × Str)) (p : Str × Str) : (addP made p).length ≤ made.length + 1 := by
  unfold addP
  split
  · omega
  · rw [List.length_append]; exact Nat.le_refl _
theorem mkO_len (made : List (Str × Str)) : (mkO made).length = made.length := List.length_map ..
/-- what can be asked of the office -/
def hoV (made : List (Str × Str)) : V → V → V → Bool
  | .str k, .str t, .str m => decide ((k, t) ∈ made) && decide (m = mkS k t)
  | _, _, _ => false
def spInit (C : Addr) : Sp := fun vs H Q _ => ∃ (o dx : Addr), vs = [.ref o] ∧ H o = some (.ins C dx []) ∧ ∀ (dm : Addr) (H' : Hp), H dm = none → dm ≠ o → Ofc C o dm [] H' → Kp [o] H H' → Q .non H'
def spMake (C CK CT : Addr) (Ts : List Addr) : Sp := fun vs H Q E => ∃ (o dm : Addr) (made : List (Str × Str)) (kv tv : V), vs = [.ref o, kv, tv] ∧ Ofc C o dm made H ∧ made.length ≤ 1000 ∧ Tabs Ts H ∧ (∃ t, tyN H kv = some t) ∧ (∃ t, tyN H tv = some t) ∧ szV kv ∧ (∀ z, tv = .str z → z.length ≤ 10000000) ∧
  (kyV kv = false → ∀ H', Kp Ts H H' → Tabs Ts H' → E (.ref CK) none H') ∧ (kyV kv = true → prV tv = false → ∀ H', Kp Ts H H' → Tabs Ts H' → E (.ref CT) none H') ∧
  ∀ k t : Str, kv = .str k → tv = .str t → kyS k = true → prn t = true → ∀ H', Kp (dm :: Ts) H H' → Tabs Ts H' → Ofc C o dm (addP made (k, t)) H' → Q (.str (mkS k t)) H'
def spHolds (C : Addr) : Sp := fun vs H Q _ => ∃ (o dm : Addr) (made : List (Str × Str)) (a b c : V), vs = [.ref o, a, b, c] ∧ Ofc C o dm made H ∧ (∃ t, tyN H a = some t) ∧ (∃ t, tyN H b = some t) ∧ (∃ t, tyN H c = some t) ∧ ∀ H', Kp [] H H' → Q (.bl (hoV made a b c)) H'
def spCount (C : Addr) : Sp := fun vs H Q _ => ∃ (o dm : Addr) (made : List (Str × Str)), vs = [.ref o] ∧ Ofc C o dm made H ∧ Q (.int made.length) H
structure SlC (K : PySem.W.Frag) (mg : Str → Option Value) (C CK CT : Addr) : Prop where
  cl : Cls K C
  nM : NoAttr K C "_marks"
  BadKey : Err K mg "BadKey" CK
  bad : Err K mg "BadText" CT
section
variable {P : Program} {w : World} {K : PySem.W.Frag} {mg : Str → Option Value} {base : Heap} {f : Addr} {fd : FuncData} {C CK CT : Addr}
theorem Ofc.kp {S : List Addr} {o dm : Addr} {made : List (Str × Str)} {H H' : Hp} (h : Ofc C o dm made H) (k : Kp S H H') (n1 : o ∉ S) (n2 : dm ∉ S) : Ofc C o dm made H' :=
  let ⟨dx, e⟩ := h.ob
  ⟨⟨dx, k.keep _ _ n1 e⟩, k.keep _ _ n2 h.dc⟩
theorem Ofc.tabs {Ts : List Addr} {o dm : Addr} {made : List (Str × Str)} {H H' : Hp} (h : Ofc C o dm made H) (k : Kp Ts H H') (g : Tabs Ts H) : Ofc C o dm made H' :=
  let ⟨dx, e⟩ := h.ob
  h.kp k (g.ne e) (g.ne h.dc)
theorem mk_kp {x dx : Addr} {H H1 : Hp} {o : HO} (n1 : H x = none) (n2 : H dx = none) (n3 : dx ≠ x) (k : Kp [x] (upd (upd H dx (.own x)) x o) H1) : Kp [] H H1 :=
  Kp.drop n1 (((Kp.new n2 (.own x) : Kp [x] _ _).trans (Kp.new (by rw [upd_ne n3.symm]; exact n1) o)).trans k)
theorem mk_none {x dx d : Addr} {H : Hp} {o : HO} (h : upd (upd H dx (.own x)) x o d = none) : H d = none := by
  have n1 : d ≠ x := fun e => by rw [e, upd_same] at h; cases h
  rw [upd_ne n1] at h
  have n2 : d ≠ dx := fun e => by rw [e, upd_same] at h; cases h
  rw [upd_ne n2] at h
  exact h
theorem ok_sinit (F : Fun K "__init__" "Seals.__init__" s_Seals___init f fd) (T : SlC K mg C CK CT) : FnOk P w K mg base CX0 1 f fd ["self"] (spInit C) := by
  refine F.ok sc_Seals___init (fun vs H Q E h => ?_) (fun cdv A outer s H vs Q E hr h => ?_)
  · obtain ⟨o, dx, rfl, _⟩ := h; rfl
  obtain ⟨o, dx, rfl, ho, q⟩ := h
  refine ⟨_, (pss_one (ps_fld (pv 0) pe_dnewT rfl)), ?_⟩
  intro d hd
  have nod : o ≠ d := ne_of_none ho hd
  refine ⟨_, rfl, o, C, dx, [], rfl, (by rw [upd_ne nod]; exact ho), T.cl, T.nM, (by show 0 < 1000; decide), ?_⟩
  refine q d _ hd nod.symm ⟨⟨dx, upd_same⟩, by rw [upd_ne nod.symm, upd_same]; rfl⟩ ⟨fun b u hb e => ?_, fun b xs e => ?_⟩
  · rw [upd_ne (fun z => hb (by rw [z]; exact List.mem_singleton.mpr rfl)), upd_ne (ne_of_none e hd)]; exact e
  · rw [upd_ne (ne_of e ho (by intro z; cases z)), upd_ne (ne_of_none e hd)]; exact e
theorem ok_smake {Pt Pc : Addr} {Ts : List Addr} (F : Fun K "make" "Seals.make" s_Seals_make f fd) (B : Blt mg) (T : SlC K mg C CK CT) (mt : Pt ∈ Ts) (mc : Pc ∈ Ts) (c_is_key : Cal P w K mg base CX0 4 "is_key" (spNm kyV Pc)) (c_is_printable : Cal P w K mg base CX0 3 "is_printable" (spPrn Pt)) (c_digest : Cal P w K mg base CX0 1 "digest" spDigest) :
    FnOk P w K mg base (L2.CX P w) 5 f fd ["self", "key", "text"] (spMake C CK CT Ts) := by
  refine F.okX sc_Seals_make (fun vs H Q E h => ?_) (fun cdv A outer s H vs Q E hr h => ?_)
  · obtain ⟨o, dm, made, kv, tv, rfl, _⟩ := h; rfl
  obtain ⟨o, dm, made, kv, tv, rfl, hO, hm, hG, ⟨t1, h1⟩, ⟨t2, h2⟩, z1, z2, e1, e2, q⟩ := h
  refine ⟨_, (pss_cons (ps_if (pt_not (pt_val (c_is_key.pe hr (pa_cons (pv 1) pa_nil)))) (pss_one (T.BadKey.raise (takes_of rfl rfl rfl rfl))) pss_nil)
    (pss_cons (ps_if (pt_not (pt_val (c_is_printable.pe hr (pa_cons (pv 2) pa_nil)))) (pss_one (T.bad.raise (takes_of rfl rfl rfl rfl))) pss_nil)
    (pss_cons (ps_set (i := 3) sc_Seals_make.nd rfl (Or.inl rfl) (c_digest.pe hr (pa_cons (pe_op op_add_str (pe_op op_add_str (pv 1) pe_str) (pv 2)) pa_nil)))
    (pss_cons (ps_dput (hu_of hr) (pe_fld (pv 0) rfl) (pe_tup (pa_cons (pv 1) (pa_cons (pv 2) pa_nil))) (pv 3) rfl)
    (pss_one (ps_ret (pv 3))))))), ?_⟩
  walk_at "wp"
  have off : ∀ {v : V} {t : String}, tyN H v = some t → kyV v = true → ∃ k, v = .str k ∧ kyS k = true := fun {v t} h e => by
    cases v <;> first | exact ⟨_, rfl, e⟩ | cases e
  have offT : ∀ {v : V}, prV v = true → ∃ k, v = .str k ∧ prn k = true := fun {v} e => by
    cases v <;> first | exact ⟨_, rfl, e⟩ | cases e
  refine ⟨kv, rfl, hG _ mc, ⟨t1, h1⟩, z1, fun H1 k1 g1 => ⟨_, rfl, ?_⟩⟩
  have G1 := hG.kp1 k1 g1
  have K1 : Kp Ts H H1 := k1.in1 mc
  cases ek : kyV kv with
  | false => rw [if_pos rfl]; exact e1 ek _ K1 G1
  | true =>
    rw [if_neg (by decide)]
    refine ⟨tv, rfl, G1 _ mt, ⟨t2, K1.tys hG h2⟩, fun H2 k2 g2 => ⟨_, rfl, ?_⟩⟩
    have G2 := G1.kp1 k2 g2
    have K2 : Kp Ts H H2 := K1.trans (k2.in1 mt)
    cases et : prV tv with
    | false => rw [if_pos rfl]; exact e2 ek et _ K2 G2
    | true =>
      rw [if_neg (by decide)]
      obtain ⟨k, rfl, hk⟩ := off h1 ek
      obtain ⟨t, rfl, hp⟩ := offT et
      have lk : k.length ≤ 12 := by
        have h := hk
        unfold kyS at h
        simp only [Bool.and_eq_true, decide_eq_true_eq] at h
        omega
      have lim : sizeLine = 16777216 := sizeLine_eq
      have lt : t.length ≤ 10000000 := z2 t rfl
      have l1 : (Str.ofString " ").length = 1 := by decide +kernel
      have la : ∀ x y : Str, (x ++ y).length = x.length + y.length := fun x y => by rw [TL.len_tl, TL.tl_append, List.length_append, ← TL.len_tl, ← TL.len_tl]
      have O2 := hO.tabs K2 hG
      obtain ⟨dx, ho⟩ := O2.ob
      refine ⟨k, rfl, by omega, t, rfl, by rw [la]; omega, _, rfl, by rw [la, la]; omega, C, dx, _, ho, T.cl, T.nM, _, rfl, by rw [lim]; decide, fun p hp2 => ⟨dm, rfl, upd (upd H2 p (.tup [.str k, .str t])) dm (.dT (mkO (addP made (k, t)))), ?_, ?_⟩⟩
      · have e1 : upd H2 p (.tup [.str k, .str t]) dm = some (.dT (mkO made)) := by rw [upd_ne (ne_of_none O2.dc hp2)]; exact O2.dc
        have z := DPut.t (v := .str (mkS k t)) (k := [Sum.inr k, Sum.inr t]) e1 upd_same (by rw [mkO_len]; omega)
        rw [mkO_put] at z
        exact z
      · have kp : Kp (dm :: Ts) H2 (upd (upd H2 p (.tup [.str k, .str t])) dm (.dT (mkO (addP made (k, t))))) := by
          refine ⟨fun b u n q => ?_, fun b xs q => ?_⟩
          · rw [upd_ne (fun z => n (by rw [z]; exact List.mem_cons_self)), upd_ne (ne_of_none q hp2)]; exact q
          · rw [upd_ne (ne_of q O2.dc (by intro z; cases z)), upd_ne (ne_of_none q hp2)]; exact q
        have nd : dm ∉ Ts := G2.ne O2.dc
        have nod : o ≠ dm := ne_of ho O2.dc (by intro z; cases z)
        refine q k t rfl rfl hk hp _ ((K2.mono fun b hb => List.mem_cons_of_mem _ hb).trans kp) (fun P m => ?_) ⟨⟨dx, ?_⟩, upd_same⟩
        · obtain ⟨a, e, z⟩ := G2 P m
          exact ⟨a, by rw [upd_ne (fun z => nd (by rw [← z]; exact m)), upd_ne (ne_of_none e hp2)]; exact e, z⟩
        · rw [upd_ne nod, upd_ne (ne_of_none ho hp2)]; exact ho
theorem ok_sholds (F : Fun K "holds" "Seals.holds" s_Seals_holds f fd) (B : Blt mg) (T : SlC K mg C CK CT) : FnOk P w K mg base CX0 1 f fd ["self", "key", "text", "mark"] (spHolds C) := by
  refine F.ok sc_Seals_holds (fun vs H Q E h => ?_) (fun cdv A outer s H vs Q E hr h => ?_)
  · obtain ⟨o, dm, made, a, b, c, rfl, _⟩ := h; rfl
  obtain ⟨o, dm, made, a, b, c, rfl, hO, ⟨t1, h1⟩, ⟨t2, h2⟩, ⟨t3, h3⟩, q⟩ := h
  refine ⟨_, (pss_cons (ps_if (PW.pt (pw_or (pt_not (pt_val (B.isT (pv 1) B.v_str))) (pw_or (pt_not (pt_val (B.isT (pv 2) B.v_str))) (pw_or1 (pt_not (pt_val (B.isT (pv 3) B.v_str))))))) (pss_one (ps_ret pe_bl)) pss_nil)
    (pss_one (ps_ret (pe_cmpR op_eq (pe_dget1 (hu_of hr) (pe_fld (pv 0) rfl) (pe_tup (pa_cons (pv 1) (pa_cons (pv 2) pa_nil))) ⟨rfl, rfl, rfl, rfl⟩) (pv 3) (nomark _))))), ?_⟩
  walk_at "wp"
  have off : hoV made a b c = false → Q (.bl false) H := fun h => by
    have y := q H (Kp.refl _ _)
    rw [h] at y; exact y
  have no1 : isaB t1 "str" = false → hoV made a b c = false := fun c1 => by
    cases a <;> first | rfl | (cases h1; exact absurd c1 (by decide))
  refine ⟨t1, h1, ?_⟩
  cases c1 : isaB t1 "str" with
  | false => rw [if_pos rfl]; exact off (no1 c1)
  | true =>
    rw [if_neg (by decide)]
    obtain ⟨k, rfl⟩ := isa_str h1 c1
    refine ⟨t2, h2, ?_⟩
    cases c2 : isaB t2 "str" with
    | false =>
      rw [if_pos rfl]
      exact off (by cases b <;> first | rfl | (cases h2; exact absurd c2 (by decide)))
    | true =>
      rw [if_neg (by decide)]
      obtain ⟨t, rfl⟩ := isa_str h2 c2
      refine ⟨t3, h3, ?_⟩
      cases c3 : isaB t3 "str" with
      | false =>
        rw [if_pos rfl]
        exact off (by cases c <;> first | rfl | (cases h3; exact absurd c3 (by decide)))
      | true =>
        rw [if_neg (by decide)]
        obtain ⟨m, rfl⟩ := isa_str h3 c3
        obtain ⟨dx, ho⟩ := hO.ob
        have lim : sizeLine = 16777216 := sizeLine_eq
        refine ⟨C, dx, _, ho, T.cl, T.nM, _, rfl, dm, rfl, .inr ⟨_, .inl hO.dc⟩, by rw [lim]; decide, fun p hp => ⟨_, DGet.t (k := [Sum.inr k, Sum.inr t]) (by rw [upd_ne (ne_of_none hO.dc hp)]; exact hO.dc) upd_same, ?_⟩⟩
        rw [mkO_val]
        have y := q _ (Kp.new hp (.tup [.str k, .str t]))
        have e : hoV made (.str k) (.str t) (.str m) = (decide ((k, t) ∈ made) && decide (m = mkS k t)) := rfl
        rw [e] at y
        by_cases h : (k, t) ∈ made
        · rw [if_pos h]
          rw [decide_eq_true h, Bool.true_and] at y
          refine ⟨rfl, ?_⟩
          show Q (V.bl (decide (V.str (mkS k t) = V.str m))) _
          rw [show decide (V.str (mkS k t) = V.str m) = decide (m = mkS k t) from decide_eq_decide.mpr ⟨fun z => (V.str.inj z).symm, fun z => by rw [z]⟩]
          exact y
        · rw [if_neg h]
          rw [decide_eq_false h, Bool.false_and] at y
          exact ⟨rfl, y⟩
end

/-! ''.join([S[_law_take(stream, m)] for k in range(n)]) -/
section
variable {K : PySem.W.Frag}
theorem cps_lenP (z : Str) : z.cps.toList.length = z.length := by
  show _ = z.cps.size
  exact Array.length_toList
/-- the new list of one-sign texts -/
structure Picked (S : Str) (n : Nat) (st : Addr) (H : Hp) (D : Addr) (cs : List Nat) (H' : Hp) : Prop where
  at_ : H' D = some (.lst ((sgs cs).map V.str))
  len : cs.length = n
  mem : ∀ c ∈ cs, c ∈ S.cps.toList
  kp : Kp [st] H H'
  st : Strm H' st
theorem Picked.sum {S : Str} {n : Nat} {st : Addr} {H : Hp} {D : Addr} {cs : List Nat} {H' : Hp} (p : Picked S n st H D cs H') (hn : n ≤ 16000000) : (List.map (fun x => x.length) (sgs cs)).sum + (sgs cs).length * (Str.ofString "").length ≤ 16777216 := by
  rw [sgs_sum, sgs_len, p.len]
  show n + n * 0 ≤ _
  omega
theorem join_len (cs : List Nat) : (Txt.join (Str.ofString "") (sgs cs)).length = cs.length := by rw [TL.len_tl, tl_sgs]
theorem join_cps (cs : List Nat) : (Txt.join (Str.ofString "") (sgs cs)).cps.toList = cs := tl_sgs cs
theorem pick_lst {σ : St} {H : Hp} {R : VK} {ta : TA} {tm : TE} {ks is js : Nat} {S : Str} {m n : Int} {st : Addr}
    (ha : ∀ R, R [V.int n] H → ta σ H R) (n0 : 0 ≤ n) (n1 : n ≤ 1000) (hst : Strm H st)
    (hS : ∀ x, ((wipe σ [ks]).set ks (some x))[is]? = some (some (.str S))) (hj : ∀ x, ((wipe σ [ks]).set ks (some x))[js]? = some (some (.ref st)))
    (hw : ∀ x : V, wipe ((wipe σ [ks]).set ks (some x)) [ks] = wipe σ [ks])
    (hm : ∀ x H2 R, R (V.int m) H2 → tm ((wipe σ [ks]).set ks (some x)) H2 R) (m0 : 0 < m) (m1 : m ≤ S.length) (hSl : S.length ≤ 1000)
    (q : ∀ (D : Addr) (cs : List Nat) (H' : Hp), Picked S n.toNat st H D cs H' → R (.ref D) H') :
    tLc (iRng1 ta) (gName ks) tYes (tOp rIxS (tVar is) (tCall spTake [] E0 (tCons (tVar js) (tCons tm tNil)))) [ks] σ H R := by
  refine ha _ ⟨n, rfl, by omega, by omega, fun D hD => ?_⟩
  have lim : sizeLine = 16777216 := sizeLine_eq
  have nD : D ≠ st := by obtain ⟨a, b, e⟩ := hst; exact (ne_of_none e hD).symm
  refine lc_range (lo := 0) (n := n.toNat) (fun i H' => ∃ cs : List Nat, H' D = some (.lst ((sgs cs).map V.str)) ∧ cs.length = i ∧ (∀ c ∈ cs, c ∈ S.cps.toList) ∧ Kp [st] H H' ∧ Strm H' st)
    ⟨[], upd_same, rfl, fun c h => absurd h (by simp), Kp.new hD _, hst.kp (Kp.new hD _ : Kp [] _ _) (by simp)⟩ (fun i H2 hi ⟨cs, hcD, hcl, hca, k2, s2⟩ => ?_) (fun H2 ⟨cs, hcD, hcl, hca, k2, s2⟩ => ?_)
  · refine ⟨hw _, ?_⟩
    simp only [tYes, if_true]
    refine ⟨_, hS _, _, hj _, hm _ _ _ ⟨st, m, rfl, s2, ⟨m0, by omega⟩, fun v H3 v0 v1 k3 s3 => ?_⟩⟩
    obtain ⟨c, hc⟩ : ∃ c, S.cps.toList[v.toNat]? = some c := ⟨_, List.getElem?_eq_getElem (by rw [cps_lenP]; omega)⟩
    have hcD3 := k3.keep D _ (by simpa using nD) hcD
    refine ⟨S, v, c, rfl, rfl, by omega, ?_, _, hcD3, by rw [List.length_map, sgs_len]; omega, cs ++ [c], by rw [upd_same, sgs_add], by rw [List.length_append, hcl]; rfl, fun d h => ?_, (k2.trans k3).upd hD hcD3, ?_⟩
    · have ev : v = ((v.toNat : Nat) : Int) := by omega
      rw [ev]
      exact atI_nat hc
    · rcases List.mem_append.mp h with h | h
      · exact hca d h
      · rw [List.mem_singleton.mp h]; exact List.mem_of_getElem? hc
    · obtain ⟨a, b, e⟩ := s3
      exact ⟨a, b, by rw [upd_ne (Ne.symm nD)]; exact e⟩
  · exact q D cs H2 ⟨hcD, hcl, hca, k2, s2⟩
end

/-! ''.join([S[_law_take(stream, m)] for k in range(n)]), S any reading -/
section
variable {K : PySem.W.Frag}
theorem pick_lstG {σ : St} {H0 : Hp} {R : VK} {ta : TA} {tm ts : TE} {ks js : Nat} {S : Str} {m : Int} {st : Addr} (Pn : Int → Hp → Prop)
    (ha : ∀ R, (∀ n H, Pn n H → R [V.int n] H) → ta σ H0 R) (hP : ∀ n H, Pn n H → 0 ≤ n ∧ n ≤ 1000 ∧ Strm H st)
    (hS : ∀ x H2 R, R (V.str S) H2 → ts ((wipe σ [ks]).set ks (some x)) H2 R) (hj : ∀ x, ((wipe σ [ks]).set ks (some x))[js]? = some (some (.ref st)))
    (hw : ∀ x : V, wipe ((wipe σ [ks]).set ks (some x)) [ks] = wipe σ [ks])
    (hm : ∀ x H2 R, R (V.int m) H2 → tm ((wipe σ [ks]).set ks (some x)) H2 R) (m0 : 0 < m) (m1 : m ≤ S.length) (hSl : S.length ≤ 1000)
    (q : ∀ (n : Int) (H : Hp) (D : Addr) (cs : List Nat) (H' : Hp), Pn n H → Picked S n.toNat st H D cs H' → R (.ref D) H') :
    tLc (iRng1 ta) (gName ks) tYes (tOp rIxS ts (tCall spTake [] E0 (tCons (tVar js) (tCons tm tNil)))) [ks] σ H0 R := by
  refine ha _ fun n H hn => ?_
  obtain ⟨n0, n1, hst⟩ := hP n H hn
  refine ⟨n, rfl, by omega, by omega, fun D hD => ?_⟩
  have lim : sizeLine = 16777216 := sizeLine_eq
  have nD : D ≠ st := by obtain ⟨a, b, e⟩ := hst; exact (ne_of_none e hD).symm
  refine lc_range (lo := 0) (n := n.toNat) (fun i H' => ∃ cs : List Nat, H' D = some (.lst ((sgs cs).map V.str)) ∧ cs.length = i ∧ (∀ c ∈ cs, c ∈ S.cps.toList) ∧ Kp [st] H H' ∧ Strm H' st)
    ⟨[], upd_same, rfl, fun c h => absurd h (by simp), Kp.new hD _, hst.kp (Kp.new hD _ : Kp [] _ _) (by simp)⟩ (fun i H2 hi ⟨cs, hcD, hcl, hca, k2, s2⟩ => ?_) (fun H2 ⟨cs, hcD, hcl, hca, k2, s2⟩ => ?_)
  · refine ⟨hw _, ?_⟩
    simp only [tYes, if_true]
    refine hS _ _ _ ?_
    refine ⟨_, hj _, hm _ _ _ ⟨st, m, rfl, s2, ⟨m0, by omega⟩, fun v H3 v0 v1 k3 s3 => ?_⟩⟩
    obtain ⟨c, hc⟩ : ∃ c, S.cps.toList[v.toNat]? = some c := ⟨_, List.getElem?_eq_getElem (by rw [cps_lenP]; omega)⟩
    have hcD3 := k3.keep D _ (by simpa using nD) hcD
    refine ⟨S, v, c, rfl, rfl, by omega, ?_, _, hcD3, by rw [List.length_map, sgs_len]; omega, cs ++ [c], by rw [upd_same, sgs_add], by rw [List.length_append, hcl]; rfl, fun d h => ?_, (k2.trans k3).upd hD hcD3, ?_⟩
    · have ev : v = ((v.toNat : Nat) : Int) := by omega
      rw [ev]
      exact atI_nat hc
    · rcases List.mem_append.mp h with h | h
      · exact hca d h
      · rw [List.mem_singleton.mp h]; exact List.mem_of_getElem? hc
    · obtain ⟨a, b, e⟩ := s3
      exact ⟨a, b, by rw [upd_ne (Ne.symm nD)]; exact e⟩
  · exact q n H D cs H2 hn ⟨hcD, hcl, hca, k2, s2⟩
/-- [f(stream) for k in range(n)], f draws a text -/
theorem draw_lst {σ : St} {H0 : Hp} {R : VK} {ta : TA} {te : TE} {ks : Nat} {st : Addr} (Pn : Int → Hp → Prop) (Pk : Str → Prop)
    (ha : ∀ R, (∀ n H, Pn n H → R [V.int n] H) → ta σ H0 R) (hP : ∀ n H, Pn n H → 0 ≤ n ∧ n ≤ 1000 ∧ Strm H st)
    (hw : ∀ x : V, wipe ((wipe σ [ks]).set ks (some x)) [ks] = wipe σ [ks])
    (he : ∀ (x : V) (H2 : Hp) (R : VK), Strm H2 st → (∀ (k : Str) (H3 : Hp), Pk k → Kp [st] H2 H3 → Strm H3 st → R (.str k) H3) → te ((wipe σ [ks]).set ks (some x)) H2 R)
    (q : ∀ (n : Int) (H : Hp) (D : Addr) (cs : List Str) (H' : Hp), Pn n H → H' D = some (.lst (cs.map V.str)) → cs.length = n.toNat → (∀ c ∈ cs, Pk c) → Kp [st] H H' → Strm H' st → H D = none → R (.ref D) H') :
    tLc (iRng1 ta) (gName ks) tYes te [ks] σ H0 R := by
  refine ha _ fun n H hn => ?_
  obtain ⟨n0, n1, hst⟩ := hP n H hn
  refine ⟨n, rfl, by omega, by omega, fun D hD => ?_⟩
  have lim : sizeLine = 16777216 := sizeLine_eq
  have nD : D ≠ st := by obtain ⟨a, b, e⟩ := hst; exact (ne_of_none e hD).symm
  refine lc_range (lo := 0) (n := n.toNat) (fun i H' => ∃ cs : List Str, H' D = some (.lst (cs.map V.str)) ∧ cs.length = i ∧ (∀ c ∈ cs, Pk c) ∧ Kp [st] H H' ∧ Strm H' st)
    ⟨[], upd_same, rfl, fun c h => absurd h (by simp), Kp.new hD _, hst.kp (Kp.new hD _ : Kp [] _ _) (by simp)⟩ (fun i H2 hi ⟨cs, hcD, hcl, hca, k2, s2⟩ => ?_) (fun H2 ⟨cs, hcD, hcl, hca, k2, s2⟩ => ?_)
  · refine ⟨hw _, ?_⟩
    simp only [tYes, if_true]
    refine he _ _ _ s2 fun k H3 pk k3 s3 => ?_
    have hcD3 := k3.keep D _ (by simpa using nD) hcD
    refine ⟨cs.map V.str, hcD3, by rw [List.length_map]; omega, cs ++ [k], by rw [upd_same, List.map_append]; rfl, by rw [List.length_append, hcl]; rfl, fun d h => ?_, (k2.trans k3).upd hD hcD3, ?_⟩
    · rcases List.mem_append.mp h with h | h
      · exact hca d h
      · rw [List.mem_singleton.mp h]; exact pk
    · obtain ⟨a, b, e⟩ := s3
      exact ⟨a, b, by rw [upd_ne (Ne.symm nD)]; exact e⟩
  · exact q n H D cs H2 hn hcD hcl hca k2 s2 hD
end

mutual
theorem sml_of : ∀ (n : Nat) (t : Tr), pl n t = true → (txt t).length ≤ 1000000 → sml t = true
  | _, .int _, _, _ => rfl
  | _, .str z, _, h => by
    have h : (dig z.length ++ 58 :: TL.tl z).length ≤ 1000000 := h
    rw [List.length_append, List.length_cons, ← TL.len_tl] at h
    show decide (z.length ≤ 10000000) = true
    exact decide_eq_true (by omega)
  | 0, .tup _, hp, _ => by cases hp
  | n + 1, .tup ts, hp, h => by
    have h : (91 :: (txts ts ++ [93])).length ≤ 1000000 := h
    rw [List.length_cons, List.length_append] at h
    obtain ⟨a, b⟩ := smls_of n ts hp (by omega)
    show (smls ts && decide (ts.length ≤ 1000000)) = true
    rw [a, decide_eq_true (by omega)]; rfl
  | _, .oth _, hp, _ => by cases hp
theorem smls_of : ∀ (n : Nat) (ts : List Tr), pls n ts = true → (txts ts).length ≤ 1000000 → smls ts = true ∧ ts.length ≤ (txts ts).length
  | _, [], _, _ => ⟨rfl, Nat.le_refl _⟩
  | n, t :: ts, hp, h => by
    have hp : (pl n t && pls n ts) = true := hp
    rw [Bool.and_eq_true] at hp
    have h : (txt t ++ txts ts).length ≤ 1000000 := h
    rw [List.length_append] at h
    obtain ⟨a, b⟩ := smls_of n ts hp.2 (by omega)
    have c := sml_of n t hp.1 (by omega)
    have d : 1 ≤ (txt t).length := txt_pos n t hp.1
    exact ⟨by show (sml t && smls ts) = true; rw [a, c]; rfl, by show ts.length + 1 ≤ (txt t ++ txts ts).length; rw [List.length_append]; omega⟩
theorem txt_pos : ∀ (n : Nat) (t : Tr), pl n t = true → 1 ≤ (txt t).length
  | _, .int i, _ => by show 1 ≤ (dig i.toNat ++ [46]).length; rw [List.length_append]; exact Nat.le_add_left _ _
  | _, .str z, _ => by show 1 ≤ (dig z.length ++ 58 :: TL.tl z).length; rw [List.length_append, List.length_cons]; omega
  | _, .tup ts, _ => by show 1 ≤ (91 :: (txts ts ++ [93])).length; rw [List.length_cons]; omega
  | _, .oth _, hp => by cases hp
end
theorem txt_nil {n : Nat} {t : Tr} (h : pl n t = true) : txt t ≠ [] := fun e => by
  have := txt_pos n t h
  rw [e] at this
  exact absurd this (by decide)
theorem Cal.peS {X : Cx} {j k : Nat} {sp : Sp} {x : Str} {W : WX} {p pos : Pos} {e : Expr} {es : List Expr} {t : TA} (c : Cal X.prog X.w X.K X.mg X.base (L2.CX X.prog X.w) j x sp) (hr : Room k X.A) (tk : Takes X W) (ha : PA X (e :: es) t) (hjk : j ≤ k := by first | decide | omega) (hg : Gl X x := by rfl) (hdb : (x == ("__debug__" : Str)) = false := by decide)
    (he : starEach (e :: es) X.env = (false, eval e X.env) :: starEach es X.env := by rfl) (hpl : (backTo pos (starEach es X.env)).any (·.1) = false := by rfl) :
    PE X (.Call (.Name x p) (e :: es) [] pos) (tCallS sp (WE W) t) :=
  let ⟨_, _, _, F, m, kp, b⟩ := c.ex
  pe_callS F (hr.mono hjk) hg m kp b (fun σ => passAt tk σ) ha hdb he hpl

/-! texts of proper signs -/
theorem u65 {A : PySem.Around} {k : Nat} (hr : Room k A) : A.units + 65 < cLine := by have := Room.un hr; omega
theorem ky_len {k : Str} (h : kyS k = true) : k.length ≤ 12 := by
  unfold kyS at h
  simp only [Bool.and_eq_true, decide_eq_true_eq] at h
  omega
theorem strOk_of {z : Str} (h : ∀ c ∈ TL.tl z, c < 1114112) : PyData.strOk z = true := by
  unfold PyData.strOk
  rw [← Array.all_toList, List.all_eq_true]
  exact fun c hc => decide_eq_true (h c hc)
theorem strOk_prn {z : Str} (h : prn z = true) : PyData.strOk z = true := strOk_of fun c hc => by
  unfold prn at h
  rw [List.all_eq_true] at h
  have := h c hc
  unfold prc at this
  simp only [Bool.and_eq_true, decide_eq_true_eq] at this
  omega
theorem strOk_ky {z : Str} (h : kyS z = true) : PyData.strOk z = true := strOk_of fun c hc => by
  unfold kyS at h
  simp only [Bool.and_eq_true, decide_eq_true_eq] at h
  obtain ⟨⟨⟨h1, h2⟩, h3⟩, h4⟩ := h
  have hl : z.cps.toList.length = z.length := cps_lenP z
  cases e : z.cps.toList with
  | nil => rw [e] at hl; simp at hl; omega
  | cons d r =>
    have hc : c ∈ d :: r := by rw [← e]; exact hc
    rw [e] at h3
    have h3 : d = 107 := Option.some.inj h3
    rcases List.mem_cons.mp hc with hc | hc
    · omega
    · unfold inT at h4
      rw [List.all_eq_true] at h4
      have hm : c ∈ (cutS z (some 1) none).cps.toList := by
        show c ∈ (z.cps.toList.drop (HT.sIx z.length 0 (some ((1 : Nat) : Int)))).take (HT.sIx z.length z.length none - HT.sIx z.length 0 (some ((1 : Nat) : Int)))
        rw [HT.sIx_nat, HT.sIx_none, e, show min 1 z.length = 1 by omega, List.take_of_length_le (by rw [List.length_drop, ← e, hl]; exact Nat.le_refl _)]
        exact hc
      have := of_decide_eq_true (h4 c hm)
      exact (by decide +kernel : ∀ c ∈ (Str.ofString "0123456789").cps.toList, c < 1114112) c this
theorem strOk_app {x y : Str} (h1 : PyData.strOk x = true) (h2 : PyData.strOk y = true) : PyData.strOk (x ++ y) = true := by
  unfold PyData.strOk at h1 h2
  rw [← Array.all_toList, List.all_eq_true] at h1 h2
  refine strOk_of fun c hc => ?_
  rw [TL.tl_append] at hc
  rcases List.mem_append.mp hc with hc | hc
  · exact of_decide_eq_true (h1 c hc)
  · exact of_decide_eq_true (h2 c hc)

/-! opened -/
abbrev s_ascends : Stmt := top 18
abbrev N_ascends : List Str := ["names"]
theorem sc_ascends : FnScope N_ascends ["names"] (defScope s_ascends) := ⟨rfl, rfl, rfl, by decide +kernel, rfl, by decide +kernel, by decide +kernel⟩
abbrev s_is_seal : Stmt := top 41
abbrev N_is_seal : List Str := ["value", "key", "mark"]
theorem sc_is_seal : FnScope N_is_seal ["value"] (defScope s_is_seal) := ⟨rfl, rfl, rfl, by decide +kernel, rfl, by decide +kernel, by decide +kernel⟩
abbrev s_is_content : Stmt := top 40
abbrev N_is_content : List Str := ["value", "text", "seals", "key", "_"]
theorem sc_is_content : FnScope N_is_content ["value"] (defScope s_is_content) := ⟨rfl, rfl, rfl, by decide +kernel, rfl, by decide +kernel, by decide +kernel⟩
abbrev s_opened : Stmt := top 37
abbrev N_opened : List Str := ["sealed", "value"]
theorem sc_opened : FnScope N_opened ["sealed"] (defScope s_opened) := ⟨rfl, rfl, rfl, by decide +kernel, rfl, by decide +kernel, by decide +kernel⟩
/-- a seal, as a tree -/
def isSl : Tr → Bool
  | .tup [.str k, .str m] => kyS k && decide (m.length ≤ 40)
  | _ => false
def keyT : Tr → Str
  | .tup (.str k :: _) => k
  | _ => Str.empty
/-- the content of a sealed text -/
def isCo : Tr → Bool
  | .tup [.str _, .tup ss] => decide (ss.length ≤ 32) && ss.all isSl && asc (ss.map keyT)
  | _ => false
def spAsc (K : PySem.W.Frag) : Sp := fun vs H Q _ => ∃ (p : Addr) (xs : List Str), vs = [.ref p] ∧ SqL K H p (xs.map V.str) ∧ xs.length ≤ 100 ∧ (∀ z ∈ xs, PyData.strOk z = true) ∧ ∀ H', Kp [] H H' → Q (.bl (asc xs)) H'
def spSeal (Pc : Addr) : Sp := fun vs H Q _ => ∃ (v : V) (t : Tr), vs = [v] ∧ Rep H v t ∧ sml t = true ∧ GxR.TabG H Pc ∧ ∀ H', Kp [Pc] H H' → GxR.TabG H' Pc → Q (.bl (isSl t)) H'
def spCont (Ts : List Addr) : Sp := fun vs H Q _ => ∃ (v : V) (t : Tr), vs = [v] ∧ Rep H v t ∧ sml t = true ∧ Tabs Ts H ∧ ∀ H', Kp Ts H H' → Tabs Ts H' → Q (.bl (isCo t)) H'
/-- what opened gives: the content that the text is the text of -/
def opn (z : Str) (t : Tr) : Prop := z.length ≤ 100000 ∧ prn z = true ∧ pval 8 (TL.tl z) = some (t, []) ∧ isCo t = true
def spOpen (C : Addr) (Ts : List Addr) : Sp := fun vs H Q E => ∃ v : V, vs = [v] ∧ (∃ t, tyN H v = some t) ∧ (∀ z, v = .str z → z.length ≤ 10000000) ∧ Tabs Ts H ∧
  (∀ z t, v = .str z → opn z t → ∀ (u : V) (H' : Hp), Kp Ts H H' → Tabs Ts H' → Rep H' u t → Q u H') ∧ ((∀ z t, v = .str z → ¬ opn z t) → ∀ H', Kp Ts H H' → Tabs Ts H' → E (.ref C) none H')
structure OpC (mg : Str → Option Value) : Prop where
  c_MOST_MARK : ∃ t, mg "_MOST_MARK" = some (.int 40 t)
  c_MOST_SEALS : ∃ t, mg "MOST_SEALS" = some (.int 32 t)
structure OpT (K : PySem.W.Frag) (mg : Str → Option Value) (C : Addr) : Prop where
  bad : Err K mg "BadText" C
theorem strs_dp {K : PySem.W.Frag} {H : Hp} : ∀ xs : List Str, DpAll K H (xs.map V.str) (xs.map PyData.str)
  | [] => .nil
  | x :: r => .cons (.str x) (strs_dp r)
theorem strs_shaped {xs : List Str} (h : ∀ z ∈ xs, PyData.strOk z = true) : SeqAt.shaped (.list (xs.map PyData.str)) = true := by
  have g : ∀ ys : List Str, (∀ z ∈ ys, PyData.strOk z = true) → PyData.canLayAll0 (ys.map PyData.str) = true ∧ PyData.depthAll (ys.map PyData.str) ≤ 0 := fun ys => by
    induction ys with
    | nil => exact fun _ => ⟨by simp [PyData.canLayAll0], by simp [PyData.depthAll]⟩
    | cons y r ih =>
      intro h
      have ih := ih fun z hz => h z (List.mem_cons_of_mem _ hz)
      exact ⟨by simp [PyData.canLayAll0, PyData.canLay0, ih.1, h y List.mem_cons_self], by
        have := ih.2
        simp only [List.map_cons, PyData.depthAll, PyData.depth]
        omega⟩
  obtain ⟨h1, h2⟩ := g xs h
  unfold SeqAt.shaped
  rw [Bool.and_eq_true]
  exact ⟨by simp [PyData.canLay0, h1], decide_eq_true (by simp only [PyData.depth]; omega)⟩
theorem strs_eqv : ∀ xs ys : List Str, PyData.eqvAll (xs.map PyData.str) (ys.map PyData.str) = decide (xs = ys)
  | [], [] => rfl
  | [], _ :: _ => rfl
  | _ :: _, [] => rfl
  | x :: xs, y :: ys => by
    show (x == y && PyData.eqvAll (xs.map PyData.str) (ys.map PyData.str)) = _
    rw [strs_eqv xs ys, Bool.eq_iff_iff, Bool.and_eq_true, beq_iff_eq, decide_eq_true_eq, decide_eq_true_eq, List.cons.injEq]
mutual
theorem Rep.tabs {Ts : List Addr} {H H' : Hp} (k : Kp Ts H H') (g : Tabs Ts H) : ∀ {v : V} {t : Tr}, Rep H v t → Rep H' v t
  | _, _, .int i => .int i
  | _, _, .str z => .str z
  | _, _, .tup e r => .tup (k.tup _ _ e) (r.tabs k g)
  | _, _, .oth e a b c => .oth (k.tys g e) a b c
theorem RepAll.tabs {Ts : List Addr} {H H' : Hp} (k : Kp Ts H H') (g : Tabs Ts H) : ∀ {vs : List V} {ts : List Tr}, RepAll H vs ts → RepAll H' vs ts
  | _, _, .nil => .nil
  | _, _, .cons a b => .cons (a.tabs k g) (b.tabs k g)
end
theorem rep_tup {H : Hp} {v : V} {t : Tr} {ty : String} (h : Rep H v t) (e : tyN H v = some ty) (b : isaB ty "tuple" = true) : ∃ (a : Addr) (xs : List V) (ts : List Tr), v = .ref a ∧ H a = some (.tup xs) ∧ t = .tup ts ∧ RepAll H xs ts := by
  cases h with
  | int => cases e; exact absurd b (by decide)
  | str => cases e; exact absurd b (by decide)
  | oth e' n1 n2 n3 =>
    rw [e'] at e; cases e
    unfold isaB at b
    simp only [Bool.or_eq_true, Bool.and_eq_true, beq_iff_eq] at b
    rcases b with b | b
    · exact absurd b n3
    · exact absurd b.2 (by decide)
  | tup e' r => exact ⟨_, _, _, rfl, e', rfl, r⟩
theorem rep_str {H : Hp} {v : V} {t : Tr} {ty : String} (h : Rep H v t) (e : tyN H v = some ty) (b : isaB ty "str" = true) : ∃ z : Str, v = .str z ∧ t = .str z := by
  cases h with
  | int => cases e; exact absurd b (by decide)
  | tup e' r => rw [tyN_tup e'] at e; cases e; exact absurd b (by decide)
  | oth e' n1 n2 n3 =>
    rw [e'] at e; cases e
    unfold isaB at b
    simp only [Bool.or_eq_true, Bool.and_eq_true, beq_iff_eq] at b
    rcases b with b | b
    · exact absurd b n2
    · exact absurd b.2 (by decide)
  | str z => exact ⟨_, rfl, rfl⟩
theorem rep_ntup {H : Hp} {v : V} {ts : List Tr} {ty : String} (h : Rep H v (.tup ts)) (e : tyN H v = some ty) : isaB ty "tuple" = true := by
  cases h with
  | tup e' r => rw [tyN_tup e'] at e; cases e; decide
theorem rep_nstr {H : Hp} {v : V} {z : Str} {ty : String} (h : Rep H v (.str z)) (e : tyN H v = some ty) : isaB ty "str" = true := by
  cases h with
  | str => cases e; decide
theorem rep_sz {H : Hp} {v : V} {t : Tr} (h : Rep H v t) (hs : sml t = true) : szV v := by
  cases h with
  | str z =>
    have : z.length ≤ 10000000 := of_decide_eq_true hs
    show z.length ≤ sizeLine
    rw [sizeLine_eq]; omega
  | int => exact True.intro
  | tup => exact True.intro
  | @oth v t e n1 n2 n3 => cases v <;> first | exact True.intro | (cases e; exact absurd rfl n2)
theorem rep_ky {H : Hp} {v : V} {t : Tr} (h : Rep H v t) (k : kyV v = true) : ∃ z : Str, v = .str z ∧ t = .str z ∧ kyS z = true := by
  cases h with
  | str z => exact ⟨z, rfl, rfl, k⟩
  | int => cases k
  | tup => cases k
  | @oth v t e n1 n2 n3 => cases v <;> first | (cases k; done) | (cases e; exact absurd rfl n2)
theorem rep_nky {H : Hp} {v : V} {z : Str} (h : Rep H v (.str z)) (k : kyS z = true) : kyV v = true := by
  cases h with
  | str => exact k
theorem two_or {H : Hp} {xs : List V} {ts : List Tr} (r : RepAll H xs ts) : (xs.length ≠ 2 ∧ ts.length ≠ 2) ∨ ∃ (x1 x2 : V) (t1 t2 : Tr), xs = [x1, x2] ∧ ts = [t1, t2] ∧ Rep H x1 t1 ∧ Rep H x2 t2 := by
  by_cases l : xs.length = 2
  · cases r with
    | nil => cases l
    | cons a r =>
      cases r with
      | nil => cases l
      | cons b r =>
        cases r with
        | nil => exact .inr ⟨_, _, _, _, rfl, rfl, a, b⟩
        | cons c r => simp at l
  · exact .inl ⟨l, by rw [← r.len]; exact l⟩
theorem isSl_two {t : Tr} (h : isSl t = true) : ∃ k m : Str, t = .tup [.str k, .str m] ∧ kyS k = true ∧ m.length ≤ 40 := by
  unfold isSl at h
  split at h
  · rw [Bool.and_eq_true, decide_eq_true_eq] at h; exact ⟨_, _, rfl, h.1, h.2⟩
  · cases h
theorem isCo_two {t : Tr} (h : isCo t = true) : ∃ (z : Str) (ss : List Tr), t = .tup [.str z, .tup ss] ∧ ss.length ≤ 32 ∧ (∀ s ∈ ss, isSl s = true) ∧ asc (ss.map keyT) = true := by
  unfold isCo at h
  split at h
  · simp only [Bool.and_eq_true, decide_eq_true_eq, List.all_eq_true] at h; exact ⟨_, _, rfl, h.1.1, h.1.2, h.2⟩
  · cases h
section
variable {P : Program} {w : World} {K : PySem.W.Frag} {mg : Str → Option Value} {base : Heap} {f : Addr} {fd : FuncData}
theorem ok_asc (F : Fun K "ascends" "ascends" s_ascends f fd) (B : Blt mg) (z1 : mg "sorted" = none) (z2 : mg "set" = none) : FnOk P w K mg base CX0 1 f fd ["names"] (spAsc K) := by
  refine F.ok sc_ascends (fun vs H Q E h => ?_) (fun cdv A outer s H vs Q E hr h => ?_)
  · obtain ⟨p, xs, rfl, _⟩ := h; rfl
  obtain ⟨p, xs, rfl, hp, hl, ho, q⟩ := h
  refine ⟨_, (pss_one (ps_ret (pe_cmpR (op_eqD hr.units) (pv 0) (pe_sortSet rfl rfl z1 rfl z2 (pv 0)) (nomark _)))), ?_⟩
  walk_at "wp"
  refine ⟨_, rfl, p, xs, rfl, hp, by omega, fun ys r ha mem hr2 => ?_⟩
  have n0 : Kp [] H (upd H r (.lst (ys.map V.str))) := Kp.new hr2 _
  refine ⟨.list (xs.map PyData.str), .list (ys.map PyData.str), .lst (n0.seqL List.not_mem_nil hp) (strs_dp xs), .lst (SqL.of upd_same) (strs_dp ys), strs_shaped ho, strs_shaped fun z hz => ho z ((mem z).mp hz), ?_⟩
  have y := q _ n0
  rw [show PyData.eqv (.list (xs.map PyData.str)) (.list (ys.map PyData.str)) = decide (xs = ys) from strs_eqv xs ys]
  have e : decide (xs = ys) = asc xs := by
    cases c : asc xs with
    | true => exact decide_eq_true (asc_eq c ha fun z => (mem z).symm)
    | false => exact decide_eq_false fun e => by rw [e, ha] at c; cases c
  rw [e]; exact y
theorem ok_seal {Pc : Addr} (F : Fun K "_is_seal" "_is_seal" s_is_seal f fd) (B : Blt mg) (D : OpC mg) (c_is_key : Cal P w K mg base CX0 4 "is_key" (spNm kyV Pc)) : FnOk P w K mg base CX0 5 f fd ["value"] (spSeal Pc) := by
  refine F.ok sc_is_seal (fun vs H Q E h => ?_) (fun cdv A outer s H vs Q E hr h => ?_)
  · obtain ⟨v, t, rfl, _⟩ := h; rfl
  obtain ⟨v, t, rfl, hR, hs, hG, q⟩ := h
  refine ⟨_, (pss_cons (ps_if (PW.pt (pw_or (pt_not (pt_val (B.isT (pv 0) B.v_tuple))) (pw_or1 (pt_cmpR op_ne (B.len_q (pa_cons (pv 0) pa_nil)) pe_int (nomark _))))) (pss_one (ps_ret pe_bl)) pss_nil)
    (pss_cons (ps_asg (pv 0) (pg_tup rfl (pgs_cons (pg_name (i := 1) sc_is_seal.nd rfl (Or.inl rfl)) (pgs_cons (pg_name (i := 2) sc_is_seal.nd rfl (Or.inl rfl)) pgs_nil))))
    (pss_one (ps_ret (pe_and (c_is_key.pe hr (pa_cons (pv 1) pa_nil)) (pe_and (B.isT (pv 2) B.v_str) (pe_one (pe_cmpR op_le (B.len_s (pa_cons (pv 2) pa_nil)) (pe_cE D.c_MOST_MARK) (nomark _))))))))), ?_⟩
  walk_at "wp"
  obtain ⟨ty, hty⟩ := hR.ty
  refine ⟨ty, hty, ?_⟩
  have off : isSl t = false → Q (.bl false) H := fun h => by
    have y := q H (Kp.refl _ _) hG
    rw [h] at y; exact y
  have no : (∀ k m : Str, t = .tup [.str k, .str m] → kyS k = true → m.length ≤ 40 → False) → isSl t = false := fun h => by
    cases e : isSl t with
    | false => rfl
    | true => obtain ⟨k, m, e1, e2, e3⟩ := isSl_two e; exact (h k m e1 e2 e3).elim
  split
  · rename_i c
    exact off (no fun k m e _ _ => by subst e; rw [rep_ntup hR hty] at c; cases c)
  · rename_i c
    obtain ⟨a, xs, ts, rfl, ea, rfl, r⟩ := rep_tup hR hty (by simpa using c)
    refine ⟨a, rfl, xs, .inr (SqT.of ea), ?_⟩
    rcases two_or r with ⟨l1, l2⟩ | ⟨x1, x2, t1, t2, rfl, rfl, R1, R2⟩
    · rw [if_pos (by omega)]
      exact off (no fun k m e _ _ => by cases e; exact l2 rfl)
    · rw [if_neg (by simp)]
      refine ⟨a, _, rfl, SqT.of ea, rfl, x1, _, rfl, x2, _, rfl, rfl, ?_⟩
      have hs1 : sml t1 = true := smls_mem (ts := [t1, t2]) (by unfold sml at hs; rw [Bool.and_eq_true] at hs; exact hs.1) List.mem_cons_self
      have hs2 : sml t2 = true := smls_mem (ts := [t1, t2]) (by unfold sml at hs; rw [Bool.and_eq_true] at hs; exact hs.1) (List.mem_cons_of_mem _ List.mem_cons_self)
      walk_at "wp"
      refine ⟨x1, rfl, hG, R1.ty, rep_sz R1 hs1, fun H1 k1 g1 => ⟨_, rfl, ?_⟩⟩
      have R2' := R2.tabs (Ts := [Pc]) k1 (fun p hp => by rw [List.mem_singleton.mp hp]; exact hG)
      obtain ⟨t2y, ht2⟩ := R2'.ty
      have off1 : isSl (.tup [t1, t2]) = false → Q (.bl false) H1 := fun h => by
        have y := q H1 k1 g1
        rw [h] at y; exact y
      split
      · rename_i c1
        obtain ⟨z, rfl, rfl, ck⟩ := rep_ky R1 c1
        refine ⟨t2y, ht2, ?_⟩
        split
        · rename_i c2
          obtain ⟨m, rfl, rfl⟩ := rep_str R2' ht2 c2
          have hm : m.length ≤ 10000000 := of_decide_eq_true hs2
          refine ⟨m, rfl, by rw [sizeLine_eq]; omega, ?_⟩
          have y := q H1 k1 g1
          rw [show isSl (.tup [.str z, .str m]) = (kyS z && decide (m.length ≤ 40)) from rfl, ck, Bool.true_and] at y
          rw [show decide ((m.length : Int) ≤ 40) = decide (m.length ≤ 40) from decide_eq_decide.mpr (by omega)]
          exact y
        · rename_i c2
          exact off1 (no fun k m e _ _ => by cases e; exact c2 (rep_nstr R2' ht2))
      · rename_i c1
        exact off1 (no fun k m e ek _ => by cases e; exact c1 (rep_nky R1 ek))
theorem ok_content {oc kV doc pm ct : Value} {od an : Option Addr} {osl : Array (Option Value)} {c Pt Pc : Addr} {Ts : List Addr} (B : Blt mg) (TB : GxR.TabB base mg c Pt) (D : OpC mg) (mt : Pt ∈ Ts) (mc : Pc ∈ Ts)
    (lk : K.lookup f = some ⟨oc, od, .func (PySem.W.fnOf "_is_content" "_is_content" (defArgs s_is_content) (defBody s_is_content) (defScope s_is_content) .none kV doc pm an (.ref c) ct), osl⟩) (hcd : PySem.W.codeIn K (.ref c) "_is_content" = true)
    (c_is_seal : Cal P w K mg base CX0 5 "_is_seal" (spSeal Pc)) (c_ascends : Cal P w K mg base CX0 1 "ascends" (spAsc K)) :
    FnOk P w K mg base CX0 8 f (PySem.W.fnOf "_is_content" "_is_content" (defArgs s_is_content) (defBody s_is_content) (defScope s_is_content) .none kV doc pm an (.ref c) ct) ["value"] (spCont Ts) := by
  refine fn_of lk hcd sc_is_content (fun vs H Q E h => ?_) (fun A outer s H vs Q E hr h => ?_)
  · obtain ⟨v, t, rfl, _⟩ := h; rfl
  obtain ⟨v, t, rfl, hR, hs, hG, q⟩ := h
  refine ⟨_, PSs.nox (pss_cons (ps_if (PW.pt (pw_or (pt_not (pt_val (B.isT (pv 0) B.v_tuple))) (pw_or1 (pt_cmpR op_ne (B.len_q (pa_cons (pv 0) pa_nil)) pe_int (nomark _))))) (pss_one (ps_ret pe_bl)) pss_nil)
    (pss_cons (ps_asg (pv 0) (pg_tup rfl (pgs_cons (pg_name (i := 1) sc_is_content.nd rfl (Or.inl rfl)) (pgs_cons (pg_name (i := 2) sc_is_content.nd rfl (Or.inl rfl)) pgs_nil))))
    (pss_cons (ps_if (PW.pt (pw_or (pt_not (pt_val (B.isT (pv 1) B.v_str))) (pw_or (pt_not (pt_val (B.isT (pv 2) B.v_tuple))) (pw_or1 (pt_cmpR op_gt (B.len_q (pa_cons (pv 2) pa_nil)) (pe_cE D.c_MOST_SEALS) (nomark _)))))) (pss_one (ps_ret pe_bl)) pss_nil)
    (pss_cons (ps_if (pt_not (pt_val (pe_allG (N := ["pair"]) (nt := 1) (fr := []) rfl hr B TB rfl (gnOf (by decide +kernel)) (by show freeOk _ (defScope s_is_content) = true; decide +kernel) (by show capOk _ _ _ N_is_content _ (defScope s_is_content) = true; decide +kernel)
      (pi_tup (pv 2)) (fun _ _ _ _ _ hr => (pg_name (i := 0) (by show List.Nodup (["pair"] : List Str); decide +kernel) rfl (Or.inl rfl))) (fun _ _ _ _ _ hr => pts_nil) (fun _ _ _ _ _ hr => (c_is_seal.pe hr (pa_cons (pv 0) pa_nil))) (fun _ => rfl)))) (pss_one (ps_ret pe_bl)) pss_nil)
    (pss_one (ps_ret (c_ascends.pe hr (pa_cons (pe_lc (own := [("key", 3), ("_", 4)]) (g := gTup _ 2 (gCons (gName 3) (gCons (gName 4) (gNil)))) (tt := tYes) rfl sc_is_content.nd (pi_tup (pv 2)) (blkOk_by (own := [("key", 3), ("_", 4)]) (N := N_is_content) (sc := defScope s_is_content) (by decide +kernel)) (fun _ _ _ _ _ => (pg_tup rfl (pgs_cons (pg_name (i := 3) sc_is_content.nd rfl (Or.inl rfl)) (pgs_cons (pg_name (i := 4) sc_is_content.nd rfl (Or.inl rfl)) pgs_nil)))) (fun _ _ _ _ _ => pts_nil) (fun _ _ _ _ _ => (pv 3))) pa_nil)))))))), ?_⟩
  walk_at "wp"
  obtain ⟨ty, hty⟩ := hR.ty
  refine ⟨ty, hty, ?_⟩
  have off : ∀ H', Kp Ts H H' → Tabs Ts H' → isCo t = false → Q (.bl false) H' := fun H' k g h => by
    have y := q H' k g
    rw [h] at y; exact y
  have no : (∀ (z : Str) (ss : List Tr), t = .tup [.str z, .tup ss] → ss.length ≤ 32 → (∀ s ∈ ss, isSl s = true) → asc (ss.map keyT) = true → False) → isCo t = false := fun h => by
    cases e : isCo t with
    | false => rfl
    | true => obtain ⟨k, m, e1, e2, e3, e4⟩ := isCo_two e; exact (h k m e1 e2 e3 e4).elim
  split
  · rename_i c
    exact off _ (Kp.refl _ _) hG (no fun k m e _ _ _ => by subst e; rw [rep_ntup hR hty] at c; cases c)
  · rename_i c
    obtain ⟨a, xs, ts, rfl, ea, rfl, r⟩ := rep_tup hR hty (by simpa using c)
    refine ⟨a, rfl, xs, .inr (SqT.of ea), ?_⟩
    rcases two_or r with ⟨l1, l2⟩ | ⟨x1, x2, t1, t2, rfl, rfl, R1, R2⟩
    · rw [if_pos (by omega)]
      exact off _ (Kp.refl _ _) hG (no fun k m e _ _ _ => by cases e; exact l2 rfl)
    · rw [if_neg (by simp)]
      refine ⟨a, _, rfl, SqT.of ea, rfl, x1, _, rfl, x2, _, rfl, rfl, ?_⟩
      have hs1 : sml t1 = true := smls_mem (ts := [t1, t2]) (by unfold sml at hs; rw [Bool.and_eq_true] at hs; exact hs.1) List.mem_cons_self
      have hs2 : sml t2 = true := smls_mem (ts := [t1, t2]) (by unfold sml at hs; rw [Bool.and_eq_true] at hs; exact hs.1) (List.mem_cons_of_mem _ List.mem_cons_self)
      walk_at "wp"
      obtain ⟨ty1, hty1⟩ := R1.ty
      obtain ⟨ty2, hty2⟩ := R2.ty
      refine ⟨ty1, hty1, ?_⟩
      split
      · rename_i c1
        exact off _ (Kp.refl _ _) hG (no fun k m e _ _ _ => by cases e; rw [rep_nstr R1 hty1] at c1; cases c1)
      rename_i c1
      obtain ⟨z, rfl, rfl⟩ := rep_str R1 hty1 (by simpa using c1)
      refine ⟨ty2, hty2, ?_⟩
      split
      · rename_i c2
        exact off _ (Kp.refl _ _) hG (no fun k m e _ _ _ => by cases e; rw [rep_ntup R2 hty2] at c2; cases c2)
      rename_i c2
      obtain ⟨b, ys, us, rfl, eb, rfl, rr⟩ := rep_tup R2 hty2 (by simpa using c2)
      refine ⟨b, rfl, ys, .inr (SqT.of eb), ?_⟩
      split
      · rename_i c3
        exact off _ (Kp.refl _ _) hG (no fun k m e l _ _ => by cases e; rw [rr.len] at c3; omega)
      rename_i c3
      have ly : ys.length ≤ 32 := by omega
      refine ⟨_, rfl, b, rfl, ⟨ys, SqT.of eb⟩, hG _ mt, fun H2 hT => ?_⟩
      have g2 := hG.tab hT mt
      have k2 : Kp Ts H H2 := Kp.tab (hG _ mt) hT mt
      have e2 := k2.get hG eb
      have hsu : smls us = true := by
        unfold sml at hs2
        rw [Bool.and_eq_true] at hs2; exact hs2.1
      refine for_tup (K := K) (a := b) (xs := ys) (fun i σ H' => (∃ o : Option V, σ = [o]) ∧ Kp Ts H H' ∧ Tabs Ts H' ∧ ((us.take i).all isSl) = true)
        ⟨⟨_, rfl⟩, k2, g2, rfl⟩ (fun i σ H' _ ⟨_, k, _, _⟩ => SqT.of (k.get hG eb)) (fun i x σ H' hx ⟨⟨o, hσ⟩, k3, g3, ha⟩ => ?_) (fun σ H' ⟨⟨o, hσ⟩, k3, g3, ha⟩ => ?_)
      · subst hσ
        obtain ⟨u, hu, Ru⟩ := rr.get hx
        have tk : us.take (i + 1) = us.take i ++ [u] := by rw [List.take_add_one, hu]; rfl
        unfold tbAll
        simp only [tYes, if_true]
        walk_at "wp"
        refine ⟨x, u, rfl, Ru.tabs k3 hG, smls_mem hsu (List.mem_of_getElem? hu), g3 _ mc, fun H4 k4 g4 => ⟨_, rfl, ?_⟩⟩
        have k5 := k3.trans (k4.in1 mc)
        have g5 := g3.kp1 k4 g4
        cases hb : isSl u with
        | true =>
          rw [if_pos rfl]
          exact ⟨⟨_, rfl⟩, k5, g5, by rw [tk, List.all_append, ha]; simp [hb]⟩
        | false =>
          rw [if_neg (by decide)]
          exact off _ k5 g5 (no fun k m e _ al _ => by cases e; rw [al u (List.mem_of_getElem? hu)] at hb; cases hb)
      · refine ⟨_, rfl, ?_⟩
        rw [if_neg (by decide)]
        rw [rr.len, List.take_length] at ha
        have al : ∀ u ∈ us, isSl u = true := List.all_eq_true.mp ha
        have e3 := k3.get hG eb
        refine ⟨_, rfl, b, rfl, ⟨ys, SqT.of e3⟩, fun D hD => ?_⟩
        have nD : ∀ P ∈ Ts, P ∉ [D] := fun P m e => g3.ne0 hD (List.mem_singleton.mp e ▸ m)
        refine lc_tup (K := K) (a := b) (xs := ys) (fun i Hx => Kp Ts H' Hx ∧ Tabs Ts Hx ∧ Hx D = some (.lst (((us.take i).map keyT).map V.str)))
          ⟨Kp.new hD _, g3.new hD _, upd_same⟩ (fun i Hx _ ⟨k, _, _⟩ => SqT.of (k.get g3 e3)) (fun i x Hx hx ⟨k4, g4, a4⟩ => ?_) (fun Hx ⟨k4, g4, a4⟩ => ?_)
        · obtain ⟨u, hu, Ru⟩ := rr.get hx
          obtain ⟨ky, mk, rfl, _, _⟩ := isSl_two (al u (List.mem_of_getElem? hu))
          have Ru := (Ru.tabs k3 hG).tabs k4 g3
          cases Ru with
          | @tup p xs ts e5 r5 =>
            cases r5 with
            | cons r6 r7 =>
              cases r7 with
              | cons r8 r9 =>
                cases r6; cases r8; cases r9
                refine ⟨p, _, rfl, SqT.of e5, rfl, _, _, rfl, _, _, rfl, rfl, rfl, ?_⟩
                simp only [tYes, if_true]
                refine ⟨_, rfl, _, a4, by rw [List.length_map, List.length_map, List.length_take, sizeLine_eq, ← rr.len]; omega, Kp.upd k4 hD a4, g4.kp (Kp.lst a4 (List.mem_singleton.mpr rfl)) nD, ?_⟩
                rw [upd_same, List.take_add_one, hu]
                simp [keyT]
        · rw [rr.len, List.take_length] at a4
          refine ⟨D, us.map keyT, rfl, SqL.of a4, by rw [List.length_map, ← rr.len]; omega, fun z hz => ?_, fun H5 k5 => ?_⟩
          · obtain ⟨u, hu, rfl⟩ := List.mem_map.mp hz
            obtain ⟨ky, mk, rfl, h1, _⟩ := isSl_two (al u hu)
            exact strOk_ky h1
          · have y := q H5 ((k3.trans k4).trans k5.in0) (g4.kp0 k5)
            rw [show isCo (.tup [.str z, .tup us]) = (decide (us.length ≤ 32) && us.all isSl && asc (us.map keyT)) from rfl, ha, decide_eq_true (by rw [← rr.len]; exact ly), Bool.true_and, Bool.true_and] at y
            exact y
theorem ok_opened {C Pp : Addr} {Ts : List Addr} (F : Fun K "opened" "opened" s_opened f fd) (B : Blt mg) (T : Err K mg "BadText" C) (mp : Pp ∈ Ts) (c_decode : Cal P w K mg base (L2.CX P w) 23 "decode" (spDec C Pp)) (c_is_content : Cal P w K mg base CX0 8 "_is_content" (spCont Ts)) :
    FnOk P w K mg base (L2.CX P w) 24 f fd ["sealed"] (spOpen C Ts) := by
  refine F.okX sc_opened (fun vs H Q E h => ?_) (fun cdv A outer s H vs Q E hr h => ?_)
  · obtain ⟨v, rfl, _⟩ := h; rfl
  obtain ⟨v, rfl, ht, hz, hG, q, qe⟩ := h
  have T : OpT K mg C := ⟨T⟩
  refine ⟨_, (pss_cons (ps_set (i := 1) sc_opened.nd rfl (Or.inl rfl) (c_decode.pex hr (passX (takes_of rfl rfl rfl rfl) fun _ _ _ _ h => h) (pa_cons (pv 0) pa_nil)))
    (pss_cons (ps_if (pt_not (pt_val (c_is_content.pe hr (pa_cons (pv 1) pa_nil)))) (pss_one (T.bad.raise (takes_of rfl rfl rfl rfl))) pss_nil)
    (pss_one (ps_ret (pv 1))))), ?_⟩
  walk_at "wp"
  refine ⟨v, rfl, ht, hz, hG _ mp, fun z t e l1 l2 l3 u H' k1 g1 R => ?_, fun n H' k1 g1 => qe (fun z t e o => n z t e o.1 o.2.1 o.2.2.1) H' (k1.in1 mp) (hG.kp1 k1 g1)⟩
  have k2 := k1.in1 mp
  have g2 := hG.kp1 k1 g1
  have ⟨pe, pb⟩ := pval_back 8 _ _ _ l3
  have hp : pl 8 t = true := pb (by
    unfold prn at l2
    rw [List.all_eq_true] at l2; exact l2)
  have hl : (txt t).length ≤ 1000000 := by
    have := congrArg List.length pe
    rw [List.append_nil, ← TL.len_tl] at this
    omega
  refine ⟨u, t, rfl, R, sml_of 8 t hp hl, g2, fun H2 k3 g3 => ⟨_, rfl, ?_⟩⟩
  split
  · rename_i c
    refine qe (fun z' t' e' o => ?_) H2 (k2.trans k3) g3
    rw [e] at e'; cases e'
    obtain ⟨_, _, o3, o4⟩ := o
    rw [l3] at o3; cases o3
    rw [c] at o4; cases o4
  · rename_i c
    exact q z t e ⟨l1, l2, l3, by simpa using c⟩ u H2 (k2.trans k3) g3 (R.tabs k3 g2)
end

/-! support -/
abbrev s_support : Stmt := top 38
abbrev N_support : List Str := ["office", "sealed", "keys", "text", "seals"]
theorem sc_support : FnScope N_support ["office", "sealed", "keys"] (defScope s_support) := ⟨rfl, rfl, rfl, by decide +kernel, rfl, by decide +kernel, by decide +kernel⟩
/-- the mark of a seal -/
def markT : Tr → Str
  | .tup (_ :: .str m :: _) => m
  | _ => Str.empty
/-- the seals that count -/
def suC (made : List (Str × Str)) (keys : List Str) (z : Str) (s : Tr) : Bool := decide (keyT s ∈ keys) && hoV made (.str (keyT s)) (.str z) (.str (markT s))
def suN (made : List (Str × Str)) (keys : List Str) (z : Str) (ss : List Tr) : Nat := ss.countP (suC made keys z)
def spSupp (C C0 : Addr) (Ts : List Addr) (K : PySem.W.Frag) : Sp := fun vs H Q E => ∃ (o dm ks : Addr) (made : List (Str × Str)) (v : V) (keys : List Str), vs = [.ref o, v, .ref ks] ∧ Ofc C o dm made H ∧ (∃ t, tyN H v = some t) ∧ (∀ z, v = .str z → z.length ≤ 10000000) ∧ Tabs Ts H ∧
  (SqL K H ks (keys.map V.str) ∨ SqT K H ks (keys.map V.str)) ∧
  (∀ x z ss, v = .str x → opn x (.tup [.str z, .tup ss]) → ∀ H', Kp Ts H H' → Tabs Ts H' → Q (.int (suN made keys z ss)) H') ∧ ((∀ x t, v = .str x → ¬ opn x t) → ∀ H', Kp Ts H H' → Tabs Ts H' → E (.ref C0) none H')
theorem Kp.seqT {K : PySem.W.Frag} {Ts : List Addr} {H H' : Hp} {a : Addr} {xs : List V} (k : Kp Ts H H') (g : Tabs Ts H) (h : SqT K H a xs) : SqT K H' a xs := by
  rcases h with (h | ⟨o, h⟩) | h
  · exact .inl (.inl (k.get g h))
  · exact .inl (.inr ⟨o, k.get g h⟩)
  · exact .inr h
theorem flat_strs : ∀ keys : List Str, (keys.map V.str).all flatV = true
  | [] => rfl
  | _ :: r => flat_strs r
theorem inV_strs (k : Str) : ∀ keys : List Str, L2.inV (V.str k) (keys.map V.str) = decide (k ∈ keys)
  | [] => rfl
  | y :: r => by
    show (eqV (.str y) (.str k) || L2.inV (V.str k) (r.map V.str)) = _
    rw [inV_strs k r, Bool.eq_iff_iff, Bool.or_eq_true, decide_eq_true_eq, decide_eq_true_eq, List.mem_cons, show eqV (V.str y) (.str k) = (y == k) from rfl, beq_iff_eq]
    exact or_congr_left eq_comm
section
variable {P : Program} {w : World} {K : PySem.W.Frag} {mg : Str → Option Value} {base : Heap} {f : Addr} {fd : FuncData} {C C0 : Addr} {Ts : List Addr}
theorem ok_support {oc kV doc pm ct : Value} {od an : Option Addr} {osl : Array (Option Value)} {c Pt : Addr} (B : Blt mg) (zsum : mg "sum" = none) (TB : GxR.TabB base mg c Pt) (mt : Pt ∈ Ts)
    (lk : K.lookup f = some ⟨oc, od, .func (PySem.W.fnOf "support" "support" (defArgs s_support) (defBody s_support) (defScope s_support) .none kV doc pm an (.ref c) ct), osl⟩) (hcd : PySem.W.codeIn K (.ref c) "support" = true)
    (c_opened : Cal P w K mg base (L2.CX P w) 24 "opened" (spOpen C0 Ts)) (m_holds : CalM P w K mg base CX0 1 C "holds" (spHolds C)) :
    FnOk P w K mg base (L2.CX P w) 25 f (PySem.W.fnOf "support" "support" (defArgs s_support) (defBody s_support) (defScope s_support) .none kV doc pm an (.ref c) ct) ["office", "sealed", "keys"] (spSupp C C0 Ts K) := by
  refine fn_of (CX := L2.CX P w) lk hcd sc_support (fun vs H Q E h => ?_) (fun A outer s H vs Q E hr h => ?_)
  · obtain ⟨o, dm, ks, made, v, keys, rfl, _⟩ := h; rfl
  obtain ⟨o, dm, ks, made, v, keys, rfl, hO, ht, hz, hG, hk, q, qe⟩ := h
  refine ⟨_, (pss_cons (ps_asg (c_opened.pex hr (passX (takes_of rfl rfl rfl rfl) fun _ _ _ _ h => h) (pa_cons (pv 1) pa_nil)) (pg_tup rfl (pgs_cons (pg_name (i := 3) sc_support.nd rfl (Or.inr rfl)) (pgs_cons (pg_name (i := 4) sc_support.nd rfl (Or.inl rfl)) pgs_nil))))
    (pss_one (ps_ret (pe_sumG (N := ["key", "mark", "keys", "text", "office"]) (nt := 2) (fr := [2, 3, 0]) (g := gTup _ 2 (gCons (gName 0) (gCons (gName 1) (gNil)))) rfl hr zsum TB rfl (gnOf (by decide +kernel)) (by show freeOk _ (defScope s_support) = true; decide +kernel) (by show capOk _ _ _ N_support _ (defScope s_support) = true; decide +kernel)
      (pi_tup (pv 4)) (fun _ _ _ _ _ hr => (pg_tup rfl (pgs_cons (pg_name (i := 0) (by show List.Nodup (["key", "mark", "keys", "text", "office"] : List Str); decide +kernel) rfl (Or.inl rfl)) (pgs_cons (pg_name (i := 1) (by show List.Nodup (["key", "mark", "keys", "text", "office"] : List Str); decide +kernel) rfl (Or.inl rfl)) pgs_nil)))) (fun _ _ _ _ _ hr => pts_one (PW.pt (pw_and (pt_cmpR (show OpR _ _ (rIn K false) from op_in_seq) (pv 0) (pv 2) (by rfl)) (pw_and1 (pt_val (m_holds.pe hr (pv 4) (pa_cons (pv 0) (pa_cons (pv 3) (pa_cons (pv 1) pa_nil))))))))) (fun _ _ _ _ _ hr => pe_int) (fun _ => rfl))))), ?_⟩
  walk_at "wp"
  refine ⟨v, rfl, ht, hz, hG, fun x t e o1 u H1 k1 g1 hR => ?_, fun n H1 k1 g1 => qe n H1 k1 g1⟩
  obtain ⟨z, ss, rfl, c1, c2, c3⟩ := isCo_two o1.2.2.2
  obtain ⟨a, xs, eu, ea, r⟩ : ∃ a xs, u = .ref a ∧ H1 a = some (.tup xs) ∧ RepAll H1 xs [.str z, .tup ss] := by
    cases hR with
    | tup e r => exact ⟨_, _, rfl, e, r⟩
  subst eu
  cases r with
  | cons r1 r =>
  cases r with
  | cons r2 r =>
  cases r
  cases r1
  cases r2 with
  | @tup b ys _ eb rr =>
  have l8 : pl 8 (.tup [.str z, .tup ss]) = true := (pval_back 8 _ _ _ o1.2.2.1).2 (by have := o1.2.1; unfold prn at this; exact List.all_eq_true.mp this)
  refine ⟨a, _, rfl, SqT.of ea, rfl, _, _, rfl, _, _, rfl, rfl, ?_⟩
  refine ⟨_, rfl, b, rfl, ⟨ys, SqT.of eb⟩, g1 _ mt, fun H2 hT => ?_⟩
  have g2 := g1.tab hT mt
  have k2 : Kp Ts H1 H2 := Kp.tab (g1 _ mt) hT mt
  refine sum_tup (K := K) (a := b) (xs := ys) (fun i n σ H' => n = (suN made keys z (ss.take i) : Nat) ∧ (∃ q1 q2 : Option V, σ = [q1, q2, some (.ref ks), some (.str z), some (.ref o)]) ∧ Kp Ts H1 H' ∧ Tabs Ts H')
    ⟨rfl, ⟨_, _, rfl⟩, k2, g2⟩ (fun i n σ H' _ ⟨_, _, k, _⟩ => SqT.of (k.get g1 eb)) (fun i n y σ H' hy ⟨hn, ⟨q1, q2, hσ⟩, k3, g3⟩ => ?_) (fun n σ H' ⟨hn, ⟨q1, q2, hσ⟩, k3, g3⟩ => ?_)
  · subst hσ
    obtain ⟨s1, hs1, Rs⟩ := rr.get hy
    have tk : ss.take (i + 1) = ss.take i ++ [s1] := by rw [List.take_add_one, hs1]; rfl
    obtain ⟨ky, mk, rfl, _, _⟩ := isSl_two (c2 s1 (List.mem_of_getElem? hs1))
    have li : i < ss.length := (List.getElem?_eq_some_iff.mp hs1).1
    have le : suN made keys z (ss.take i) ≤ 32 := Nat.le_trans (List.countP_le_length) (by rw [List.length_take]; omega)
    have Rs := Rs.tabs k3 g1
    cases Rs with
    | @tup d _ _ ed rs =>
    cases rs with
    | cons q1 rs =>
    cases rs with
    | cons q2 rs =>
    cases rs; cases q1; cases q2
    refine ⟨d, _, rfl, SqT.of ed, rfl, _, _, rfl, _, _, rfl, rfl, ?_⟩
    walk_at "wp"
    have hk' : SqL K H' ks (keys.map V.str) ∨ SqT K H' ks (keys.map V.str) := hk.imp (fun h => (k1.trans k3).seqs hG h) fun h => (k1.trans k3).seqT hG h
    have ad : suN made keys z (ss.take (i + 1)) = suN made keys z (ss.take i) + if suC made keys z (.tup [.str ky, .str mk]) = true then 1 else 0 := by
      rw [tk]; unfold suN; rw [List.countP_append, List.countP_singleton]
    refine ⟨ks, _, rfl, hk', rfl, flat_strs keys, _, rfl, ?_⟩
    rw [if_neg Bool.false_ne_true, inV_strs]
    have ec : suC made keys z (.tup [.str ky, .str mk]) = (decide (ky ∈ keys) && hoV made (.str ky) (.str z) (.str mk)) := rfl
    split
    · rename_i h1
      obtain ⟨⟨dx, ho⟩, hd⟩ := hO
      have ho' := k3.get g1 (k1.get hG ho)
      have hd' := k3.get g1 (k1.get hG hd)
      refine ⟨dx, _, ho', rfl, o, dm, made, _, _, _, rfl, ⟨⟨dx, ho'⟩, hd'⟩, ⟨_, rfl⟩, ⟨_, rfl⟩, ⟨_, rfl⟩, fun H4 k4 => ⟨_, rfl, ?_⟩⟩
      rw [h1, Bool.true_and] at ec
      split
      · rename_i h2
        rw [ec, h2, if_pos rfl] at ad
        exact ⟨⟨by decide, by decide⟩, ⟨by omega, by omega⟩, by rw [ad, hn]; rfl, ⟨_, rfl⟩, k3.trans k4.in0, g3.kp0 k4⟩
      · rename_i h2
        rw [ec, if_neg h2] at ad
        exact ⟨by rw [ad, hn]; rfl, ⟨_, rfl⟩, k3.trans k4.in0, g3.kp0 k4⟩
    · rename_i h1
      have h1 : decide (ky ∈ keys) = false := by simpa using h1
      rw [ec, h1, Bool.false_and, if_neg (by decide)] at ad
      exact ⟨by rw [ad, hn]; rfl, ⟨_, rfl⟩, k3, g3⟩
  · subst hσ
    rw [hn, rr.len, List.take_length]
    exact q x z ss e o1 H' (k1.trans k3) g3
end

/-! k14, k17: each key once -/
abbrev s_law_once : Stmt := top 51
abbrev N_law_once : List Str := ["keys", "names", "key"]
theorem sc_law_once : FnScope N_law_once ["keys"] (defScope s_law_once) := ⟨rfl, rfl, rfl, by decide +kernel, rfl, by decide +kernel, by decide +kernel⟩
def spOnce (K : PySem.W.Frag) : Sp := fun vs H Q _ => ∃ (a : Addr) (xs : List Str), vs = [.ref a] ∧ SqL K H a (xs.map V.str) ∧ xs.length ≤ 1000 ∧ (∀ z ∈ xs, PyData.strOk z = true) ∧
  ∀ (ys : List Str) (p : Addr) (H' : Hp), asc ys = true → (∀ z, z ∈ ys ↔ z ∈ xs) → ys.length ≤ xs.length → H p = none → H' p = some (.lst (ys.map V.str)) → Kp [] H H' → Q (.ref p) H'
def lstS (l : List Str) : Str := l.getLast?.getD (Str.ofString "")
theorem asc_snocN {k : Str} : ∀ l : List Str, l ≠ [] → asc (l ++ [k]) = (asc l && lt (lstS l) k)
  | [], h => absurd rfl h
  | [x], _ => by
    show (lt x k && (true && true)) = ((true && true) && lt x k)
    cases lt x k <;> rfl
  | x :: y :: r, _ => by
    have ih := asc_snocN (k := k) (y :: r) (by simp)
    show (lt x y && asc ((y :: r) ++ [k])) = ((lt x y && asc (y :: r)) && lt (lstS (x :: y :: r)) k)
    rw [ih, show lstS (x :: y :: r) = lstS (y :: r) from rfl, Bool.and_assoc]
theorem rise_next : ∀ (p : Str) (l : List Str) (j : Nat) (x y : Str), PyProof.Rows.risingS p l = true → (p :: l)[j]? = some x → (p :: l)[j + 1]? = some y → lt y x = false
  | p, [], j, x, y, _, _, h => by cases j <;> cases h
  | p, z :: r, 0, x, y, h, hx, hy => by
    have h : (!PySem.Spec.ltCps z.cps.toList p.cps.toList && PyProof.Rows.risingS z r) = true := h
    rw [Bool.and_eq_true] at h
    cases hx; cases hy
    simpa [lt, TL.tl] using h.1
  | p, z :: r, j + 1, x, y, h, hx, hy => by
    have h : (!PySem.Spec.ltCps z.cps.toList p.cps.toList && PyProof.Rows.risingS z r) = true := h
    rw [Bool.and_eq_true] at h
    exact rise_next z r j x y h.2 hx hy
theorem sorted_next {l : List Str} {j : Nat} {x y : Str} (h : PyProof.Rows.sortedS l = true) (hx : l[j]? = some x) (hy : l[j + 1]? = some y) : lt y x = false := by
  cases l with
  | nil => cases hx
  | cons p r => exact rise_next p r j x y h hx hy
/-- what is kept of the first i -/
structure Kept (ys : List Str) (i : Nat) (zs : List Str) : Prop where
  a : asc zs = true
  m : ∀ z, z ∈ zs ↔ z ∈ ys.take i
  n : zs.length ≤ i
  l : (zs = [] ∧ i = 0) ∨ ∃ j, i = j + 1 ∧ zs ≠ [] ∧ ys[j]? = some (lstS zs)
theorem Kept.step {ys zs : List Str} {i : Nat} {y : Str} (k : Kept ys i zs) (s : PyProof.Rows.sortedS ys = true) (h : ys[i]? = some y) (d : zs = [] ∨ lstS zs ≠ y) : Kept ys (i + 1) (zs ++ [y]) := by
  have tk : ys.take (i + 1) = ys.take i ++ [y] := by rw [List.take_add_one, h]; rfl
  refine ⟨?_, fun z => ?_, by rw [List.length_append, List.length_singleton]; exact Nat.succ_le_succ k.n, .inr ⟨i, rfl, by simp, by unfold lstS; rw [List.getLast?_append]; simpa using h⟩⟩
  · rcases k.l with ⟨e, _⟩ | ⟨j, rfl, ne, hj⟩
    · rw [e]; rfl
    · rw [asc_snocN zs ne, k.a, Bool.true_and]
      rcases lt_tri (lstS zs) y with e | e | e
      · rcases d with d | d
        · exact absurd d ne
        · exact absurd e d
      · exact e
      · rw [sorted_next s hj h] at e; cases e
  · rw [tk, List.mem_append, List.mem_append, k.m]
theorem Kept.same {ys zs : List Str} {i : Nat} {y : Str} (k : Kept ys i zs) (h : ys[i]? = some y) (ne : zs ≠ []) (e : lstS zs = y) : Kept ys (i + 1) zs := by
  have tk : ys.take (i + 1) = ys.take i ++ [y] := by rw [List.take_add_one, h]; rfl
  have my : y ∈ zs := by
    rw [← e]
    unfold lstS
    cases hh : zs.getLast? with
    | none => exact absurd (List.getLast?_eq_none_iff.mp hh) ne
    | some q => exact List.mem_of_getLast? hh
  refine ⟨k.a, fun z => ?_, Nat.le_succ_of_le k.n, .inr ⟨i, rfl, ne, by rw [e]; exact h⟩⟩
  rw [tk, List.mem_append, ← k.m, List.mem_singleton]
  exact ⟨.inl, fun q => q.elim id fun q => by rw [q]; exact my⟩
section
variable {P : Program} {w : World} {K : PySem.W.Frag} {mg : Str → Option Value} {base : Heap} {f : Addr} {fd : FuncData}
theorem ok_once (F : Fun K "_law_once" "_law_once" s_law_once f fd) (B : Blt mg) (z1 : mg "sorted" = none) : FnOk P w K mg base CX0 1 f fd ["keys"] (spOnce K) := by
  refine F.ok sc_law_once (fun vs H Q E h => ?_) (fun cdv A outer s H vs Q E hr h => ?_)
  · obtain ⟨a, xs, rfl, _⟩ := h; rfl
  obtain ⟨a, xs, rfl, hS, hl, ho, q⟩ := h
  refine ⟨_, (pss_cons (ps_set (i := 1) sc_law_once.nd rfl (Or.inl rfl) (pe_lst pa_nil))
    (pss_cons (ps_for PassesOwn.never rfl (pi_list (pe_callB cr_sortedA rfl z1 (by decide +kernel) (pa_cons (pv 0) pa_nil))) (pg_name (i := 2) sc_law_once.nd rfl (Or.inl rfl)) (pss_one (ps_if (PW.pt (pw_or (pt_cmpR (op_eqD hr.units) (pv 1) (pe_lst pa_nil) (nomark _)) (pw_or1 (pt_cmpR op_ne (pe_ix ix_lM (pv 1) (pe_op op_sub (B.len_q (pa_cons (pv 1) pa_nil)) pe_int) (fun _ _ => rfl)) (pv 2) (nomark _))))) (pss_one (ps_expr (pe_bm PySem.F.plainAttrs_list PySem.F.slot_list_append PySem.F.type_list_append mt_append (pv 1) (pa_cons (pv 2) pa_nil)))) pss_nil)))
    (pss_one (ps_ret (pv 1))))), ?_⟩
  walk_at "wp"
  have lim : sizeLine = 16777216 := sizeLine_eq
  refine ⟨by omega, fun p hp => ?_⟩
  have hS1 : SqL K (upd H p (.lst [])) a (xs.map V.str) := (Kp.new hp _ : Kp [] _ _).seqL List.not_mem_nil hS
  refine ⟨_, rfl, a, xs, rfl, hS1, fun ys r perm srt hr2 => ⟨r, rfl, ⟨_, SqL.of upd_same⟩, ?_⟩⟩
  have hpr : p ≠ r := fun e => by rw [← e, upd_same] at hr2; cases hr2
  have lys : ys.length = xs.length := perm.length_eq
  refine for_list (K := K) (a := r) (xs := ys.map V.str) (fun i σ H' => ∃ zs : List Str, (∃ o : Option V, σ = [some (.ref a), some (.ref p), o]) ∧ Kept ys i zs ∧ H' p = some (.lst (zs.map V.str)) ∧ H' r = some (.lst (ys.map V.str)) ∧ Kp [] H H')
    ⟨[], ⟨_, rfl⟩, ⟨rfl, fun z => by simp, Nat.le_refl _, .inl ⟨rfl, rfl⟩⟩, by rw [upd_ne hpr]; exact upd_same, upd_same, (Kp.new hp _).trans (Kp.new hr2 _)⟩ (fun i σ H' _ ⟨_, _, _, _, e, _⟩ => SqL.of e) (fun i x σ H' hx ⟨zs, ⟨o, hσ⟩, kp, e1, e2, k⟩ => ?_) (fun σ H' ⟨zs, ⟨o, hσ⟩, kp, e1, e2, k⟩ => ?_)
  · subst hσ
    rw [List.getElem?_map] at hx
    obtain ⟨y, hy, rfl⟩ := Option.map_eq_some_iff.mp hx
    have li := (List.getElem?_eq_some_iff.mp hy).1
    have zn := kp.n
    walk_at "wp"
    have pn : p ∉ ([] : List Addr) := List.not_mem_nil
    have npr : p ≠ r := hpr
    have add : ∀ H2 : Hp, Kp [] H' H2 → (zs = [] ∨ lstS zs ≠ y) → tyV K "list" (V.ref p) H2 ∧ ∃ x, H2 p = some (HO.lst x) ∧ x.length < sizeLine ∧ (∃ o, some (V.str y) = o) ∧ ∃ x_1, Kept ys (i + 1) x_1 ∧ x ++ [V.str y] = List.map V.str x_1 ∧
        upd H2 p (HO.lst (x ++ [V.str y])) r = some (HO.lst (List.map V.str ys)) ∧ Kp [] H (upd H2 p (HO.lst (x ++ [V.str y]))) := fun H2 k2 d => by
      have f1 := k2.keep p _ pn e1
      have f2 := k2.keep r _ List.not_mem_nil e2
      exact ⟨.inl ⟨rfl, _, SqL.of f1⟩, _, f1, by rw [List.length_map]; omega, ⟨_, rfl⟩, _, kp.step srt hy d, by rw [List.map_append]; rfl, by rw [upd_ne (Ne.symm npr)]; exact f2, (k.trans k2).upd hp f1⟩
    refine ⟨by omega, fun p1 h1 => ?_⟩
    have k1 : Kp [] H' (upd H' p1 (.lst [])) := Kp.new h1 _
    have sok : ∀ z ∈ zs, PyData.strOk z = true := fun z hz => ho z (perm.mem_iff.mp (List.mem_of_mem_take ((kp.m z).mp hz)))
    refine ⟨.list (zs.map PyData.str), .list (([] : List Str).map PyData.str), .lst (SqL.of (k1.keep p _ pn e1)) (strs_dp zs), .lst (SqL.of upd_same) (strs_dp []), strs_shaped sok, strs_shaped (fun z hz => absurd hz List.not_mem_nil), _, rfl, ?_⟩
    rw [show PyData.eqv (.list (zs.map PyData.str)) (.list (([] : List Str).map PyData.str)) = decide (zs = []) from strs_eqv zs []]
    split
    · rename_i c
      exact add _ k1 (.inl (of_decide_eq_true c))
    · rename_i c
      have ne : zs ≠ [] := fun e => c (decide_eq_true e)
      have f1 := k1.keep p _ pn e1
      have lz : 0 < zs.length := List.length_pos_iff.mpr ne
      have ex : atI (zs.map V.str) (((zs.map V.str).length : Nat) - 1 : Int) = some (V.str (lstS zs)) := by
        rw [List.length_map, show ((zs.length : Nat) - 1 : Int) = ((zs.length - 1 : Nat) : Int) by omega]
        refine atI_nat ?_
        rw [List.getElem?_map]
        unfold lstS
        rw [List.getLast?_eq_getElem?, List.getElem?_eq_getElem (by omega)]
        rfl
      refine ⟨_, .inl (SqL.of f1), _, f1, _, ex, rfl, ?_⟩
      split
      · rename_i d
        exact add _ k1 (.inr fun e => d (by rw [e]))
      · rename_i d
        have d : V.str (lstS zs) = V.str y := Decidable.not_not.mp d
        exact ⟨⟨_, rfl⟩, zs, kp.same hy ne (V.str.inj d), f1, k1.keep r _ List.not_mem_nil e2, k.trans k1⟩
  · subst hσ
    walk_at "wp"
    rw [List.length_map] at kp
    have zn := kp.n
    exact q zs p H' kp.a (fun z => by rw [kp.m, List.take_length]; exact perm.mem_iff) (by omega) hp e1 k
end

/-! the law's own text and comparison -/
abbrev s_law_text : Stmt := top 50
abbrev N_law_text : List Str := ["value", "item"]
theorem sc_law_text : FnScope N_law_text ["value"] (defScope s_law_text) := ⟨rfl, rfl, rfl, by decide +kernel, rfl, by decide +kernel, by decide +kernel⟩
def spLText (n : Nat) : Sp := fun vs H Q _ => ∃ (v : V) (t : Tr), vs = [v] ∧ Rep H v t ∧ pl n t = true ∧ sml t = true ∧ (txt t).length ≤ 1000000 ∧ ∀ H', Kp [] H H' → Q (.str ⟨(txt t).toArray⟩) H'
def spLTextR : Nat → Sp
  | 0 => fun _ _ _ _ => False
  | n + 1 => spLText n
def spSame (n : Nat) : Sp := fun vs H Q _ => ∃ (u v : V) (a b : Tr), vs = [u, v] ∧ Rep H u a ∧ Rep H v b ∧ pl n b = true ∧ sml b = true ∧ (Q (.bl (same a b)) H)
def spSameR : Nat → Sp
  | 0 => fun _ _ _ _ => False
  | n + 1 => spSame n
section
variable {P : Program} {w : World} {K : PySem.W.Frag} {mg : Str → Option Value} {base : Heap} {f : Addr} {fd : FuncData}
theorem ok_ltext {n j : Nat} (F : Fun K "_law_text" "_law_text" s_law_text f fd) (B : Blt mg) (c_law_text : Cal P w K mg base CX0 j "_law_text" (spLTextR n)) : FnOk P w K mg base CX0 (j + 1) f fd ["value"] (spLText n) := by
  refine F.ok sc_law_text (fun vs H Q E h => ?_) (fun cdv A outer s H vs Q E hr h => ?_)
  · obtain ⟨_, _, rfl, _⟩ := h; rfl
  obtain ⟨v, t, rfl, hR, hp, hs, hl, q⟩ := h
  refine ⟨_, (pss_cons (ps_if (pt_val (B.isT (pv 0) B.v_tuple)) (pss_one (ps_ret (pe_op op_add_str (pe_op op_add_str pe_str (pe_join pe_str (pe_lc (own := [("item", 1)]) (g := gName 1) (tt := tYes) rfl sc_law_text.nd (pi_tup (pv 0)) (blkOk_by (own := [("item", 1)]) (N := N_law_text) (sc := defScope s_law_text) (by decide +kernel)) (fun _ _ _ _ _ => pg_name (i := 1) sc_law_text.nd rfl (Or.inl rfl)) (fun _ _ _ _ _ => pts_nil) (fun _ _ _ _ _ => (c_law_text.pe hr (pa_cons (pv 1) pa_nil)))))) pe_str))) pss_nil)
    (pss_cons (ps_if (pt_val (B.isT (pv 0) B.v_str)) (pss_one (ps_ret (pe_op op_add_str (pe_op op_add_str (B.str_i (pa_cons (B.len_s (pa_cons (pv 0) pa_nil)) pa_nil)) pe_str) (pv 0)))) pss_nil)
    (pss_one (ps_ret (pe_op op_add_str (B.str_i (pa_cons (pv 0) pa_nil)) pe_str))))), ?_⟩
  walk_at "wp"
  have lim : sizeLine = 16777216 := sizeLine_eq
  cases hR with
  | str z =>
    obtain ⟨a1, a2, a3, a4, a5⟩ := strT (of_decide_eq_true (show decide (z.length ≤ 10000000) = true from hs))
    refine ⟨_, rfl, ?_⟩
    rw [if_neg (by decide)]
    refine ⟨_, rfl, ?_⟩
    rw [if_pos (by decide)]
    refine ⟨z, rfl, a1, a2, a3, z, rfl, a4, ?_⟩
    rw [a5]
    exact q H (Kp.refl _ _)
  | int i =>
    have h : (decide (0 ≤ i) && decide (i ≤ 99999999999999999999)) = true := hp
    rw [Bool.and_eq_true, decide_eq_true_eq, decide_eq_true_eq] at h
    obtain ⟨a1, a2, a3⟩ := intT h.1 h.2
    refine ⟨_, rfl, ?_⟩
    rw [if_neg (by decide)]
    refine ⟨_, rfl, ?_⟩
    rw [if_neg (by decide)]
    refine ⟨i, rfl, a1, a2, ?_⟩
    rw [a3]
    exact q H (Kp.refl _ _)
  | oth _ _ _ _ => cases hp
  | tup e hA =>
    rename_i a xs ts
    cases n with
    | zero => cases hp
    | succ m =>
    have hp : pls m ts = true := hp
    have hs : (smls ts && decide (ts.length ≤ 1000000)) = true := hs
    rw [Bool.and_eq_true, decide_eq_true_eq] at hs
    have hl : (91 :: (txts ts ++ [93])).length ≤ 1000000 := hl
    rw [List.length_cons, List.length_append] at hl
    have hl : (txts ts).length + 1 + 1 ≤ 1000000 := hl
    have xl := hA.len
    refine ⟨_, tyN_tup e, ?_⟩
    rw [if_pos (by decide)]
    refine ⟨⟨_, rfl⟩, _, rfl, a, rfl, ⟨xs, SqT.of e⟩, fun D hD => ?_⟩
    refine lc_tup (K := K) (a := a) (xs := xs) (fun i H' => H' D = some (.lst ((tys (ts.take i)).map V.str)) ∧ Kp [] H H') ⟨upd_same, Kp.new hD _⟩ (fun i H' _ ⟨_, k⟩ => SqT.of (k.keep _ _ (by simp) e))
      (fun i x H' hx ⟨hD', k⟩ => ?_) (fun H' ⟨hD', k⟩ => ?_)
    · obtain ⟨t, ht, hRt⟩ := hA.get hx
      have hm := List.mem_of_getElem? ht
      have ml := mem_len hm
      refine ⟨rfl, ?_⟩
      simp only [tYes, if_true]
      refine ⟨_, rfl, x, t, rfl, hRt.kp0 k, pls_mem hp hm, smls_mem hs.1 hm, by omega, fun H5 k5 => ?_⟩
      have hD5 := k5.keep D _ (by simp) hD'
      have tl1 : (ts.take i).length ≤ 1000000 := by rw [List.length_take]; omega
      refine ⟨_, hD5, by rw [List.length_map]; unfold tys; rw [List.length_map]; omega, ?_, (k.trans k5).upd hD hD5⟩
      rw [upd_same, take_one ht, tys_app, List.map_append]
      rfl
    · rw [xl, List.take_length] at hD'
      obtain ⟨a1, a2, a3, a4⟩ := tupT ts (by omega)
      refine ⟨D, rfl, tys ts, .inl (SqL.of hD'), a1, a2, a3, ?_⟩
      rw [a4]
      exact q H' k
end

/-! the laws' own keys, words, marks -/
abbrev s_law_counts : Stmt := top 52
abbrev N_law_counts : List Str := ["actual", "expected"]
theorem sc_law_counts : FnScope N_law_counts ["actual", "expected"] (defScope s_law_counts) := ⟨rfl, rfl, rfl, by decide +kernel, rfl, by decide +kernel, by decide +kernel⟩
def spSays : Sp := fun vs H Q _ => ∃ a b : Bool, vs = [.bl a, .bl b] ∧ Q (.bl (a == b)) H
def spLKey : Sp := fun vs H Q _ => ∃ s : Addr, vs = [.ref s] ∧ Strm H s ∧ ∀ (k : Str) (H' : Hp), kyS k = true → Kp [s] H H' → Strm H' s → Q (.str k) H'
def spLWord : Sp := fun vs H Q _ => ∃ s : Addr, vs = [.ref s] ∧ Strm H s ∧ ∀ (t : Str) (H' : Hp), prn t = true → t.length ≤ 60 → Kp [s] H H' → Strm H' s → Q (.str t) H'
def spCounts : Sp := fun vs H Q _ => ∃ a b : Int, vs = [.int a, .int b] ∧ Q (.bl (decide (a = b))) H
/-- the lowest k hexadecimal signs of n -/
def ldx : Nat → Nat → List Nat
  | 0, _ => []
  | k + 1, n => (Nat.digitChar (n / 16 ^ k % 16)).toNat :: ldx k n
theorem ldx_snoc : ∀ (k n : Nat), ldx (k + 1) n = ldx k (n / 16) ++ [(Nat.digitChar (n % 16)).toNat]
  | 0, n => by
    show [(Nat.digitChar (n / 16 ^ 0 % 16)).toNat] = _
    rw [Nat.pow_zero, Nat.div_one]; rfl
  | k + 1, n => by
    show (Nat.digitChar (n / 16 ^ (k + 1) % 16)).toNat :: ldx (k + 1) n = _
    rw [ldx_snoc k n]
    show _ = (Nat.digitChar (n / 16 / 16 ^ k % 16)).toNat :: ldx k (n / 16) ++ _
    rw [Nat.div_div_eq_div_mul, ← Nat.pow_succ']
    rfl
theorem ldx_zero : ∀ k, ldx k 0 = List.replicate k 48
  | 0 => rfl
  | k + 1 => by
    show (Nat.digitChar (0 / 16 ^ k % 16)).toNat :: ldx k 0 = _
    rw [Nat.zero_div, ldx_zero k]; rfl
theorem ldx_hx : ∀ (k n : Nat), n < 16 ^ (k + 1) → List.replicate (k + 1 - (hxT n).length) 48 ++ hxT n = ldx (k + 1) n
  | 0, n, h => by
    have h : n < 16 := h
    rw [hxT_one h, ldx_snoc, Nat.mod_eq_of_lt h]; rfl
  | k + 1, n, h => by
    rw [ldx_snoc]
    by_cases c : n < 16
    · rw [hxT_one c, Nat.div_eq_of_lt c, ldx_zero, Nat.mod_eq_of_lt c]
      rfl
    · have ih := ldx_hx k (n / 16) (by rw [Nat.pow_succ] at h; exact Nat.div_lt_of_lt_mul (by omega))
      rw [← ih, hxT_snoc c, List.length_append, List.append_assoc]
      congr 2
      show k + 1 + 1 - ((hxT (n / 16)).length + 1) = _
      omega
theorem ldx_len : ∀ (k n : Nat), (ldx k n).length = k
  | 0, _ => rfl
  | k + 1, n => by show (ldx k n).length + 1 = _; rw [ldx_len k n]
theorem hx_at : ∀ d : Nat, d < 16 → (Str.ofString "0123456789abcdef").cps.toList[d]? = some (Nat.digitChar d).toNat := by decide +kernel
theorem hx18_ldx {n : Nat} (h : n < dgD) : hx18 n = ldx 18 n := ldx_hx 17 n (Nat.lt_trans h (by decide))
section
variable {P : Program} {w : World} {K : PySem.W.Frag} {mg : Str → Option Value} {base : Heap} {f : Addr} {fd : FuncData}
theorem ok_counts (F : Fun K "_law_counts" "_law_counts" s_law_counts f fd) (B : Blt mg) : FnOk P w K mg base CX0 1 f fd ["actual", "expected"] spCounts := by
  refine F.ok sc_law_counts (fun vs H Q E h => ?_) (fun cdv A outer s H vs Q E hr h => ?_)
  · obtain ⟨a, b, rfl, _⟩ := h; rfl
  obtain ⟨a, b, rfl, q⟩ := h
  refine ⟨_, (pss_one (ps_ret (pe_and (B.isT (pv 0) B.v_int) (pe_and (pe_not (B.isT (pv 0) B.v_bool)) (pe_one (pe_cmpR op_eq (pv 0) (pv 1) (nomark _))))))), ?_⟩
  walk_at "wp"
  exact q
end

/-! plain trees and their sizes -/
def okT (d : Nat) (t : Tr) (n : Nat) : Prop := pl d t = true ∧ sml t = true ∧ (txt t).length ≤ n
theorem okT_str {d m : Nat} {z : Str} (p : prn z = true) (h : z.length ≤ m) (hm : m ≤ 1000) : okT d (.str z) (m + 21) := by
  refine ⟨by cases d <;> exact p, decide_eq_true (show z.length ≤ 10000000 by omega), ?_⟩
  have := dig_len (n := z.length) (by omega)
  show (dig z.length ++ 58 :: TL.tl z).length ≤ _
  rw [List.length_append, List.length_cons, ← TL.len_tl]
  omega
theorem okT_int {d : Nat} {i : Int} (h0 : 0 ≤ i) (h1 : i ≤ 99999999999999999999) : okT d (.int i) 21 := by
  refine ⟨by cases d <;> exact (by rw [Bool.and_eq_true, decide_eq_true_eq, decide_eq_true_eq]; exact ⟨h0, h1⟩ : (decide (0 ≤ i) && decide (i ≤ 99999999999999999999)) = true), rfl, ?_⟩
  have := dig_len (n := i.toNat) (by omega)
  show (dig i.toNat ++ [46]).length ≤ _
  rw [List.length_append, List.length_singleton]
  omega
theorem okT.le {d n m : Nat} {t : Tr} (h : okT d t n) (l : n ≤ m) : okT d t m := ⟨h.1, h.2.1, Nat.le_trans h.2.2 l⟩
theorem okT_all {d n : Nat} : ∀ {ts : List Tr}, (∀ t ∈ ts, okT d t n) → pls d ts = true ∧ smls ts = true ∧ (txts ts).length ≤ ts.length * n
  | [], _ => ⟨rfl, rfl, by simp [txts]⟩
  | t :: ts, h => by
    obtain ⟨a1, a2, a3⟩ := h t List.mem_cons_self
    obtain ⟨b1, b2, b3⟩ := okT_all fun u m => h u (List.mem_cons_of_mem _ m)
    refine ⟨by show (pl d t && pls d ts) = true; rw [a1, b1]; rfl, by show (sml t && smls ts) = true; rw [a2, b2]; rfl, ?_⟩
    show (txt t ++ txts ts).length ≤ (ts.length + 1) * n
    rw [List.length_append, Nat.succ_mul]; omega
theorem okT_tup {d n m : Nat} {ts : List Tr} (h : ∀ t ∈ ts, okT d t n) (l : ts.length ≤ m) (hm : m ≤ 1000) : okT (d + 1) (.tup ts) (m * n + 2) := by
  obtain ⟨b1, b2, b3⟩ := okT_all h
  refine ⟨b1, by show (smls ts && decide (ts.length ≤ 1000000)) = true; rw [b2, decide_eq_true (by omega)]; rfl, ?_⟩
  show (91 :: (txts ts ++ [93])).length ≤ _
  rw [List.length_cons, List.length_append, List.length_singleton]
  have := Nat.mul_le_mul_right n l
  omega
/-- a pair, near a seal, or whatever -/
def Fine (H : Hp) (x : V) (d n : Nat) : Prop := ∃ t, Rep H x t ∧ okT d t n
theorem Fine.any {S : List Addr} {H H' : Hp} {x : V} {d n : Nat} (k : Kp S H H') (g : Fine H x d n) : Fine H' x d n :=
  let ⟨t, a, b⟩ := g
  ⟨t, a.any k (pl_pure _ _ b.1), b⟩
theorem Fine.le {H : Hp} {x : V} {d n m : Nat} (g : Fine H x d n) (l : n ≤ m) : Fine H x d m :=
  let ⟨t, a, b⟩ := g
  ⟨t, a, b.le l⟩
theorem fine_str {H : Hp} {z : Str} {d m : Nat} (p : prn z = true) (h : z.length ≤ m) (hm : m ≤ 1000) : Fine H (.str z) d (m + 21) := ⟨_, .str z, okT_str p h hm⟩
theorem fine_int {H : Hp} {i : Int} {d : Nat} (h0 : 0 ≤ i) (h1 : i ≤ 99999999999999999999) : Fine H (.int i) d 21 := ⟨_, .int i, okT_int h0 h1⟩
theorem atI_mem {xs : List V} {i : Int} (h0 : 0 ≤ i) (h1 : i < (xs.length : Nat)) : ∃ x, atI xs i = some x ∧ x ∈ xs := by
  obtain ⟨x, hx⟩ : ∃ x, xs[i.toNat]? = some x := ⟨_, List.getElem?_eq_getElem (by omega)⟩
  refine ⟨x, ?_, List.mem_of_getElem? hx⟩
  rw [show i = ((i.toNat : Nat) : Int) by omega]
  exact atI_nat hx
theorem fines {H : Hp} {d n : Nat} : ∀ {xs : List V}, (∀ x ∈ xs, Fine H x d n) → ∃ ts, RepAll H xs ts ∧ ∀ t ∈ ts, okT d t n
  | [], _ => ⟨[], .nil, fun t h => absurd h List.not_mem_nil⟩
  | x :: xs, h => by
    obtain ⟨t, a, b⟩ := h x List.mem_cons_self
    obtain ⟨ts, c, e⟩ := fines fun y m => h y (List.mem_cons_of_mem _ m)
    exact ⟨t :: ts, .cons a c, fun u m => by
      rcases List.mem_cons.mp m with rfl | m
      · exact b
      · exact e u m⟩
theorem fine_tup {H : Hp} {p : Addr} {xs : List V} {d n m : Nat} (e : H p = some (.tup xs)) (h : ∀ x ∈ xs, Fine H x d n) (l : xs.length ≤ m) (hm : m ≤ 1000) : Fine H (.ref p) (d + 1) (m * n + 2) := by
  obtain ⟨ts, r, a⟩ := fines h
  exact ⟨_, .tup e r, okT_tup a (by rw [← r.len]; exact l) hm⟩

/-! pairs of texts, as tuples in a list -/
/-- the tuples at ts are the pairs made -/
def PrsAt (H : Hp) (ts : List Addr) (made : List (Str × Str)) : Prop := ts.length = made.length ∧ ∀ (i : Nat) (t : Addr) (p : Str × Str), ts[i]? = some t → made[i]? = some p → H t = some (.tup [.str p.1, .str p.2])
def okP (made : List (Str × Str)) : Prop := ∀ p : Str × Str, p ∈ made → kyS p.1 = true ∧ prn p.2 = true ∧ p.2.length ≤ 60
/-- a value that is asked about -/
def qV (H : Hp) (v : V) : Prop := (∃ t, tyN H v = some t) ∧ ∀ z, v = .str z → z.length ≤ 100 ∧ PyData.strOk z = true
theorem PrsAt.kp {S : List Addr} {H H' : Hp} {ts : List Addr} {made : List (Str × Str)} (h : PrsAt H ts made) (k : Kp S H H') : PrsAt H' ts made := ⟨h.1, fun i t p e1 e2 => k.tup _ _ (h.2 i t p e1 e2)⟩
theorem PrsAt.get {H : Hp} {ts : List Addr} {made : List (Str × Str)} (h : PrsAt H ts made) {v : Int} (h0 : 0 ≤ v) (h1 : v < ((ts.map V.ref).length : Nat)) : ∃ t p, atI (ts.map V.ref) v = some (.ref t) ∧ H t = some (.tup [.str p.1, .str p.2]) ∧ p ∈ made := by
  rw [List.length_map] at h1
  have ht : v.toNat < ts.length := by omega
  have hm : v.toNat < made.length := by rw [← h.1]; exact ht
  refine ⟨ts[v.toNat], made[v.toNat], ?_, h.2 v.toNat _ _ (List.getElem?_eq_getElem ht) (List.getElem?_eq_getElem hm), List.getElem_mem hm⟩
  have ev : v = ((v.toNat : Nat) : Int) := by omega
  have z := atI_nat (xs := ts.map V.ref) (j := v.toNat) (v := V.ref ts[v.toNat]) (by rw [List.getElem?_map, List.getElem?_eq_getElem ht]; rfl)
  rw [← ev] at z
  exact z
theorem mkS_len (k t : Str) : (mkS k t).length = 18 := dgs_len _
theorem strOk_mk (k t : Str) : PyData.strOk (mkS k t) = true := strOk_of fun c hc => by
  have h := hx18_in _ c hc
  simp only [hxs, List.mem_cons, List.not_mem_nil, or_false] at h
  omega
theorem qV_str {H : Hp} {z : Str} (h : z.length ≤ 100) (o : PyData.strOk z = true) : qV H (.str z) := ⟨⟨_, rfl⟩, fun y e => by cases e; exact ⟨h, o⟩⟩
/-- a tuple of two texts among those that were made -/
theorem prs_dp {K : PySem.W.Frag} {H : Hp} : ∀ {ts : List Addr} {made : List (Str × Str)}, PrsAt H ts made → DpAll K H (ts.map V.ref) (made.map fun p => .tuple [.str p.1, .str p.2])
  | [], [], _ => .nil
  | [], _ :: _, h => absurd h.1 (by simp)
  | _ :: _, [], h => absurd h.1 (by simp)
  | t :: ts, p :: made, h => .cons (.tup (SqT.of (h.2 0 t p rfl rfl)) (.cons (.str _) (.cons (.str _) .nil))) (prs_dp ⟨by have := h.1; simpa using this, fun i t p e1 e2 => h.2 (i + 1) t p e1 e2⟩)
theorem prs_shaped (made : List (Str × Str)) (hok : okP made) : SeqAt.shaped (.list (made.map fun p => .tuple [.str p.1, .str p.2])) = true := by
  have h : ∀ made : List (Str × Str), okP made → PyData.canLayAll0 (made.map fun p => PyData.tuple [.str p.1, .str p.2]) = true ∧ PyData.depthAll (made.map fun p => PyData.tuple [.str p.1, .str p.2]) ≤ 1 := fun made => by
    induction made with
    | nil => exact fun _ => ⟨by simp [PyData.canLayAll0], by simp [PyData.depthAll]⟩
    | cons p r ih =>
      intro hok
      have ih := ih fun q hq => hok q (List.mem_cons_of_mem _ hq)
      obtain ⟨h1, h2, _⟩ := hok p List.mem_cons_self
      exact ⟨by simp [PyData.canLayAll0, PyData.canLay0, ih.1, strOk_ky h1, strOk_prn h2], by
        have := ih.2
        simp only [List.map_cons, PyData.depthAll, PyData.depth]
        omega⟩
  obtain ⟨h1, h2⟩ := h made hok
  unfold SeqAt.shaped
  rw [Bool.and_eq_true]
  exact ⟨by simp [PyData.canLay0, h1], decide_eq_true (by simp only [PyData.depth]; omega)⟩
theorem pr_shaped {k t : Str} (h1 : PyData.strOk k = true) (h2 : PyData.strOk t = true) : SeqAt.shaped (.tuple [.str k, .str t]) = true := by
  unfold SeqAt.shaped
  rw [Bool.and_eq_true]
  exact ⟨by simp [PyData.canLay0, PyData.canLayAll0, h1, h2], decide_eq_true (by simp [PyData.depth, PyData.depthAll])⟩
theorem prs_any (k t : Str) : ∀ made : List (Str × Str), ((made.map fun p : Str × Str => PyData.tuple [.str p.1, .str p.2]).any fun z => PyData.eqv z (.tuple [.str k, .str t])) = decide ((k, t) ∈ made)
  | [] => rfl
  | p :: r => by
    rw [List.map_cons, List.any_cons, prs_any k t r]
    show ((p.1 == k && (p.2 == t && true)) || _) = _
    rw [Bool.and_true, Bool.eq_iff_iff, Bool.or_eq_true, Bool.and_eq_true, beq_iff_eq, beq_iff_eq, decide_eq_true_eq, decide_eq_true_eq, List.mem_cons]
    constructor
    · rintro (⟨e1, e2⟩ | h)
      · exact .inl (by rw [← e1, ← e2])
      · exact .inr h
    · rintro (h | h)
      · exact .inl ⟨by rw [← h], by rw [← h]⟩
      · exact .inr h

/-! seal -/
abbrev s_different_keys : Stmt := top 39
abbrev N_different_keys : List Str := ["keys", "different"]
theorem sc_different_keys : FnScope N_different_keys ["keys"] (defScope s_different_keys) := ⟨rfl, rfl, rfl, by decide +kernel, rfl, by decide +kernel, by decide +kernel⟩
abbrev s_seal : Stmt := top 36
abbrev N_seal : List Str := ["office", "text", "keys", "different", "blank", "key"]
theorem sc_seal : FnScope N_seal ["office", "text", "keys"] (defScope s_seal) := ⟨rfl, rfl, rfl, by decide +kernel, rfl, by decide +kernel, by decide +kernel⟩
structure MsC (mg : Str → Option Value) : Prop where
  c_MOST_SEALS : ∃ t, mg "MOST_SEALS" = some (.int 32 t)
theorem if_no {p : Prop} [Decidable p] {A B : Prop} (h : ¬ p) (b : B) : if p then A else B := by rw [if_neg h]; exact b
theorem if_yes {p : Prop} [Decidable p] {A B : Prop} (h : p) (b : A) : if p then A else B := by rw [if_pos h]; exact b
/-- the tree of a sealed text -/
def rowT (z k : Str) : Tr := .tup [.str k, .str (mkS k z)]
def sealT (z : Str) (ys : List Str) : Tr := .tup [.str z, .tup (ys.map (rowT z))]
/-- what is made of the pairs of the keys with a text -/
def madeA (made : List (Str × Str)) (z : Str) (ys : List Str) : List (Str × Str) := ys.foldl (fun m k => addP m (k, z)) made
def blk : Str := ⟨(List.replicate 18 48).toArray⟩
def rowB (b k : Str) : Tr := .tup [.str k, .str b]
def sealB (z b : Str) (ys : List Str) : Tr := .tup [.str z, .tup (ys.map (rowB b))]
theorem kyl12 {k : Str} (h : kyS k = true) : k.length ≤ 12 := by
  unfold kyS at h
  simp only [Bool.and_eq_true, decide_eq_true_eq] at h
  exact h.1.1.2
theorem kyPrn {z : Str} (h : kyS z = true) : prn z = true := by
  unfold prn
  rw [List.all_eq_true]
  intro c hc
  unfold kyS at h
  simp only [Bool.and_eq_true, decide_eq_true_eq] at h
  obtain ⟨⟨⟨h1, h2⟩, h3⟩, h4⟩ := h
  have hl : z.cps.toList.length = z.length := cps_lenP z
  cases e : z.cps.toList with
  | nil => rw [e] at hl; simp at hl; omega
  | cons d r =>
    have hc : c ∈ d :: r := by rw [← e]; exact hc
    rw [e] at h3
    have h3 : d = 107 := Option.some.inj h3
    rcases List.mem_cons.mp hc with hc | hc
    · rw [hc, h3]; decide +kernel
    · unfold inT at h4
      rw [List.all_eq_true] at h4
      have e2 : (cutS z (some 1) none).cps.toList = r := by
        have := cut_from z 1
        rw [show TL.tl z = d :: r from e] at this
        exact this
      have := of_decide_eq_true (h4 c (by rw [e2]; exact hc))
      exact (by decide +kernel : ∀ c ∈ (Str.ofString "0123456789").cps.toList, prc c = true) c this
theorem rows_pure (b : Str) : ∀ ys : List Str, pures (ys.map (rowB b)) = true
  | [] => rfl
  | y :: ys => rows_pure b ys
theorem rowsT_pure (z : Str) : ∀ ys : List Str, pures (ys.map (rowT z)) = true
  | [] => rfl
  | y :: ys => rowsT_pure z ys
theorem pls_rowB {n : Nat} {b : Str} (hb : prn b = true) : ∀ {ys : List Str}, (∀ k ∈ ys, prn k = true) → pls (n + 1) (ys.map (rowB b)) = true
  | [], _ => rfl
  | y :: ys, h => by
    show ((prn y && (prn b && true)) && pls (n + 1) (ys.map (rowB b))) = true
    rw [h y List.mem_cons_self, hb, pls_rowB hb fun k m => h k (List.mem_cons_of_mem _ m)]; rfl
theorem pl_sealB {z b : Str} {ys : List Str} (hz : prn z = true) (hb : prn b = true) (hk : ∀ k ∈ ys, prn k = true) : pl 8 (sealB z b ys) = true := by
  show (prn z && (pls 6 (ys.map (rowB b)) && true)) = true
  rw [hz, pls_rowB hb hk]; rfl
theorem smls_rowB {b : Str} (hb : b.length ≤ 10000000) : ∀ {ys : List Str}, (∀ k ∈ ys, k.length ≤ 12) → smls (ys.map (rowB b)) = true
  | [], _ => rfl
  | y :: ys, h => by
    show (((decide (y.length ≤ 10000000) && (decide (b.length ≤ 10000000) && true)) && decide (2 ≤ 1000000)) && smls (ys.map (rowB b))) = true
    rw [decide_eq_true (show y.length ≤ 10000000 by have := h y List.mem_cons_self; omega), decide_eq_true hb, smls_rowB hb fun k m => h k (List.mem_cons_of_mem _ m)]; rfl
theorem sml_sealB {z b : Str} {ys : List Str} (hz : z.length ≤ 10000000) (hb : b.length ≤ 10000000) (ly : ys.length ≤ 32) (hk : ∀ k ∈ ys, k.length ≤ 12) : sml (sealB z b ys) = true := by
  show ((decide (z.length ≤ 10000000) && ((smls (ys.map (rowB b)) && decide ((ys.map (rowB b)).length ≤ 1000000)) && true)) && decide (2 ≤ 1000000)) = true
  rw [decide_eq_true hz, smls_rowB hb hk, List.length_map, decide_eq_true (show ys.length ≤ 1000000 by omega)]; rfl
theorem mkS_prn (k z : Str) : prn (mkS k z) = true := by
  unfold prn
  rw [List.all_eq_true]
  intro c hc
  have h := hx18_in _ c hc
  exact (by decide +kernel : ∀ c ∈ hxs, prc c = true) c h
theorem pls_rowT {n : Nat} {z : Str} (hz : prn z = true) : ∀ {ys : List Str}, (∀ k ∈ ys, prn k = true) → pls (n + 1) (ys.map (rowT z)) = true
  | [], _ => rfl
  | y :: ys, h => by
    show ((prn y && (prn (mkS y z) && true)) && pls (n + 1) (ys.map (rowT z))) = true
    rw [h y List.mem_cons_self, mkS_prn, pls_rowT hz fun k m => h k (List.mem_cons_of_mem _ m)]; rfl
theorem pl_sealT {z : Str} {ys : List Str} (hz : prn z = true) (hk : ∀ k ∈ ys, prn k = true) : pl 8 (sealT z ys) = true := by
  show (prn z && (pls 6 (ys.map (rowT z)) && true)) = true
  rw [hz, pls_rowT hz hk]; rfl
theorem rowsB_len (z : Str) : ∀ ys : List Str, (txts (ys.map (rowT z))).length = (txts (ys.map (rowB blk))).length
  | [] => rfl
  | y :: ys => by
    have e : ∀ m : Str, m.length = 18 → (txt (.tup [.str y, .str m])).length = (dig y.length).length + (y.length + 1) + ((dig 18).length + 19) + 2 := fun m hm => by
      show (91 :: (((dig y.length ++ 58 :: TL.tl y) ++ ((dig m.length ++ 58 :: TL.tl m) ++ [])) ++ [93])).length = _
      rw [hm]
      simp only [List.length_cons, List.length_append, List.length_nil, ← TL.len_tl, hm]
      try omega
    show (txt (.tup [.str y, .str (mkS y z)]) ++ txts (ys.map (rowT z))).length = (txt (.tup [.str y, .str blk]) ++ txts (ys.map (rowB blk))).length
    rw [List.length_append, List.length_append, rowsB_len z ys, e _ (mkS_len y z), e blk (by decide +kernel)]
theorem sealB_len (z : Str) (ys : List Str) : (txt (sealT z ys)).length = (txt (sealB z blk ys)).length := by
  have e : ∀ ts : List Tr, (txt (.tup [.str z, .tup ts])).length = (txt (.str z)).length + (txts ts).length + 4 := fun ts => by
    show (91 :: ((txt (.str z) ++ ((91 :: (txts ts ++ [93])) ++ [])) ++ [93])).length = _
    simp only [List.length_cons, List.length_append, List.length_nil]
    omega
  show (txt (.tup [.str z, .tup (ys.map (rowT z))])).length = (txt (.tup [.str z, .tup (ys.map (rowB blk))])).length
  rw [e, e, rowsB_len]
theorem madeA_len (made : List (Str × Str)) (z : Str) : ∀ ys : List Str, (madeA made z ys).length ≤ made.length + ys.length := by
  intro ys
  induction ys generalizing made with
  | nil => exact Nat.le_refl _
  | cons y ys ih =>
    have := ih (addP made (y, z))
    have := addP_len made (y, z)
    show (madeA (addP made (y, z)) z ys).length ≤ made.length + (ys.length + 1)
    omega
theorem madeA_snoc (made : List (Str × Str)) (z k : Str) (ys : List Str) : madeA made z (ys ++ [k]) = addP (madeA made z ys) (k, z) := by
  unfold madeA
  rw [List.foldl_append]; rfl
def spDiff (CK : Addr) (K : PySem.W.Frag) (Ts : List Addr) : Sp := fun vs H Q E => ∃ (a : Addr) (xs : List V), vs = [.ref a] ∧ SqL K H a xs ∧ xs.length ≤ 1000 ∧ (∀ x ∈ xs, (∃ t, tyN H x = some t) ∧ szV x) ∧ Tabs Ts H ∧
  (xs.all kyV = false → ∀ H', Kp Ts H H' → Tabs Ts H' → E (.ref CK) none H') ∧
  ∀ ks : List Str, xs = ks.map V.str → (∀ k ∈ ks, kyS k = true) → ∀ ys : List Str, asc ys = true → (∀ z, z ∈ ys ↔ z ∈ ks) → (32 < ys.length → ∀ H', Kp Ts H H' → Tabs Ts H' → E (.ref CK) none H') ∧
    (ys.length ≤ 32 → ∀ (p : Addr) (H' : Hp), Kp Ts H H' → Tabs Ts H' → H p = none → H' p = some (.lst (ys.map V.str)) → Q (.ref p) H')
section
variable {P : Program} {w : World} {K : PySem.W.Frag} {mg : Str → Option Value} {base : Heap} {f : Addr} {fd : FuncData} {C CK CT : Addr} {Ts : List Addr}
theorem kys_of : ∀ {xs : List V}, xs.all kyV = true → ∃ ks : List Str, xs = ks.map V.str ∧ ∀ k ∈ ks, kyS k = true
  | [], _ => ⟨[], rfl, fun _ m => absurd m List.not_mem_nil⟩
  | x :: xs, h => by
    rw [List.all_cons, Bool.and_eq_true] at h
    obtain ⟨ks, e, hk⟩ := kys_of h.2
    obtain ⟨k, rfl⟩ : ∃ k, x = .str k := by
      cases x with
      | str k => exact ⟨k, rfl⟩
      | _ => cases h.1
    refine ⟨k :: ks, by rw [e]; rfl, fun y m => ?_⟩
    rcases List.mem_cons.mp m with rfl | m
    · exact h.1
    · exact hk y m
theorem ok_diff {oc kV doc pm ct : Value} {od an : Option Addr} {osl : Array (Option Value)} {c Pt Pc : Addr} (B : Blt mg) (zsort : mg "sorted" = none) (zset : mg "set" = none) (TB : GxR.TabB base mg c Pt) (DO : MsC mg) (T : SlC K mg C CK CT) (mt : Pt ∈ Ts) (mc : Pc ∈ Ts)
    (lk : K.lookup f = some ⟨oc, od, .func (PySem.W.fnOf "_different_keys" "_different_keys" (defArgs s_different_keys) (defBody s_different_keys) (defScope s_different_keys) .none kV doc pm an (.ref c) ct), osl⟩) (hcd : PySem.W.codeIn K (.ref c) "_different_keys" = true)
    (c_is_key : Cal P w K mg base CX0 4 "is_key" (spNm kyV Pc)) :
    FnOk P w K mg base (L2.CX P w) 8 f (PySem.W.fnOf "_different_keys" "_different_keys" (defArgs s_different_keys) (defBody s_different_keys) (defScope s_different_keys) .none kV doc pm an (.ref c) ct) ["keys"] (spDiff CK K Ts) := by
  refine fn_of (CX := L2.CX P w) lk hcd sc_different_keys (fun vs H Q E h => ?_) (fun A outer s H vs Q E hr h => ?_)
  · obtain ⟨a, xs, rfl, _⟩ := h; rfl
  obtain ⟨a, xs, rfl, hS, hl, hx, hG, qe, q⟩ := h
  refine ⟨_, (pss_cons (ps_if (pt_not (pt_val (pe_allG (N := ["key"]) (nt := 1) (fr := []) rfl hr B TB rfl (gnOf (by decide +kernel)) (by show freeOk _ (defScope s_different_keys) = true; decide +kernel) (by show capOk _ _ _ N_different_keys _ (defScope s_different_keys) = true; decide +kernel)
      (pi_list (pv 0)) (fun _ _ _ _ _ hr => (pg_name (i := 0) (by show List.Nodup (["key"] : List Str); decide +kernel) rfl (Or.inl rfl))) (fun _ _ _ _ _ hr => pts_nil) (fun _ _ _ _ _ hr => (c_is_key.pe hr (pa_cons (pv 0) pa_nil))) (fun _ => rfl)))) (pss_one (T.BadKey.raise (takes_of rfl rfl rfl rfl))) pss_nil)
    (pss_cons (ps_set (i := 1) sc_different_keys.nd rfl (Or.inl rfl) (pe_sortSet rfl rfl zsort rfl zset (pv 0)))
    (pss_cons (ps_if (pt_cmpR op_gt (B.len_q (pa_cons (pv 1) pa_nil)) (pe_cE DO.c_MOST_SEALS) (nomark _)) (pss_one (T.BadKey.raise (takes_of rfl rfl rfl rfl))) pss_nil)
    (pss_one (ps_ret (pv 1)))))), ?_⟩
  walk_at "wp"
  refine ⟨_, rfl, a, rfl, ⟨xs, hS⟩, hG _ mt, fun H2 hT => ?_⟩
  have g2 := hG.tab hT mt
  have k2 : Kp Ts H H2 := Kp.tab (hG _ mt) hT mt
  refine for_list (K := K) (a := a) (xs := xs) (fun i σ H' => (∃ o : Option V, σ = [o]) ∧ Kp Ts H H' ∧ Tabs Ts H' ∧ (xs.take i).all kyV = true) ⟨⟨_, rfl⟩, k2, g2, rfl⟩ (fun i σ H' _ ⟨_, k, _⟩ => k.seqs hG hS) (fun i x σ H' hi ⟨⟨o, hσ⟩, k3, g3, ha⟩ => ?_) (fun σ H' ⟨⟨o, hσ⟩, k3, g3, ha⟩ => ?_)
  · subst hσ
    have mx := List.mem_of_getElem? hi
    have tk : xs.take (i + 1) = xs.take i ++ [x] := by rw [List.take_add_one, hi]; rfl
    unfold tbAll
    simp only [tYes, if_true, gName, List.set_cons_zero]
    obtain ⟨⟨ty, hty⟩, sz⟩ := hx x mx
    refine ⟨x, rfl, x, rfl, g3 _ mc, ⟨ty, k3.tys hG hty⟩, sz, fun H4 k4 g4 => ⟨_, rfl, ?_⟩⟩
    have K4 := k3.trans (k4.in1 mc)
    have G4 := g3.kp1 k4 g4
    cases hb : kyV x with
    | true => exact if_yes rfl ⟨⟨_, rfl⟩, K4, G4, by rw [tk, List.all_append, ha]; simp [hb]⟩
    | false =>
      refine if_no (by decide) ?_
      walk_at "wp"
      exact qe (List.all_eq_false.mpr ⟨x, mx, by rw [hb]; decide⟩) H4 K4 G4
  · rw [List.take_length] at ha
    obtain ⟨ks, rfl, hk⟩ := kys_of ha
    walk_at "wp"
    refine ⟨_, rfl, a, ks, rfl, k3.seqs hG hS, by rw [List.length_map] at hl; exact hl, fun ys p hy mem hp => ⟨p, rfl, _, .inl (SqL.of upd_same), ?_⟩⟩
    obtain ⟨q1, q2⟩ := q ks rfl hk ys hy mem
    have kn := Kp.new (S := []) hp (.lst (ys.map V.str))
    have KF : Kp Ts H (upd H' p (.lst (ys.map V.str))) := k3.trans kn.in0
    have GF := g3.kp0 kn
    rw [List.length_map]
    by_cases c : 32 < ys.length
    · exact if_yes (by omega) (q1 c _ KF GF)
    · refine if_no (by omega) (q2 (by omega) p _ KF GF ?_ upd_same)
      cases e : H p with
      | none => rfl
      | some o =>
        exfalso
        by_cases m : p ∈ Ts
        · exact g3.ne0 hp m
        · have := k3.keep p o m e
          rw [hp] at this; cases this
/-- seal(office, text, keys) -/
def spSeal2 (C CK CT : Addr) (K : PySem.W.Frag) (Ts : List Addr) : Sp := fun vs H Q E => ∃ (o dm a : Addr) (made : List (Str × Str)) (tv : V) (xs : List V), vs = [.ref o, tv, .ref a] ∧ Ofc C o dm made H ∧ made.length ≤ 900 ∧ SqL K H a xs ∧ xs.length ≤ 1000 ∧ (∀ x ∈ xs, (∃ t, tyN H x = some t) ∧ szV x) ∧
  (∃ t, tyN H tv = some t) ∧ (∀ z, tv = .str z → z.length ≤ 10000000) ∧ Tabs Ts H ∧ (xs.all kyV = false → ∀ H', Kp Ts H H' → Tabs Ts H' → E (.ref CK) none H') ∧
  ∀ ks ys : List Str, xs = ks.map V.str → (∀ k ∈ ks, kyS k = true) → asc ys = true → (∀ z, z ∈ ys ↔ z ∈ ks) → (32 < ys.length → ∀ H', Kp Ts H H' → Tabs Ts H' → E (.ref CK) none H') ∧
    (ys.length ≤ 32 → (prV tv = false → ∀ H', Kp Ts H H' → Tabs Ts H' → E (.ref CT) none H') ∧ ∀ z, tv = .str z → prn z = true → (100000 < (txt (sealT z ys)).length → ∀ H', Kp Ts H H' → Tabs Ts H' → E (.ref CT) none H') ∧
      ((txt (sealT z ys)).length ≤ 100000 → ∀ H', Kp (dm :: Ts) H H' → Tabs Ts H' → Ofc C o dm (madeA made z ys) H' → Q (.str ⟨(txt (sealT z ys)).toArray⟩) H'))
theorem ok_seal2 {Pp : Addr} (F : Fun K "seal" "seal" s_seal f fd) (B : Blt mg) (DG : DgC mg) (T : SlC K mg C CK CT) (mp : Pp ∈ Ts) (c_different_keys : Cal P w K mg base (L2.CX P w) 8 "_different_keys" (spDiff CK K Ts)) (c_is_printable : Cal P w K mg base CX0 3 "is_printable" (spPrn Pp))
    (c_encode : Cal P w K mg base (L2.CX P w) 23 "encode" (spEnc CT Pp)) (m_make : CalM P w K mg base (L2.CX P w) 5 C "make" (spMake C CK CT Ts)) :
    FnOk P w K mg base (L2.CX P w) 24 f fd ["office", "text", "keys"] (spSeal2 C CK CT K Ts) := by
  refine F.okX sc_seal (fun vs H Q E h => ?_) (fun cdv A outer s H vs Q E hr h => ?_)
  · obtain ⟨o, dm, a, made, tv, xs, rfl, _⟩ := h; rfl
  obtain ⟨o, dm, a, made, tv, xs, rfl, hO, lm, hS, hl, hx, ⟨tt, htt⟩, hz, hG, qe, q⟩ := h
  refine ⟨_, (pss_cons (ps_set (i := 3) sc_seal.nd rfl (Or.inl rfl) (c_different_keys.pex hr (passX (takes_of rfl rfl rfl rfl) fun _ _ _ _ h => h) (pa_cons (pv 2) pa_nil)))
    (pss_cons (ps_if (pt_not (pt_val (c_is_printable.pe hr (pa_cons (pv 1) pa_nil)))) (pss_one (T.bad.raise (takes_of rfl rfl rfl rfl))) pss_nil)
    (pss_cons (ps_set (i := 4) sc_seal.nd rfl (Or.inr rfl) (pe_op op_mulS pe_str (pe_cE DG.c_DIGEST_LENGTH)))
    (pss_cons (ps_expr (c_encode.pex hr (passX (takes_of rfl rfl rfl rfl) fun _ _ _ _ h => h) (pa_cons (pe_tup (pa_cons (pv 1) (pa_cons (B.tuple_l (pa_cons (pe_lc (own := [("key", 5)]) (g := gName 5) (tt := tYes) rfl sc_seal.nd (pi_list (pv 3)) (blkOk_by (own := [("key", 5)]) (N := N_seal) (sc := defScope s_seal) (by decide +kernel)) (fun _ _ _ _ _ => pg_name (i := 5) sc_seal.nd rfl (Or.inl rfl)) (fun _ _ _ _ _ => pts_nil) (fun _ _ _ _ _ => (pe_tup (pa_cons (pv 5) (pa_cons (pv 4) pa_nil))))) pa_nil)) pa_nil))) pa_nil)))
    (pss_one (ps_ret (c_encode.pex hr (passX (takes_of rfl rfl rfl rfl) fun _ _ _ _ h => h) (pa_cons (pe_tup (pa_cons (pv 1) (pa_cons (B.tuple_l (pa_cons (pe_lc (own := [("key", 5)]) (g := gName 5) (tt := tYes) rfl sc_seal.nd (pi_list (pv 3)) (blkOk_by (own := [("key", 5)]) (N := N_seal) (sc := defScope s_seal) (by decide +kernel)) (fun _ _ _ _ _ => pg_name (i := 5) sc_seal.nd rfl (Or.inl rfl)) (fun _ _ _ _ _ => pts_nil) (fun _ _ _ _ _ => (pe_tup (pa_cons (pv 5) (pa_cons (m_make.peL hr (pv 0) (pa_cons (pv 5) (pa_cons (pv 1) pa_nil))) pa_nil))))) pa_nil)) pa_nil))) pa_nil)))))))), ?_⟩
  walk_at "wp"
  refine ⟨a, xs, rfl, hS, hl, hx, hG, qe, fun ks e hk ys ha mem => ⟨fun h32 => (q ks ys e hk ha mem).1 h32, fun h32 p H1 k1 g1 hp e1 => ?_⟩⟩
  obtain ⟨q1, q2⟩ := (q ks ys e hk ha mem).2 h32
  refine ⟨tv, rfl, g1 _ mp, ⟨tt, k1.tys hG htt⟩, fun H2 k2 g2 => ⟨_, rfl, ?_⟩⟩
  have K2 : Kp Ts H H2 := k1.trans (k2.in1 mp)
  have G2 := g1.kp1 k2 g2
  cases hp2 : prV tv with
  | false => exact if_yes rfl (q1 hp2 H2 K2 G2)
  | true =>
  refine if_no (by decide) ?_
  obtain ⟨z, rfl, hpz⟩ : ∃ z, tv = .str z ∧ prn z = true := by
    cases tv with
    | str z => exact ⟨z, rfl, hp2⟩
    | _ => cases hp2
  obtain ⟨q3, q4⟩ := q2 z rfl hpz
  have lim : sizeLine = 16777216 := sizeLine_eq
  have e2 : H2 p = some (.lst (ys.map V.str)) := (k2.in1 mp).get g1 e1
  have kky : ∀ k ∈ ys, kyS k = true := fun k m => hk k ((mem k).mp m)
  have zl : z.length ≤ 10000000 := hz z rfl
  have O2 := hO.tabs K2 hG
  refine ⟨48, rfl, by decide, by decide, ?_⟩
  have eb : (⟨(List.replicate (Int.toNat 18) 48).toArray⟩ : Str) = blk := rfl
  rw [eb]
  refine ⟨_, rfl, p, rfl, ⟨_, SqL.of e2⟩, fun D hD => ?_⟩
  have nDp : p ≠ D := ne_of_none e2 hD
  refine lc_list (K := K) (a := p) (xs := ys.map V.str) (fun i H' => Kp [] H2 H' ∧ ∃ vs, H' D = some (.lst vs) ∧ RepAll H' vs ((ys.take i).map (rowB blk))) ⟨Kp.new hD _, [], upd_same, .nil⟩ (fun i H' _ ⟨k, _⟩ => SqL.of (k.keep _ _ List.not_mem_nil e2)) (fun i x H' hi ⟨k3, vs, eD, rD⟩ => ?_) (fun H' ⟨k3, vs, eD, rD⟩ => ?_)
  · rw [List.getElem?_map] at hi
    obtain ⟨k, hi2, rfl⟩ := Option.map_eq_some_iff.mp hi
    have tk : ys.take (i + 1) = ys.take i ++ [k] := by rw [List.take_add_one, hi2]; rfl
    have li := (List.getElem?_eq_some_iff.mp hi2).1
    have lv := rD.len
    rw [List.length_map, List.length_take] at lv
    refine ⟨rfl, ?_⟩
    simp only [tYes, if_true]
    walk_at "wp"
    refine ⟨_, rfl, _, rfl, by omega, fun r hr2 => ?_⟩
    have kr := Kp.new (S := []) hr2 (.tup [V.str k, V.str blk])
    have nrD : D ≠ r := ne_of_none eD hr2
    refine ⟨vs, by rw [upd_ne nrD]; exact eD, by omega, ?_, ?_⟩
    · exact (k3.trans kr).upd hD (by rw [upd_ne nrD]; exact eD)
    · have kl : Kp [D] (upd H' r (.tup [V.str k, V.str blk])) (upd (upd H' r (.tup [V.str k, V.str blk])) D (.lst (vs ++ [V.ref r]))) := Kp.lst (by rw [upd_ne nrD]; exact eD) (List.mem_singleton.mpr rfl)
      rw [tk, List.map_append]
      exact ((rD.kp0 kr).any kl (rows_pure _ _)).app (.cons (.tup (kl.tup _ _ upd_same) (.cons (.str _) (.cons (.str _) .nil))) .nil)
  rw [List.length_map, List.take_length] at rD
  refine ⟨D, rfl, vs, .inl ⟨SqL.of eD, fun l hl2 => ⟨by omega, fun p2 h2 => ?_⟩⟩⟩
  have kl := Kp.new (S := []) hl2 (.tup vs)
  have kp2 := Kp.new (S := []) h2 (.tup [V.str z, V.ref l])
  have K4 : Kp [] H2 (upd (upd H' l (.tup vs)) p2 (.tup [V.str z, V.ref l])) := (k3.trans kl).trans kp2
  have R4 : Rep (upd (upd H' l (.tup vs)) p2 (.tup [V.str z, V.ref l])) (.ref p2) (sealB z blk ys) := .tup upd_same (.cons (.str _) (.cons (.tup (kp2.tup _ _ upd_same) ((rD.kp0 kl).kp0 kp2)) .nil))
  have hpl : pl 8 (sealB z blk ys) = true := pl_sealB hpz (by decide +kernel) fun k m => kyPrn (kky k m)
  have hsm : sml (sealB z blk ys) = true := sml_sealB zl (by decide +kernel) (by omega) fun k m => kyl12 (kky k m)
  have lenE : (txt (sealT z ys)).length = (txt (sealB z blk ys)).length := sealB_len z ys
  generalize upd (upd H' l (.tup vs)) p2 (.tup [V.str z, V.ref l]) = H4 at K4 R4 ⊢
  have G4 := G2.kp0 K4
  refine ⟨.ref p2, sealB z blk ys, rfl, R4, hsm, G4 _ mp, fun _ lo H5 k5 g5 => ?_, fun no H5 k5 g5 => q3 (by
    have : ¬ (txt (sealB z blk ys)).length ≤ 100000 := fun z => no ⟨hpl, z⟩
    omega) H5 ((K2.trans K4.in0).trans (k5.in1 mp)) (G4.kp1 k5 g5)⟩
  have K5 : Kp Ts H2 H5 := (K4.in0 : Kp Ts H2 H4).trans (k5.in1 mp)
  have G5 := G4.kp1 k5 g5
  have O5 := (O2.tabs K5 G2)
  have e5 := K5.get G2 e2
  have tl0 : (txt (sealT z ys)).length ≤ 100000 := by omega
  clear R4 eD rD kl kp2 k3 nDp hD
  refine ⟨_, rfl, p, rfl, ⟨_, SqL.of e5⟩, fun D hD => ?_⟩
  have nDd : D ≠ dm := (ne_of_none O5.dc hD).symm
  have nDo : D ≠ o := let ⟨dx, ho⟩ := O5.ob; (ne_of_none ho hD).symm
  have nDT : D ∉ Ts := G5.ne0 hD
  have npd : p ≠ dm := ne_of e5 O5.dc (by intro z; cases z)
  refine lc_list (K := K) (a := p) (xs := ys.map V.str) (fun i H' => Kp (dm :: Ts) H5 H' ∧ Tabs Ts H' ∧ Ofc C o dm (madeA made z (ys.take i)) H' ∧ ∃ vs, H' D = some (.lst vs) ∧ RepAll H' vs ((ys.take i).map (rowT z)))
    ⟨Kp.new hD _, G5.new hD _, O5.kp (Kp.new hD _ : Kp [] _ _) List.not_mem_nil List.not_mem_nil, [], upd_same, .nil⟩ (fun i H' _ ⟨k, g, _⟩ => SqL.of (k.keep _ _ (fun m => (List.mem_cons.mp m).elim npd (G5.ne e5)) e5)) (fun i x H' hi ⟨k6, g6, O6, vs, eD, rD⟩ => ?_) (fun H' ⟨k6, g6, O6, vs, eD, rD⟩ => ?_)
  · rw [List.getElem?_map] at hi
    obtain ⟨k, hi2, rfl⟩ := Option.map_eq_some_iff.mp hi
    have tk : ys.take (i + 1) = ys.take i ++ [k] := by rw [List.take_add_one, hi2]; rfl
    have li := (List.getElem?_eq_some_iff.mp hi2).1
    have mk := List.mem_of_getElem? hi2
    have lv := rD.len
    rw [List.length_map, List.length_take] at lv
    have lmi := madeA_len made z (ys.take i)
    rw [List.length_take] at lmi
    refine ⟨rfl, ?_⟩
    simp only [tYes, if_true]
    walk_at "wp"
    obtain ⟨dx, ho⟩ := O6.ob
    refine ⟨_, rfl, _, rfl, o, rfl, dx, _, ho, rfl, _, rfl, _, rfl, o, dm, madeA made z (ys.take i), .str k, .str z, rfl, O6, by omega, g6, ⟨_, rfl⟩, ⟨_, rfl⟩, ?_, fun y e => by rw [← V.str.inj e]; exact zl, fun e => ?_, fun _ e => ?_, fun k' t' ek et _ _ H7 k7 g7 O7 => ⟨by omega, fun r hr2 => ?_⟩⟩
    · have := kyl12 (kky k mk)
      show k.length ≤ sizeLine
      omega
    · have : kyS k = false := e
      rw [kky k mk] at this; cases this
    · have : prn z = false := e
      rw [hpz] at this; cases this
    cases ek
    cases et
    have kr := Kp.new (S := []) hr2 (.tup [V.str k, V.str (mkS k z)])
    have nDS : D ∉ dm :: Ts := fun m => (List.mem_cons.mp m).elim nDd nDT
    have e7 := k7.keep D _ nDS eD
    have nrD : D ≠ r := ne_of_none e7 hr2
    have e8 : upd H7 r (.tup [V.str k, V.str (mkS k z)]) D = some (.lst vs) := by rw [upd_ne nrD]; exact e7
    have kl : Kp [D] (upd H7 r (.tup [V.str k, V.str (mkS k z)])) (upd (upd H7 r (.tup [V.str k, V.str (mkS k z)])) D (.lst (vs ++ [V.ref r]))) := Kp.lst e8 (List.mem_singleton.mpr rfl)
    refine ⟨vs, e8, by omega, ?_, ?_, ?_, ?_⟩
    · exact ((k6.trans k7).trans kr.in0).upd hD e8
    · exact (g7.kp0 kr).kp kl fun P m z => nDT (by rw [← List.mem_singleton.mp z]; exact m)
    · rw [tk, madeA_snoc]
      exact (O7.kp kr List.not_mem_nil List.not_mem_nil).kp kl (by simpa using nDo.symm) (by simpa using nDd.symm)
    · rw [tk, List.map_append]
      exact (((rD.any k7 (rowsT_pure _ _)).kp0 kr).any kl (rowsT_pure _ _)).app (.cons (.tup (kl.tup _ _ upd_same) (.cons (.str _) (.cons (.str _) .nil))) .nil)
  rw [List.length_map, List.take_length] at rD O6
  refine ⟨D, rfl, vs, .inl ⟨SqL.of eD, fun l hl2 => ⟨by omega, fun p2 h2 => ?_⟩⟩⟩
  have kl := Kp.new (S := []) hl2 (.tup vs)
  have kp2 := Kp.new (S := []) h2 (.tup [V.str z, V.ref l])
  have R9 : Rep (upd (upd H' l (.tup vs)) p2 (.tup [V.str z, V.ref l])) (.ref p2) (sealT z ys) := .tup upd_same (.cons (.str _) (.cons (.tup (kp2.tup _ _ upd_same) ((rD.kp0 kl).kp0 kp2)) .nil))
  have G9 := (g6.kp0 kl).kp0 kp2
  have O9 := (O6.kp kl List.not_mem_nil List.not_mem_nil).kp kp2 List.not_mem_nil List.not_mem_nil
  have K9 : Kp (dm :: Ts) H (upd (upd H' l (.tup vs)) p2 (.tup [V.str z, V.ref l])) := (((K2.trans K5).mono fun b hb => List.mem_cons_of_mem _ hb).trans k6).trans (kl.trans kp2).in0
  have hplT : pl 8 (sealT z ys) = true := pl_sealT hpz fun k m => kyPrn (kky k m)
  have hsmT : sml (sealT z ys) = true := sml_of 8 _ hplT (by omega)
  exact ⟨.ref p2, sealT z ys, rfl, R9, hsmT, G9 _ mp, fun _ lo H5 k5 g5 => q4 tl0 H5 (K9.trans ((k5.in1 mp).mono fun b hb => List.mem_cons_of_mem _ hb)) (G9.kp1 k5 g5) (O9.tabs (k5.in1 mp) G9), fun no => absurd ⟨hplT, tl0⟩ no⟩
end

/-! the state of a law with an office, and keys that it draws -/
structure SO (Ts : List Addr) (C : Addr) (H0 : Hp) (st o d : Addr) (mo : List (Str × Str)) (H : Hp) : Prop where
  L : LT Ts st H0 H
  O : Ofc C o d mo H
  f1 : H0 d = none
section
variable {Ts S : List Addr} {C : Addr} {H0 H H' : Hp} {st o d : Addr} {mo mo' : List (Str × Str)}
theorem SO.kp0 (h : SO Ts C H0 st o d mo H) (k : Kp [] H H') : SO Ts C H0 st o d mo H' := ⟨h.L.kp0 k, h.O.kp k List.not_mem_nil List.not_mem_nil, h.f1⟩
theorem SO.take (h : SO Ts C H0 st o d mo H) (k : Kp [st] H H') (s : Strm H' st) : SO Ts C H0 st o d mo H' := by
  obtain ⟨x, y, e⟩ := h.L.s
  obtain ⟨dx, e1⟩ := h.O.ob
  have one : ∀ {b : Addr}, b ≠ st → b ∉ [st] := fun h m => h (List.mem_singleton.mp m)
  exact ⟨h.L.take k s, h.O.kp k (one (ne_of e1 e (by intro z; cases z))) (one (ne_of h.O.dc e (by intro z; cases z))), h.f1⟩
theorem SO.tabs (h : SO Ts C H0 st o d mo H) (k : Kp Ts H H') (g : Tabs Ts H') : SO Ts C H0 st o d mo H' :=
  ⟨h.L.tabs k g, h.O.tabs k h.L.g, h.f1⟩
theorem SO.nd (h : SO Ts C H0 st o d mo H) {b : Addr} {u : HO} (e : H b = some u) (no : ∀ m, u ≠ .dT m := by intro m z; cases z) : b ≠ d := fun z => by
  rw [z, h.O.dc] at e
  exact no _ (Option.some.inj e).symm
/-- what is tracked stands through a seal -/
theorem SO.keep (h : SO Ts C H0 st o d mo H) (k : Kp (d :: Ts) H H') {b : Addr} {u : HO} (e : H b = some u) (no : ∀ m, u ≠ .dT m := by intro m z; cases z) (no2 : ∀ ps, u ≠ .tbl ps := by intro ps z; cases z) : H' b = some u :=
  k.keep _ _ (fun m => (List.mem_cons.mp m).elim (h.nd e no) (h.L.g.ne e no2)) e
theorem SO.made (h : SO Ts C H0 st o d mo H) (k : Kp (d :: Ts) H H') (g : Tabs Ts H') (O : Ofc C o d mo' H') : SO Ts C H0 st o d mo' H' := by
  have s' : Strm H' st := let ⟨x, y, e⟩ := h.L.s; ⟨x, y, h.keep k e⟩
  exact ⟨h.L.go k (fun b hb => by
    rcases List.mem_cons.mp hb with z | z
    · exact .inr (by rw [z]; exact h.f1)
    · exact .inl z) g s', O, h.f1⟩
end
def kS (step x : Int) : Str := Str.ofString "k" ++ Str.ofString (toString (step * x))
theorem ky_num {n : Int} (h0 : 0 ≤ n) (h1 : n < 100000000000) : kyS (Str.ofString "k" ++ Str.ofString (toString n)) = true ∧ (Str.ofString (toString n)).length ≤ 11 ∧ n.natAbs.log2 < 1920 := by
  obtain ⟨m, rfl⟩ : ∃ m : Nat, n = (m : Nat) := ⟨n.toNat, by omega⟩
  have hm : m < 10 ^ 11 := by have : (10 : Nat) ^ 11 = 100000000000 := by decide
                              omega
  have dl : (dig m).length ≤ 11 := TL.numL_len (by decide) hm
  obtain ⟨a, r, e, _⟩ := dig_first m
  have e1 : TL.tl (Str.ofString (toString ((m : Nat) : Int))) = dig m := TL.tl_num m
  have e2 : TL.tl (Str.ofString "k" ++ Str.ofString (toString ((m : Nat) : Int))) = 107 :: dig m := by rw [TL.tl_append, e1]; rfl
  have l1 := TL.len_tl (Str.ofString (toString ((m : Nat) : Int)))
  have l2 := TL.len_tl (Str.ofString "k" ++ Str.ofString (toString ((m : Nat) : Int)))
  rw [e1] at l1
  rw [e2, List.length_cons] at l2
  have d1 : 1 ≤ (dig m).length := by rw [e]; simp
  refine ⟨?_, by omega, (intT h0 (by omega)).1⟩
  unfold kyS
  rw [decide_eq_true (by omega), decide_eq_true (by omega), Bool.true_and, Bool.true_and, Bool.and_eq_true]
  refine ⟨decide_eq_true ?_, ?_⟩
  · rw [show (Str.ofString "k" ++ Str.ofString (toString ((m : Nat) : Int))).cps.toList = 107 :: dig m from e2]; rfl
  · unfold inT
    have e3 : TL.tl (cutS (Str.ofString "k" ++ Str.ofString (toString ((m : Nat) : Int))) (some 1) none) = dig m := by
      have := cut_from (Str.ofString "k" ++ Str.ofString (toString ((m : Nat) : Int))) 1
      rw [e2] at this
      exact this
    rw [show (cutS (Str.ofString "k" ++ Str.ofString (toString ((m : Nat) : Int))) (some 1) none).cps.toList = dig m from e3]
    refine List.all_eq_true.mpr fun c hc => ?_
    have := dig_isD m c hc
    unfold isD at this
    rw [Bool.and_eq_true, decide_eq_true_eq, decide_eq_true_eq] at this
    exact (by decide +kernel : ∀ c < 58, 48 ≤ c → decide (c ∈ (Str.ofString "0123456789").cps.toList) = true) c (by omega) this.1
/-- 'k' + str(step * n) for n below 32 -/
structure StepOk (step : Int) : Prop where
  b : ∀ x : Int, 0 ≤ x → x < 32 → 0 ≤ step * x ∧ step * x < 100000000000
  m : ∀ x : Int, 0 ≤ x → x < 32 → CMul step x
theorem step_ok {step : Int} (hs : step = 1 ∨ step = 7 ∨ step = 3000000001) : StepOk step := by
  have num : ∀ x : Int, 0 ≤ x → x < 32 → 0 ≤ step * x ∧ step * x < 100000000000 := fun x x0 x1 => by
    rcases hs with rfl | rfl | rfl <;> omega
  refine ⟨num, fun x x0 x1 => ?_⟩
  have e : (2 : Int) ^ 64 = 18446744073709551616 := by decide
  have := num x x0 x1
  exact .inr ⟨by omega, by omega⟩
def KeyOf (step : Int) (k : Str) : Prop := ∃ x : Int, 0 ≤ x ∧ x < 32 ∧ k = kS step x
theorem KeyOf.ky {step : Int} (h : StepOk step) {k : Str} (hk : KeyOf step k) : kyS k = true := by
  obtain ⟨x, x0, x1, rfl⟩ := hk
  obtain ⟨a, b⟩ := h.b x x0 x1
  exact (ky_num a b).1
theorem nodup_le : ∀ {l m : List Str}, l.Nodup → (∀ x ∈ l, x ∈ m) → l.length ≤ m.length
  | [], _, _, _ => Nat.zero_le _
  | x :: l, m, h, s => by
    have hx := s x List.mem_cons_self
    rw [List.nodup_cons] at h
    have := nodup_le (m := m.erase x) h.2 fun y hy => (List.mem_erase_of_ne (fun e => h.1 (by rw [← e]; exact hy))).mpr (s y (List.mem_cons_of_mem _ hy))
    rw [List.length_erase_of_mem hx] at this
    have := List.length_pos_of_mem hx
    simp only [List.length_cons]
    omega
/-- at most 32 different keys -/
theorem keys_32 {step : Int} {ys : List Str} (ha : asc ys = true) (h : ∀ k ∈ ys, KeyOf step k) : ys.length ≤ 32 := by
  have := nodup_le (m := (List.range 32).map fun n => kS step (n : Nat)) (asc_nodup ha) fun k m => by
    obtain ⟨x, x0, x1, rfl⟩ := h k m
    exact List.mem_map.mpr ⟨x.toNat, List.mem_range.mpr (by omega), by rw [show ((x.toNat : Nat) : Int) = x by omega]⟩
  rw [List.length_map, List.length_range] at this
  exact this
theorem addP_mem (mo : List (Str × Str)) (p q : Str × Str) : q ∈ addP mo p ↔ q ∈ mo ∨ q = p := by
  unfold addP
  split
  · rename_i c
    exact ⟨.inl, fun h => h.elim id fun e => e ▸ c⟩
  · rw [List.mem_append, List.mem_singleton]
theorem madeA_mem {made : List (Str × Str)} {z : Str} : ∀ {ys : List Str} {p : Str × Str}, p ∈ madeA made z ys ↔ p ∈ made ∨ (p.2 = z ∧ p.1 ∈ ys) := by
  intro ys
  induction ys generalizing made with
  | nil => intro p; exact ⟨.inl, fun h => h.elim id fun q => absurd q.2 List.not_mem_nil⟩
  | cons y ys ih =>
    intro p
    show p ∈ madeA (addP made (y, z)) z ys ↔ _
    rw [ih, addP_mem]
    constructor
    · rintro ((h | rfl) | ⟨h1, h2⟩)
      · exact .inl h
      · exact .inr ⟨rfl, List.mem_cons_self⟩
      · exact .inr ⟨h1, List.mem_cons_of_mem _ h2⟩
    · rintro (h | ⟨h1, h2⟩)
      · exact .inl (.inl h)
      · rcases List.mem_cons.mp h2 with h2 | h2
        · exact .inl (.inr (by rw [← h1, ← h2]))
        · exact .inr ⟨h1, h2⟩
theorem madeA_same {made : List (Str × Str)} {z : Str} : ∀ {ys : List Str}, (∀ k ∈ ys, (k, z) ∈ made) → madeA made z ys = made := by
  intro ys
  induction ys with
  | nil => intro _; rfl
  | cons y ys ih =>
    intro h
    show madeA (addP made (y, z)) z ys = made
    have : addP made (y, z) = made := by unfold addP; rw [if_pos (h y List.mem_cons_self)]
    rw [this]
    exact ih fun k m => h k (List.mem_cons_of_mem _ m)
theorem madeA_new {z : Str} : ∀ {ys : List Str} {made : List (Str × Str)}, ys.Nodup → (∀ k ∈ ys, (k, z) ∉ made) → (madeA made z ys).length = made.length + ys.length := by
  intro ys
  induction ys with
  | nil => intro made _ _; rfl
  | cons y ys ih =>
    intro made hn h
    rw [List.nodup_cons] at hn
    have e : addP made (y, z) = made ++ [(y, z)] := by unfold addP; rw [if_neg (h y List.mem_cons_self)]
    show (madeA (addP made (y, z)) z ys).length = _
    rw [e, ih hn.2 fun k m => by
      intro hm
      rcases List.mem_append.mp hm with hm | hm
      · exact h k (List.mem_cons_of_mem _ m) hm
      · exact hn.1 (by rw [← (Prod.mk.inj (List.mem_singleton.mp hm)).1]; exact m)]
    simp only [List.length_append, List.length_cons, List.length_nil]
    omega

/-! the text of a seal is small, and opened reads it back -/
theorem sealT_ok {z : Str} {ys : List Str} (pz : prn z = true) (lz : z.length ≤ 1000) (ly : ys.length ≤ 32) (hk : ∀ k ∈ ys, kyS k = true) : okT 8 (sealT z ys) 6000 := by
  have a1 : ∀ t ∈ ys.map (rowT z), okT 6 t 80 := fun t ht => by
    obtain ⟨k, hm, rfl⟩ := List.mem_map.mp ht
    have q1 : okT 5 (.str k) 39 := okT_str (m := 18) (kyPrn (hk k hm)) (by have := kyl12 (hk k hm); omega) (by omega)
    have q2 : okT 5 (.str (mkS k z)) 39 := okT_str (m := 18) (mkS_prn k z) (by rw [mkS_len]; omega) (by omega)
    exact okT_tup (d := 5) (n := 39) (m := 2) (ts := [.str k, .str (mkS k z)]) (fun t ht => by
      rcases List.mem_cons.mp ht with rfl | ht
      · exact q1
      · rw [List.mem_singleton.mp ht]; exact q2) (by simp) (by omega)
  have a2 : okT 7 (.tup (ys.map (rowT z))) 2562 := okT_tup (m := 32) a1 (by rw [List.length_map]; exact ly) (by omega)
  have a3 : okT 7 (.str z) 2562 := (okT_str (m := 1000) pz lz (by omega)).le (by omega)
  exact (okT_tup (d := 7) (n := 2562) (m := 2) (ts := [.str z, .tup (ys.map (rowT z))]) (fun t ht => by
    rcases List.mem_cons.mp ht with rfl | ht
    · exact a3
    · rw [List.mem_singleton.mp ht]; exact a2) (by simp) (by omega)).le (by omega)
theorem sealT_co {z : Str} {ys : List Str} (ly : ys.length ≤ 32) (hk : ∀ k ∈ ys, kyS k = true) (ha : asc ys = true) : isCo (sealT z ys) = true := by
  show (decide ((ys.map (rowT z)).length ≤ 32) && (ys.map (rowT z)).all isSl && asc ((ys.map (rowT z)).map keyT)) = true
  rw [decide_eq_true (by rw [List.length_map]; omega), Bool.true_and, Bool.and_eq_true]
  refine ⟨List.all_eq_true.mpr fun t ht => ?_, ?_⟩
  · obtain ⟨k, hm, rfl⟩ := List.mem_map.mp ht
    show (kyS k && decide ((mkS k z).length ≤ 40)) = true
    rw [hk k hm, mkS_len]; rfl
  · rw [List.map_map]
    have : ys.map (keyT ∘ rowT z) = ys := by
      rw [show (keyT ∘ rowT z) = id from rfl, List.map_id]
    rw [this]; exact ha
theorem opn_txtT {t : Tr} {n : Nat} (h : okT 8 t n) (hn : n ≤ 100000) (c : isCo t = true) : opn ⟨(txt t).toArray⟩ t := by
  refine ⟨?_, txt_prn h.1, ?_, c⟩
  · rw [TL.len_tl]; exact Nat.le_trans h.2.2 hn
  · have := pval_txt 8 t [] h.1 h.2.1
    rw [List.append_nil] at this
    exact this
theorem opn_one {t u : Tr} {n : Nat} (h : okT 8 t n) (o : opn ⟨(txt t).toArray⟩ u) : u = t := by
  have := pval_txt 8 t [] h.1 h.2.1
  rw [List.append_nil] at this
  have e := o.2.2.1
  rw [show TL.tl (⟨(txt t).toArray⟩ : Str) = txt t from rfl, this] at e
  exact (Prod.mk.inj (Option.some.inj e)).1.symm
section
variable {K : PySem.W.Frag} {C CK CT o dm l : Addr} {Ts : List Addr} {made : List (Str × Str)} {H : Hp} {Q : VK} {E : XK} {z : Str} {ls ys : List Str} {tv : V} {xs : List V}
/-- a call of seal that signs, or whose text is too long -/
theorem seal_at (O : Ofc C o dm made H) (lm : made.length ≤ 900) (e1 : H l = some (.lst (ls.map V.str))) (ll : ls.length ≤ 1000) (lk : ∀ k ∈ ls, kyS k = true) (pz : prn z = true) (lz : z.length ≤ 10000000) (G : Tabs Ts H)
    (h : ∀ ys, asc ys = true → (∀ x, x ∈ ys ↔ x ∈ ls) → ys.length ≤ 32 ∧ (100000 < (txt (sealT z ys)).length → ∀ H', Kp Ts H H' → Tabs Ts H' → E (.ref CT) none H') ∧ ((txt (sealT z ys)).length ≤ 100000 → ∀ H', Kp (dm :: Ts) H H' → Tabs Ts H' → Ofc C o dm (madeA made z ys) H' → Q (.str ⟨(txt (sealT z ys)).toArray⟩) H')) :
    spSeal2 C CK CT K Ts [.ref o, .str z, .ref l] H Q E := by
  have lim : sizeLine = 16777216 := sizeLine_eq
  refine ⟨o, dm, l, made, .str z, _, rfl, O, lm, SqL.of e1, by rw [List.length_map]; omega, fun x mx => ?_, ⟨_, rfl⟩, fun y e => (by rw [← V.str.inj e]; omega), G, fun hb => ?_, fun ks2 ys2 ek hk2 ha2 m2 => ?_⟩
  · obtain ⟨k, mk, rfl⟩ := List.mem_map.mp mx
    have := kyl12 (lk k mk)
    exact ⟨⟨_, rfl⟩, by show k.length ≤ sizeLine; omega⟩
  · obtain ⟨x, mx, hx⟩ := List.all_eq_false.mp hb
    obtain ⟨k, mk, rfl⟩ := List.mem_map.mp mx
    exact absurd (show kyV (.str k) = true from lk k mk) hx
  · have ek2 : ks2 = ls := (List.map_inj_right (fun _ _ h => V.str.inj h)).mp ek.symm
    subst ek2
    obtain ⟨l32, big, q⟩ := h ys2 ha2 m2
    refine ⟨fun h => absurd l32 (by omega), fun _ => ⟨fun h => ?_, fun z2 ez _ => ?_⟩⟩
    · rw [show prV (.str z) = true from pz] at h; cases h
    · cases V.str.inj ez
      exact ⟨big, q⟩
/-- a call of seal with a value that is no key, or with too many keys -/
theorem seal_badK (O : Ofc C o dm made H) (lm : made.length ≤ 900) (e1 : SqL K H l xs) (ll : xs.length ≤ 1000) (hx : ∀ x ∈ xs, (∃ t, tyN H x = some t) ∧ szV x) (ht : ∃ t, tyN H tv = some t) (lz : ∀ z, tv = .str z → z.length ≤ 10000000) (G : Tabs Ts H)
    (bad : xs.all kyV = false ∨ ∀ ks ys : List Str, xs = ks.map V.str → asc ys = true → (∀ z, z ∈ ys ↔ z ∈ ks) → 32 < ys.length) (qE : ∀ H', Kp Ts H H' → Tabs Ts H' → E (.ref CK) none H') : spSeal2 C CK CT K Ts [.ref o, tv, .ref l] H Q E := by
  refine ⟨o, dm, l, made, tv, _, rfl, O, lm, e1, ll, hx, ht, lz, G, fun _ => qE, fun ks ys e hk ha m => ⟨fun _ => qE, fun h32 => ?_⟩⟩
  exfalso
  rcases bad with b | b
  · obtain ⟨x, mx, hx⟩ := List.all_eq_false.mp b
    rw [e] at mx
    obtain ⟨k, mk, rfl⟩ := List.mem_map.mp mx
    exact absurd (show kyV (.str k) = true from hk k mk) hx
  · have := b ks ys e ha m
    omega
/-- a call of seal with keys, and a text that is none -/
theorem seal_badT (O : Ofc C o dm made H) (lm : made.length ≤ 900) (e1 : H l = some (.lst (ls.map V.str))) (ll : ls.length ≤ 1000) (lk : ∀ k ∈ ls, kyS k = true) (l32 : ∀ ys, asc ys = true → (∀ z, z ∈ ys ↔ z ∈ ls) → ys.length ≤ 32) (ht : ∃ t, tyN H tv = some t) (lz : ∀ z, tv = .str z → z.length ≤ 10000000) (bad : prV tv = false) (G : Tabs Ts H)
    (qE : ∀ H', Kp Ts H H' → Tabs Ts H' → E (.ref CT) none H') : spSeal2 C CK CT K Ts [.ref o, tv, .ref l] H Q E := by
  have lim : sizeLine = 16777216 := sizeLine_eq
  refine ⟨o, dm, l, made, tv, _, rfl, O, lm, SqL.of e1, by rw [List.length_map]; omega, fun x mx => ?_, ht, lz, G, fun hb => ?_, fun ks2 ys2 ek hk2 ha2 m2 => ?_⟩
  · obtain ⟨k, mk, rfl⟩ := List.mem_map.mp mx
    have := kyl12 (lk k mk)
    exact ⟨⟨_, rfl⟩, by show k.length ≤ sizeLine; omega⟩
  · obtain ⟨x, mx, hx⟩ := List.all_eq_false.mp hb
    obtain ⟨k, mk, rfl⟩ := List.mem_map.mp mx
    exact absurd (show kyV (.str k) = true from lk k mk) hx
  · have ek2 : ks2 = ls := (List.map_inj_right (fun _ _ h => V.str.inj h)).mp ek.symm
    subst ek2
    refine ⟨fun h => absurd (l32 ys2 ha2 m2) (by omega), fun _ => ⟨fun _ => qE, fun z2 ez hp => ?_⟩⟩
    subst ez
    rw [show prV (.str z2) = true from hp] at bad
    cases bad
end
theorem rows_len (z : Str) : ∀ ys : List Str, (∀ y ∈ ys, y.length = 4) → (txts (ys.map (rowT z))).length = 29 * ys.length
  | [], _ => rfl
  | y :: ys, h => by
    have hy := h y List.mem_cons_self
    have hm := mkS_len y z
    have e4 : (dig 4).length = 1 := by decide +kernel
    have e18 : (dig 18).length = 2 := by decide +kernel
    show ((91 :: (((dig y.length ++ 58 :: TL.tl y) ++ ((dig (mkS y z).length ++ 58 :: TL.tl (mkS y z)) ++ [])) ++ [93])) ++ txts (ys.map (rowT z))).length = _
    rw [hy, hm]
    have := rows_len z ys fun k m => h k (List.mem_cons_of_mem _ m)
    simp only [List.length_cons, List.length_append, List.length_nil, ← TL.len_tl, hm, hy, e4, e18, this]
    omega
theorem seal_len (z : Str) (ys : List Str) : (txt (sealT z ys)).length = (dig z.length).length + z.length + 5 + (txts (ys.map (rowT z))).length := by
  show (91 :: ((txt (.str z) ++ ((91 :: (txts (ys.map (rowT z)) ++ [93])) ++ [])) ++ [93])).length = _
  have e : (txt (.str z)).length = (dig z.length).length + (z.length + 1) := by
    show (dig z.length ++ 58 :: TL.tl z).length = _
    rw [List.length_append, List.length_cons, ← TL.len_tl]
  simp only [List.length_cons, List.length_append, List.length_nil, e]
  omega

/-! k18: the law's own defs -/
theorem mk_prn (k t : Str) : prn (mkS k t) = true := by
  unfold prn
  rw [List.all_eq_true]
  intro c hc
  have h := hx18_in _ c hc
  exact (by decide +kernel : ∀ c ∈ hxs, prc c = true) c h
theorem abc_prnS {z : Str} (h : ∀ c ∈ z.cps.toList, c ∈ abc) : prn z = true := by
  unfold prn
  rw [List.all_eq_true]
  exact fun c hc => (by decide +kernel : ∀ c ∈ abc, prc c = true) c (h c hc)
def wordsOk (hs : List Str) : Prop := 1 ≤ hs.length ∧ hs.length ≤ 4 ∧ ∀ z ∈ hs, prn z = true ∧ z.length ≤ 60
def spTarget : Sp := fun vs H Q _ => ∃ (s h : Addr) (hs : List Str), vs = [.ref s, .ref h] ∧ Strm H s ∧ H h = some (.lst (hs.map V.str)) ∧ wordsOk hs ∧ ∀ (t : Str) (H' : Hp), prn t = true → t.length ≤ 1000 → t ∉ hs → Kp [s] H H' → Strm H' s → Q (.str t) H'
def spSMark : Sp := fun vs H Q _ => ∃ (s h kk : Addr) (k t : Str) (hs ks : List Str), vs = [.ref s, .str k, .str t, .ref h, .ref kk] ∧ Strm H s ∧ k.length ≤ 1000 ∧ t.length ≤ 1000 ∧ H h = some (.lst (hs.map V.str)) ∧ wordsOk hs ∧ H kk = some (.lst (ks.map V.str)) ∧ 1 ≤ ks.length ∧ ks.length ≤ 1000 ∧ (∀ z ∈ ks, z.length ≤ 100) ∧ ∀ (m : Str) (H' : Hp), prn m = true → m.length ≤ 40 → Kp [s] H H' → Strm H' s → Q (.str m) H'
theorem len_appS (x y : Str) : (x ++ y).length = x.length + y.length := by
  rw [TL.len_tl, TL.tl_append, List.length_append, ← TL.len_tl, ← TL.len_tl]
theorem join_le : ∀ (hs : List Str) (z : Str), z ∈ hs → z.length ≤ (Txt.join (Str.ofString "") hs).length := fun hs z hz => by
  rw [TL.len_tl, TL.len_tl, tl_joinE]
  induction hs with
  | nil => cases hz
  | cons y r ih =>
    rw [List.map_cons, List.flatten_cons, List.length_append]
    rcases List.mem_cons.mp hz with rfl | hz
    · omega
    · have := ih hz
      omega
theorem join_up : ∀ (hs : List Str) (m : Nat), (∀ z ∈ hs, prn z = true ∧ z.length ≤ m) → prn (Txt.join (Str.ofString "") hs) = true ∧ (Txt.join (Str.ofString "") hs).length ≤ hs.length * m := fun hs m h => by
  unfold prn
  rw [TL.len_tl, show (Txt.join (Str.ofString "") hs).cps.toList = (hs.map TL.tl).flatten from tl_joinE hs, tl_joinE]
  induction hs with
  | nil => exact ⟨rfl, Nat.zero_le _⟩
  | cons y r ih =>
    obtain ⟨i1, i2⟩ := ih fun z hz => h z (List.mem_cons_of_mem _ hz)
    obtain ⟨y1, y2⟩ := h y List.mem_cons_self
    rw [TL.len_tl] at y2
    rw [List.map_cons, List.flatten_cons, List.length_append, List.all_append, i1, List.length_cons, Nat.succ_mul, Bool.and_true]
    exact ⟨y1, by omega⟩
theorem sum_le : ∀ (hs : List Str) (m : Nat), (∀ z ∈ hs, z.length ≤ m) → (hs.map (fun x => x.length)).sum ≤ hs.length * m
  | [], _, _ => Nat.zero_le _
  | y :: r, m, h => by
    have := sum_le r m fun z hz => h z (List.mem_cons_of_mem _ hz)
    have := h y List.mem_cons_self
    rw [List.map_cons, List.sum_cons, List.length_cons, Nat.succ_mul]
    omega
theorem strm_ne {H : Hp} {st h : Addr} {hs : List Str} (s : Strm H st) (e : H h = some (.lst (hs.map V.str))) : h ≠ st := by
  obtain ⟨a, b, e2⟩ := s
  intro z
  rw [z, e2] at e
  cases hs with
  | nil => cases e
  | cons x r => cases e
theorem pickS {hs : List Str} {v : Int} (h0 : 0 ≤ v) (h1 : v < (hs.length : Nat)) : ∃ z, atI (hs.map V.str) v = some (.str z) ∧ z ∈ hs := by
  obtain ⟨z, hz⟩ : ∃ z, hs[v.toNat]? = some z := ⟨_, List.getElem?_eq_getElem (by omega)⟩
  refine ⟨z, ?_, List.mem_of_getElem? hz⟩
  rw [show v = ((v.toNat : Nat) : Int) by omega]
  exact atI_nat (by rw [List.getElem?_map, hz]; rfl)
section
variable {P : Program} {w : World} {K : PySem.W.Frag} {mg : Str → Option Value} {base : Heap} {f : Addr} {fd : FuncData}
end
/-- [k for k in texts if a test that draws] -/
theorem draw_sub {K : PySem.W.Frag} {σ : List (Option V)} {H : Hp} {R : VK} {tl te : TE} {tt : TT} {ks : Nat} {st r : Addr} {xs : List Str} (er : H r = some (.lst (xs.map V.str))) (hst : Strm H st) (ln : xs.length ≤ 1000)
    (hl : ∀ R : VK, R (.ref r) H → tl σ H R) (hw : ∀ x : V, wipe ((wipe σ [ks]).set ks (some x)) [ks] = wipe σ [ks])
    (ht : ∀ (k : Str) (H2 : Hp) (R : Bool → Hp → Prop), Strm H2 st → (∀ (b : Bool) (H3 : Hp), Kp [st] H2 H3 → Strm H3 st → R b H3) → tt ((wipe σ [ks]).set ks (some (.str k))) H2 R)
    (he : ∀ (k : Str) (H2 : Hp) (R : VK), R (.str k) H2 → te ((wipe σ [ks]).set ks (some (.str k))) H2 R)
    (q : ∀ (D : Addr) (ys : List Str) (H' : Hp), ys.Sublist xs → H' D = some (.lst (ys.map V.str)) → Kp [st] H H' → Strm H' st → H D = none → R (.ref D) H') :
    tLc (iList K tl) (gName ks) tt te [ks] σ H R := by
  refine hl _ ⟨r, rfl, ⟨_, SqL.of er⟩, fun D hD => ?_⟩
  have lim : sizeLine = 16777216 := sizeLine_eq
  have nD : D ≠ st := by obtain ⟨a, b, e⟩ := hst; exact (ne_of_none e hD).symm
  have nr := strm_ne hst er
  have nrD : r ≠ D := ne_of_none er hD
  refine lc_list (K := K) (a := r) (xs := xs.map V.str) (fun i H' => ∃ ys : List Str, H' D = some (.lst (ys.map V.str)) ∧ ys.Sublist (xs.take i) ∧ H' r = some (.lst (xs.map V.str)) ∧ Kp [st] H H' ∧ Strm H' st)
    ⟨[], upd_same, List.nil_sublist _, by rw [upd_ne nrD]; exact er, Kp.new hD _, hst.kp (Kp.new hD _ : Kp [] _ _) (by simp)⟩ (fun i H' _ ⟨_, _, _, e, _⟩ => SqL.of e) (fun i x H2 hx ⟨ys, hy, sb, e2, k2, s2⟩ => ?_) (fun H2 ⟨ys, hy, sb, e2, k2, s2⟩ => ?_)
  · rw [List.getElem?_map] at hx
    obtain ⟨k, hk, rfl⟩ := Option.map_eq_some_iff.mp hx
    have tk : xs.take (i + 1) = xs.take i ++ [k] := by rw [List.take_add_one, hk]; rfl
    refine ⟨hw _, ht k _ _ s2 fun b H3 k3 s3 => ?_⟩
    have hy3 := k3.keep D _ (by simpa using nD) hy
    have e3 := k3.keep r _ (by simpa using nr) e2
    have ly := sb.length_le
    rw [List.length_take] at ly
    cases b with
    | false =>
      rw [if_neg (by decide)]
      exact ⟨ys, hy3, by rw [tk]; exact sb.trans (List.sublist_append_left _ _), e3, k2.trans k3, s3⟩
    | true =>
    rw [if_pos rfl]
    refine he k _ _ ⟨_, hy3, by rw [List.length_map]; omega, ys ++ [k], by rw [upd_same, List.map_append]; rfl, by rw [tk]; exact sb.append (List.Sublist.refl _), by rw [upd_ne nrD]; exact e3, (k2.trans k3).upd hD hy3, ?_⟩
    obtain ⟨a, b, e⟩ := s3
    exact ⟨a, b, by rw [upd_ne (Ne.symm nD)]; exact e⟩
  · rw [List.length_map, List.take_length] at sb
    exact q D ys H2 sb hy k2 s2 hD
/-- [k for k in texts if a test that changes nothing] -/
theorem lc_fl {K : PySem.W.Frag} {σ : List (Option V)} {H : Hp} {R : VK} {tl te : TE} {tt : TT} {ks : Nat} {r : Addr} {xs : List Str} (fl : Str → Bool) (er : H r = some (.lst (xs.map V.str))) (ln : xs.length ≤ 1000)
    (hl : ∀ R : VK, R (.ref r) H → tl σ H R) (hw : ∀ x : V, wipe ((wipe σ [ks]).set ks (some x)) [ks] = wipe σ [ks])
    (ht : ∀ (k : Str) (H2 : Hp) (R : Bool → Hp → Prop), Kp [] H H2 → R (fl k) H2 → tt ((wipe σ [ks]).set ks (some (.str k))) H2 R)
    (he : ∀ (k : Str) (H2 : Hp) (R : VK), R (.str k) H2 → te ((wipe σ [ks]).set ks (some (.str k))) H2 R)
    (q : ∀ (D : Addr) (H' : Hp), H' D = some (.lst ((xs.filter fl).map V.str)) → Kp [] H H' → H D = none → R (.ref D) H') :
    tLc (iList K tl) (gName ks) tt te [ks] σ H R := by
  refine hl _ ⟨r, rfl, ⟨_, SqL.of er⟩, fun D hD => ?_⟩
  have lim : sizeLine = 16777216 := sizeLine_eq
  refine lc_list (K := K) (a := r) (xs := xs.map V.str) (fun i H' => H' D = some (.lst (((xs.take i).filter fl).map V.str)) ∧ Kp [] H H')
    ⟨upd_same, Kp.new hD _⟩ (fun i H' _ ⟨_, k⟩ => SqL.of (k.keep r _ List.not_mem_nil er)) (fun i x H2 hx ⟨hy, k2⟩ => ?_) (fun H2 ⟨hy, k2⟩ => ?_)
  · rw [List.getElem?_map] at hx
    obtain ⟨k, hk, rfl⟩ := Option.map_eq_some_iff.mp hx
    have tk : xs.take (i + 1) = xs.take i ++ [k] := by rw [List.take_add_one, hk]; rfl
    refine ⟨hw _, ht k _ _ k2 ?_⟩
    have ly := List.length_filter_le fl (xs.take i)
    rw [List.length_take] at ly
    cases c : fl k with
    | false =>
      rw [if_neg (by decide)]
      exact ⟨by rw [tk, List.filter_append]; simpa [c] using hy, k2⟩
    | true =>
    rw [if_pos rfl]
    exact he k _ _ ⟨_, hy, by rw [List.length_map]; omega, by rw [upd_same, tk, List.filter_append]; simp [c], k2.upd hD hy⟩
  · rw [List.length_map, List.take_length] at hy
    exact q D H2 hy k2 hD

/-! k19: rows of seals -/
def rowP (z k : Str) : Str × Str := (k, mkS k z)
theorem rows_prs {H : Hp} {z : Str} : ∀ {L : List Str} {vs : List V}, RepAll H vs (L.map (rowT z)) → ∃ ts : List Addr, vs = ts.map V.ref ∧ PrsAt H ts (L.map (rowP z))
  | [], _, h => by
    cases h
    exact ⟨[], rfl, rfl, fun i t p e => by simp at e⟩
  | k :: L, _, h => by
    have h : RepAll H _ (rowT z k :: L.map (rowT z)) := h
    cases h with
    | cons h1 h2 =>
      obtain ⟨ts, rfl, hp⟩ := rows_prs h2
      have h1 : Rep H _ (.tup [.str k, .str (mkS k z)]) := h1
      cases h1 with
      | @tup t xs _ e r =>
        cases r with
        | cons r1 r =>
        cases r with
        | cons r2 r =>
        cases r
        cases r1
        cases r2
        refine ⟨t :: ts, rfl, by show ts.length + 1 = _; rw [hp.1]; rfl, fun i u p e1 e2 => ?_⟩
        cases i with
        | zero => cases e1; cases e2; exact e
        | succ i => exact hp.2 i u p e1 e2
theorem prs_rows {H : Hp} {z : Str} : ∀ {L : List Str} {ts : List Addr}, PrsAt H ts (L.map (rowP z)) → RepAll H (ts.map V.ref) (L.map (rowT z))
  | [], [], _ => .nil
  | [], _ :: _, h => absurd h.1 (by simp)
  | _ :: _, [], h => absurd h.1 (by simp)
  | k :: L, t :: ts, h => .cons (.tup (h.2 0 t (rowP z k) rfl rfl) (.cons (.str _) (.cons (.str _) .nil))) (prs_rows ⟨by have := h.1; simpa using this, fun i u p e1 e2 => h.2 (i + 1) u p e1 e2⟩)
theorem PrsAt.snoc {H : Hp} {ts : List Addr} {ml : List (Str × Str)} {p : Addr} {q : Str × Str} (h : PrsAt H ts ml) (e : H p = some (.tup [.str q.1, .str q.2])) : PrsAt H (ts ++ [p]) (ml ++ [q]) := by
  have tl := h.1
  refine ⟨by rw [List.length_append, List.length_append, tl]; rfl, fun j u v q1 q2 => ?_⟩
  by_cases hj : j < ts.length
  · rw [List.getElem?_append_left hj] at q1
    rw [List.getElem?_append_left (by rw [← tl]; exact hj)] at q2
    exact h.2 j u v q1 q2
  · rw [List.getElem?_append_right (by omega)] at q1
    rw [List.getElem?_append_right (by rw [← tl]; omega)] at q2
    have j0 : j - ts.length = 0 := by
      have := (List.getElem?_eq_some_iff.mp q1).1
      simp at this; omega
    rw [j0] at q1
    rw [← tl, j0] at q2
    cases q1; cases q2
    exact e
/-- the pair at an address -/
def kfH (H : Hp) : V → Str × Str
  | .ref t => match H t with
    | some (.tup [.str a, .str b]) => (a, b)
    | _ => (Str.empty, Str.empty)
  | _ => (Str.empty, Str.empty)
theorem kf_at {H : Hp} {t : Addr} {a b : Str} (e : H t = some (.tup [.str a, .str b])) : kfH H (.ref t) = (a, b) := by
  show (match H t with | some (.tup [.str a, .str b]) => (a, b) | _ => (Str.empty, Str.empty)) = _
  rw [e]
theorem kf_map {H : Hp} {z : Str} : ∀ {L : List Str} {ts : List Addr}, PrsAt H ts (L.map (rowP z)) → (ts.map V.ref).map (fun v => (kfH H v).1) = L
  | [], [], _ => rfl
  | [], _ :: _, h => absurd h.1 (by simp)
  | _ :: _, [], h => absurd h.1 (by simp)
  | k :: L, t :: ts, h => by
    rw [List.map_cons, List.map_cons, kf_map (L := L) ⟨by have := h.1; simpa using this, fun i u p e1 e2 => h.2 (i + 1) u p e1 e2⟩, kf_at (h.2 0 t (rowP z k) rfl rfl)]
    rfl
theorem prs_mem {H : Hp} {z : Str} : ∀ {L : List Str} {ts : List Addr}, PrsAt H ts (L.map (rowP z)) → ∀ v ∈ ts.map V.ref, ∃ t k, v = V.ref t ∧ k ∈ L ∧ H t = some (.tup [.str k, .str (mkS k z)])
  | [], [], _, _, m => absurd m List.not_mem_nil
  | [], _ :: _, h, _, _ => absurd h.1 (by simp)
  | _ :: _, [], h, _, _ => absurd h.1 (by simp)
  | k :: L, t :: ts, h, v, m => by
    rcases List.mem_cons.mp m with rfl | m
    · exact ⟨t, k, rfl, List.mem_cons_self, h.2 0 t (rowP z k) rfl rfl⟩
    · obtain ⟨t', k', e1, e2, e3⟩ := prs_mem (L := L) ⟨by have := h.1; simpa using this, fun i u p e1 e2 => h.2 (i + 1) u p e1 e2⟩ v m
      exact ⟨t', k', e1, List.mem_cons_of_mem _ e2, e3⟩
theorem rep_srt {H : Hp} {z : Str} : ∀ {vs : List V}, (∀ v ∈ vs, ∃ t k, v = V.ref t ∧ H t = some (.tup [.str k, .str (mkS k z)])) → RepAll H vs ((vs.map fun v => (kfH H v).1).map (rowT z))
  | [], _ => .nil
  | v :: vs, h => by
    obtain ⟨t, k, rfl, e⟩ := h v List.mem_cons_self
    rw [List.map_cons, List.map_cons, kf_at e]
    exact .cons (.tup e (.cons (.str _) (.cons (.str _) .nil))) (rep_srt fun u m => h u (List.mem_cons_of_mem _ m))
theorem asc_srt {k : V → Str × Str} : ∀ {vs : List V}, SrtO.Srtd (fun v u => lexS (k v) (k u)) vs → (vs.map fun v => (k v).1).Nodup → asc (vs.map fun v => (k v).1) = true
  | [], _, _ => rfl
  | v :: vs, h, n => by
    obtain ⟨h1, h2⟩ := List.pairwise_cons.mp h
    rw [List.map_cons, List.nodup_cons] at n
    rw [List.map_cons]
    refine asc_cons.mpr ⟨fun y my => ?_, asc_srt h2 n.2⟩
    obtain ⟨u, mu, rfl⟩ := List.mem_map.mp my
    have a : lexS (k u) (k v) = false := h1 u mu
    have ne : (k u).1 ≠ (k v).1 := fun e => n.1 (by rw [← e]; exact my)
    unfold lexS at a
    rw [if_neg ne] at a
    exact lt_of_no a ne
theorem rowP_mem {z k : Str} {L : List Str} : (k, mkS k z) ∈ L.map (rowP z) ↔ k ∈ L := by
  constructor
  · intro h
    obtain ⟨j, mj, e⟩ := List.mem_map.mp h
    rw [← (Prod.mk.inj e).1]; exact mj
  · exact fun h => List.mem_map.mpr ⟨k, h, rfl⟩
theorem suN_rows {made : List (Str × Str)} {keys : List Str} {z : Str} : ∀ {ys : List Str}, (∀ k ∈ ys, (k, z) ∈ made) → suN made keys z (ys.map (rowT z)) = ys.countP fun k => decide (k ∈ keys)
  | [], _ => rfl
  | y :: ys, h => by
    unfold suN
    rw [List.map_cons, List.countP_cons, List.countP_cons]
    have ih := suN_rows (keys := keys) fun k m => h k (List.mem_cons_of_mem y m)
    unfold suN at ih
    rw [ih]
    have e : suC made keys z (rowT z y) = decide (y ∈ keys) := by
      show (decide (y ∈ keys) && (decide ((y, z) ∈ made) && decide (mkS y z = mkS y z))) = _
      rw [decide_eq_true (h y List.mem_cons_self), decide_eq_true rfl, Bool.and_true, Bool.and_true]
    rw [e]
theorem cnt_two {L R as : List Str} : ∀ ym : List Str, (∀ x, (x ∈ L ∨ x ∈ R) ↔ x ∈ as) → (∀ x ∈ L, x ∉ R) → (ym.countP fun k => decide (k ∈ L)) + (ym.countP fun k => decide (k ∈ R)) = ym.countP fun k => decide (k ∈ as)
  | [], _, _ => rfl
  | y :: ym, h, d => by
    have ih := cnt_two ym h d
    rw [List.countP_cons, List.countP_cons, List.countP_cons]
    by_cases c1 : y ∈ L
    · have c2 := d y c1
      have c3 := (h y).mp (.inl c1)
      simp only [decide_eq_true c1, decide_eq_false c2, decide_eq_true c3, if_true, Bool.false_eq_true, if_false]
      omega
    · by_cases c2 : y ∈ R
      · have c3 := (h y).mp (.inr c2)
        simp only [decide_eq_false c1, decide_eq_true c2, decide_eq_true c3, if_true, Bool.false_eq_true, if_false]
        omega
      · have c3 : y ∉ as := fun m => ((h y).mpr m).elim c1 c2
        simp only [decide_eq_false c1, decide_eq_false c2, decide_eq_false c3, Bool.false_eq_true, if_false]
        omega
theorem cnt_sub {p : Str → Bool} {xs ys : List Str} (n : xs.Nodup) (h : ∀ x ∈ xs, x ∈ ys) : xs.countP p ≤ ys.countP p := by
  rw [List.countP_eq_length_filter, List.countP_eq_length_filter]
  refine nodup_le (n.sublist List.filter_sublist) fun x m => ?_
  obtain ⟨a, b⟩ := List.mem_filter.mp m
  exact List.mem_filter.mpr ⟨h x a, b⟩
theorem cnt_all {xs ks : List Str} (h : ∀ x ∈ xs, x ∈ ks) : (xs.countP fun k => decide (k ∈ ks)) = xs.length := List.countP_eq_length.mpr fun x m => decide_eq_true (h x m)

/-! k19: the law -/
abbrev s_law_keys : Stmt := top 53
abbrev N_law_keys : List Str := ["stream", "step", "many", "most", "k"]
theorem sc_law_keys : FnScope N_law_keys ["stream", "step", "many", "most"] (defScope s_law_keys) := ⟨rfl, rfl, rfl, by decide +kernel, rfl, by decide +kernel, by decide +kernel⟩
abbrev s_law_merged : Stmt := top 54
abbrev N_law_merged : List Str := ["one", "two", "seals", "pair"]
theorem sc_law_merged : FnScope N_law_merged ["one", "two"] (defScope s_law_merged) := ⟨rfl, rfl, rfl, by decide +kernel, rfl, by decide +kernel, by decide +kernel⟩
abbrev s_law : Stmt := top 55
abbrev N_law : List Str := ["script", "stream", "office", "text", "step", "many", "one", "two", "first", "second", "both", "asked", "left", "right", "key", "due"]
theorem sc_law : FnScope N_law ["script"] (defScope s_law) := ⟨rfl, rfl, rfl, by decide +kernel, rfl, by decide +kernel, by decide +kernel⟩
theorem ite_dec {p : Prop} [Decidable p] {A B : Prop} (h : p → A) (g : ¬ p → B) : if p then A else B := by
  split
  · exact h ‹_›
  · exact g ‹_›
theorem for_via {K : PySem.W.Frag} {tl : TE} {g : TG} {tb : TS} {D : Ends} {σ : L2.St} {H : Hp} (Pq : V → Hp → Prop) (h1 : ∀ R : VK, (∀ x H', Pq x H' → R x H') → tl σ H R) (h2 : ∀ x H', Pq x H' → tFor (iList K (fun _ _ R => R x H')) g tb D σ H) : tFor (iList K tl) g tb D σ H :=
  h1 _ fun x H' hp => h2 x H' hp
theorem SO.lst {Ts : List Addr} {C : Addr} {H0 H : Hp} {st o d D : Addr} {mo : List (Str × Str)} {xs ys : List V} (h : SO Ts C H0 st o d mo H) (e : H D = some (.lst xs)) (h0 : H0 D = none) (n : D ≠ st) : SO Ts C H0 st o d mo (upd H D (.lst ys)) := by
  obtain ⟨dx, e1⟩ := h.O.ob
  have kk : Kp [D] H (upd H D (.lst ys)) := Kp.lst e (List.mem_singleton.mpr rfl)
  have one : ∀ {b : Addr} {u : HO}, H b = some u → (∀ xs, u ≠ .lst xs) → b ∉ [D] := fun e3 no m => by
    rw [List.mem_singleton.mp m, e] at e3
    exact no _ (Option.some.inj e3).symm
  exact ⟨h.L.lst h0 e n, h.O.kp kk (one e1 (by intro xs z; cases z)) (one h.O.dc (by intro xs z; cases z)), h.f1⟩
def spKeys19 : Sp := fun vs H Q _ => ∃ (s : Addr) (step many most : Int), vs = [.ref s, .int step, .int many, .int most] ∧ Strm H s ∧ StepOk step ∧ 1 ≤ many ∧ many ≤ 32 ∧ 0 ≤ most ∧ most ≤ 40 ∧
  ∀ (p : Addr) (ks : List Str) (H' : Hp), H' p = some (.lst (ks.map V.str)) → (ks.length : Int) ≤ most → (∀ k ∈ ks, KeyOf step k) → Kp [s] H H' → Strm H' s → H p = none → Q (.ref p) H'
def spMerged : Sp := fun vs H Q _ => ∃ (a b : Addr) (z : Str) (ys1 ys2 : List Str), vs = [.ref a, .ref b] ∧ Rep H (.ref a) (.tup (ys1.map (rowT z))) ∧ Rep H (.ref b) (.tup (ys2.map (rowT z))) ∧ ys1.Nodup ∧ ys1.length ≤ 32 ∧ ys2.length ≤ 32 ∧ (∀ k ∈ ys1, kyS k = true) ∧ (∀ k ∈ ys2, kyS k = true) ∧
  ∀ (u : V) (ys : List Str) (H' : Hp), asc ys = true → (∀ x, x ∈ ys ↔ x ∈ ys1 ∨ x ∈ ys2) → Rep H' u (.tup (ys.map (rowT z))) → Kp [] H H' → Q u H'
def spLaw (K : PySem.W.Frag) (Ts : List Addr) : Sp := fun vs H Q _ => ∃ (a : Addr) (ns : List Int), vs = [.ref a] ∧ SqL K H a (ns.map V.int) ∧ Tabs Ts H ∧ ∀ H', Q (.bl true) H'
section
variable {P : Program} {w : World} {K : PySem.W.Frag} {mg : Str → Option Value} {base : Heap} {f : Addr} {fd : FuncData} {C CK CT : Addr} {Ts : List Addr}
theorem ok_lkeys (F : Fun K "_law_keys" "_law_keys" s_law_keys f fd) (B : Blt mg) (c_law_take : Cal P w K mg base CX0 1 "_law_take" spTake) : FnOk P w K mg base CX0 2 f fd ["stream", "step", "many", "most"] spKeys19 := by
  refine F.ok sc_law_keys (fun vs H Q E h => ?_) (fun cdv A outer s H vs Q E hr h => ?_)
  · obtain ⟨st, step, many, most, rfl, _⟩ := h; rfl
  obtain ⟨st, step, many, most, rfl, hst, hs, m1, m2, k1, k2, q⟩ := h
  refine ⟨_, (pss_one (ps_ret (pe_lc (own := [("k", 4)]) (g := gName 4) (tt := tYes) rfl sc_law_keys.nd (B.range1 (pa_cons (c_law_take.pe hr (pa_cons (pv 0) (pa_cons (pe_op op_add (pv 3) pe_int) pa_nil))) pa_nil)) (blkOk_by (own := [("k", 4)]) (N := N_law_keys) (sc := defScope s_law_keys) (by decide +kernel)) (fun _ _ _ _ _ => pg_name (i := 4) sc_law_keys.nd rfl (Or.inl rfl)) (fun _ _ _ _ _ => pts_nil) (fun _ _ _ _ _ => (pe_op op_add_str pe_str (B.str_i (pa_cons (pe_op op_mul (pv 1) (c_law_take.pe hr (pa_cons (pv 0) (pa_cons (pv 2) pa_nil)))) pa_nil))))))), ?_⟩
  have lim : sizeLine = 16777216 := sizeLine_eq
  walk_at "wp"
  refine draw_lst (st := st) (Pn := fun n H' => 0 ≤ n ∧ n ≤ most ∧ Kp [st] H H' ∧ Strm H' st) (Pk := KeyOf step) (fun R h => ?_) (fun n H' h => ⟨h.1, by omega, h.2.2.2⟩) (fun _ => rfl) (fun x H' R s' hR => ?_) (fun n H9 D cs HA ⟨n0, n1, k9, s9⟩ eD lD hkk KA sA hD => ?_)
  · walk_at "wp"
    exact ⟨st, most + 1, rfl, hst, ⟨by omega, by omega⟩, fun n H' n0 n1 k s => h n H' ⟨n0, by omega, k, s⟩⟩
  · walk_at "wp"
    refine ⟨_, rfl, _, rfl, _, rfl, st, many, rfl, s', ⟨by omega, by omega⟩, fun y H'' y0 y1 k'' s'' => ?_⟩
    obtain ⟨b0, b1⟩ := hs.b y y0 (by omega)
    obtain ⟨hky, hln, hlg⟩ := ky_num b0 b1
    exact ⟨step, rfl, y, rfl, hs.m y y0 (by omega), hlg, by show 1 + _ ≤ _; omega, hR _ _ ⟨y, y0, by omega, rfl⟩ k'' s''⟩
  · refine q D cs HA eD (by omega) hkk (k9.trans KA) sA ?_
    cases e : H D with
    | none => rfl
    | some o =>
      exfalso
      by_cases c : D = st
      · obtain ⟨x, y, e2⟩ := s9
        rw [c, e2] at hD; cases hD
      · have := k9.keep D o (by simpa using c) e
        rw [hD] at this; cases this
theorem ok_merged (F : Fun K "_law_merged" "_law_merged" s_law_merged f fd) (B : Blt mg) (zsort : mg "sorted" = none) : FnOk P w K mg base CX0 2 f fd ["one", "two"] spMerged := by
  refine F.ok sc_law_merged (fun vs H Q E h => ?_) (fun cdv A outer s H vs Q E hr h => ?_)
  · obtain ⟨a, b, z, ys1, ys2, rfl, _⟩ := h; rfl
  obtain ⟨a, b, z, ys1, ys2, rfl, ra, rb, n1, l1, l2, hk1, hk2, q⟩ := h
  refine ⟨_, (pss_cons (ps_set (i := 2) sc_law_merged.nd rfl (Or.inl rfl) (B.list_q (pa_cons (pv 0) pa_nil)))
    (pss_cons (ps_for PassesOwn.never rfl (pi_tup (pv 1)) (pg_name (i := 3) sc_law_merged.nd rfl (Or.inl rfl)) (pss_one (ps_if (pt_cmpR (op_notInD (u65 hr)) (pv 3) (pv 2) (by rfl)) (pss_one (ps_expr (pe_bm PySem.F.plainAttrs_list PySem.F.slot_list_append PySem.F.type_list_append mt_append (pv 2) (pa_cons (pv 3) pa_nil)))) pss_nil)))
    (pss_one (ps_ret (B.tuple_l (pa_cons (pe_callB cr_sortedPS rfl zsort (by decide +kernel) (pa_cons (pv 2) pa_nil)) pa_nil)))))), ?_⟩
  have lim : sizeLine = 16777216 := sizeLine_eq
  obtain ⟨xs1, ea, r1⟩ : ∃ xs, H a = some (.tup xs) ∧ RepAll H xs (ys1.map (rowT z)) := by
    cases ra with
    | tup e r => exact ⟨_, e, r⟩
  obtain ⟨xs2, eb, r2⟩ : ∃ xs, H b = some (.tup xs) ∧ RepAll H xs (ys2.map (rowT z)) := by
    cases rb with
    | tup e r => exact ⟨_, e, r⟩
  obtain ⟨ts1, rfl, P1⟩ := rows_prs r1
  obtain ⟨ts2, rfl, P2⟩ := rows_prs r2
  have okR : ∀ {L : List Str}, (∀ k ∈ L, kyS k = true) → okP (L.map (rowP z)) := fun {L} h p hp => by
    obtain ⟨k, mk, rfl⟩ := List.mem_map.mp hp
    exact ⟨h k mk, mkS_prn k z, by show (mkS k z).length ≤ 60; rw [mkS_len]; decide⟩
  walk_at "wp"
  refine ⟨_, .inr (SqT.of ea), fun D hD => ?_⟩
  have kD := Kp.new (S := []) hD (.lst (ts1.map V.ref))
  refine ⟨_, rfl, b, rfl, ⟨_, SqT.of (kD.tup _ _ eb)⟩, ?_⟩
  refine for_tup (K := K) (a := b) (xs := ts2.map V.ref) (fun i σ H' => (∃ o3 : Option V, σ = [some (.ref a), some (.ref b), some (.ref D), o3]) ∧ Kp [] H H' ∧ ∃ (ts : List Addr) (L : List Str), H' D = some (.lst (ts.map V.ref)) ∧ PrsAt H' ts (L.map (rowP z)) ∧ L.Nodup ∧ (∀ x, x ∈ L ↔ x ∈ ys1 ∨ x ∈ ys2.take i) ∧ L.length ≤ 32 + i)
    ⟨⟨_, rfl⟩, kD, ts1, ys1, upd_same, P1.kp kD, n1, fun x => by simp, by omega⟩ (fun i σ H' _ ⟨_, k, _⟩ => SqT.of (k.tup _ _ eb)) (fun i x σ H' hi ⟨⟨o3, hσ⟩, k3, ts, L, eD, PL, nL, mL, lL⟩ => ?_) (fun σ H' ⟨⟨o3, hσ⟩, k3, ts, L, eD, PL, nL, mL, lL⟩ => ?_)
  · subst hσ
    rw [List.getElem?_map] at hi
    obtain ⟨t, ht, rfl⟩ := Option.map_eq_some_iff.mp hi
    have li : i < ys2.length := by
      have := (List.getElem?_eq_some_iff.mp ht).1
      have := P2.1
      rw [List.length_map] at this; omega
    obtain ⟨k, hk⟩ : ∃ k, ys2[i]? = some k := ⟨_, List.getElem?_eq_getElem li⟩
    have et : H' t = some (.tup [.str k, .str (mkS k z)]) := k3.tup _ _ (P2.2 i t (rowP z k) ht (by rw [List.getElem?_map, hk]; rfl))
    have mk := List.mem_of_getElem? hk
    have tk : ys2.take (i + 1) = ys2.take i ++ [k] := by rw [List.take_add_one, hk]; rfl
    have kL : ∀ j ∈ L, kyS j = true := fun j mj => ((mL j).mp mj).elim (hk1 j) fun h => hk2 j (List.mem_of_mem_take h)
    walk_at "wp"
    refine ⟨.tuple [.str k, .str (mkS k z)], (L.map (rowP z)).map (fun p => .tuple [.str p.1, .str p.2]), .tup (SqT.of et) (.cons (.str _) (.cons (.str _) .nil)), .lst (SqL.of eD) (prs_dp PL), pr_shaped (strOk_ky (hk2 k mk)) (strOk_mk k z), prs_shaped _ (okR kL), _, rfl, ?_⟩
    rw [prs_any]
    have lts := PL.1
    rw [List.length_map] at lts
    refine ite_dec (fun c => ?_) (fun c => ?_)
    · have nk : k ∉ L := fun h => by
        rw [decide_eq_true (rowP_mem.mpr h)] at c; cases c
      have kl : Kp [D] H' (upd H' D (.lst (ts.map V.ref ++ [V.ref t]))) := Kp.lst eD (List.mem_singleton.mpr rfl)
      refine ⟨.inl ⟨rfl, _, SqL.of eD⟩, _, eD, by rw [List.length_map]; omega, ⟨_, rfl⟩, k3.upd hD eD, ts ++ [t], by rw [List.map_append]; rfl, L ++ [k], ?_, (List.perm_append_singleton k L).nodup_iff.mpr (List.nodup_cons.mpr ⟨nk, nL⟩), fun x => ?_, by rw [List.length_append, List.length_singleton]; omega⟩
      · rw [List.map_append]
        exact (PL.kp kl).snoc (q := rowP z k) (kl.tup _ _ et)
      · rw [tk, List.mem_append, List.mem_append, mL, or_assoc]
    · have hkL : k ∈ L := by
        cases h : decide ((k, mkS k z) ∈ L.map (rowP z)) with
        | true => exact rowP_mem.mp (of_decide_eq_true h)
        | false => rw [h] at c; exact absurd rfl c
      refine ⟨⟨_, rfl⟩, k3, ts, eD, L, PL, nL, fun x => ?_, by omega⟩
      rw [tk, List.mem_append, ← or_assoc, ← mL]
      exact ⟨.inl, fun h => h.elim id fun h => by rw [List.mem_singleton.mp h]; exact hkL⟩
  · subst hσ
    have l22 := P2.1
    rw [List.length_map] at l22
    rw [List.length_map, List.take_of_length_le (by omega)] at mL
    walk_at "wp"
    refine ⟨D, ts.map V.ref, kfH H', rfl, SqL.of eD, fun x mx => ?_, fun ys p srt perm hp => ?_⟩
    · obtain ⟨t, k, rfl, _, e⟩ := prs_mem PL x mx
      exact ⟨t, rfl, by rw [kf_at e]; exact e⟩
    have kp := Kp.new (S := []) hp (.lst ys)
    have rows : ∀ v ∈ ys, ∃ t k, v = V.ref t ∧ H' t = some (.tup [.str k, .str (mkS k z)]) := fun v m => by
      obtain ⟨t, k, e1, _, e2⟩ := prs_mem PL v (perm.mem_iff.mp m)
      exact ⟨t, k, e1, e2⟩
    have pL : (ys.map fun v => (kfH H' v).1).Perm L := by
      have := perm.map (fun v => (kfH H' v).1)
      rw [kf_map PL] at this
      exact this
    refine ⟨p, rfl, _, .inl ⟨SqL.of upd_same, fun l hl => ?_⟩⟩
    have kl := Kp.new (S := []) hl (.tup ys)
    exact q (.ref l) (ys.map fun v => (kfH H' v).1) _ (asc_srt srt (pL.nodup_iff.mpr nL)) (fun x => pL.mem_iff.trans (mL x)) (.tup upd_same ((rep_srt rows).kp0 (kp.trans kl))) ((k3.trans kp).trans kl)
theorem ok_law (F : Fun K "law" "law" s_law f fd) (B : Blt mg) (c_law_cell : Cal P w K mg base CX0 1 "_law_cell" (spCell K)) (c_law_stream : Cal P w K mg base CX0 1 "_law_stream" spStream) (c_law_take : Cal P w K mg base CX0 1 "_law_take" spTake) (c_law_string : Cal P w K mg base CX0 2 "_law_string" spString)
    (c_law_once : Cal P w K mg base CX0 1 "_law_once" (spOnce K)) (c_law_text : Cal P w K mg base CX0 9 "_law_text" (spLText 8)) (c_law_counts : Cal P w K mg base CX0 1 "_law_counts" spCounts) (c_law_keys : Cal P w K mg base CX0 2 "_law_keys" spKeys19) (c_law_merged : Cal P w K mg base CX0 2 "_law_merged" spMerged)
    (c_seal : Cal P w K mg base (L2.CX P w) 24 "seal" (spSeal2 C CK CT K Ts)) (c_opened : Cal P w K mg base (L2.CX P w) 24 "opened" (spOpen CT Ts)) (c_support : Cal P w K mg base (L2.CX P w) 25 "support" (spSupp C CT Ts K)) (k_Seals : CalK P w K mg base CX0 1 C "Seals" (spInit C)) :
    FnOk P w K mg base CX0 27 f fd ["script"] (spLaw K Ts) := by
  refine F.ok sc_law (fun vs H Q E h => ?_) (fun cdv A outer s H vs Q E hr h => ?_)
  · obtain ⟨a, ns, rfl, _⟩ := h; rfl
  obtain ⟨a, ns, rfl, hS, hT, q⟩ := h
  refine ⟨_, (pss_cons (ps_set (i := 1) sc_law.nd rfl (Or.inl rfl) (c_law_stream.pe hr (pa_cons (c_law_cell.pe hr (pa_cons (pv 0) (pa_cons pe_int pa_nil))) pa_nil)))
    (pss_cons (ps_set (i := 2) sc_law.nd rfl (Or.inl rfl) (k_Seals.pe0 hr))
    (pss_cons (ps_set (i := 3) sc_law.nd rfl (Or.inl rfl) (c_law_string.pe hr (pa_cons (pv 1) (pa_cons pe_int pa_nil))))
    (pss_cons (ps_set (i := 4) sc_law.nd rfl (Or.inl rfl) (pe_ix ix_lM (pe_lst (pa_cons pe_int (pa_cons pe_int (pa_cons pe_int pa_nil)))) (c_law_take.pe hr (pa_cons (pv 1) (pa_cons pe_int pa_nil))) (fun _ _ => rfl)))
    (pss_cons (ps_set (i := 5) sc_law.nd rfl (Or.inl rfl) (pe_op op_add pe_int (c_law_take.pe hr (pa_cons (pv 1) (pa_cons pe_int pa_nil)))))
    (pss_cons (ps_set (i := 6) sc_law.nd rfl (Or.inl rfl) (c_law_keys.pe hr (pa_cons (pv 1) (pa_cons (pv 4) (pa_cons (pv 5) (pa_cons pe_int pa_nil))))))
    (pss_cons (ps_set (i := 7) sc_law.nd rfl (Or.inl rfl) (c_law_keys.pe hr (pa_cons (pv 1) (pa_cons (pv 4) (pa_cons (pv 5) (pa_cons pe_int pa_nil))))))
    (pss_cons (ps_set (i := 8) sc_law.nd rfl (Or.inl rfl) (c_seal.peL hr (pa_cons (pv 2) (pa_cons (pv 3) (pa_cons (B.list_q (pa_cons (pv 6) pa_nil)) pa_nil)))))
    (pss_cons (ps_set (i := 9) sc_law.nd rfl (Or.inl rfl) (c_seal.peL hr (pa_cons (pv 2) (pa_cons (pv 3) (pa_cons (B.list_q (pa_cons (pv 7) pa_nil)) pa_nil)))))
    (C8.pss_cut (ps_set (i := 10) sc_law.nd rfl (Or.inl rfl) (c_law_text.pe hr (pa_cons (pe_tup (pa_cons (pv 3) (pa_cons (c_law_merged.pe hr (pa_cons (pe_ix ix_seq (c_opened.peL hr (pa_cons (pv 8) pa_nil)) pe_int (fun _ _ => rfl)) (pa_cons (pe_ix ix_seq (c_opened.peL hr (pa_cons (pv 9) pa_nil)) pe_int (fun _ _ => rfl)) pa_nil))) pa_nil))) pa_nil)))
    (pss_cons (ps_set (i := 11) sc_law.nd rfl (Or.inr rfl) (c_law_keys.pe hr (pa_cons (pv 1) (pa_cons (pv 4) (pa_cons (pv 5) (pa_cons pe_int pa_nil))))))
    (pss_cons (ps_set (i := 12) sc_law.nd rfl (Or.inl rfl) (pe_lst pa_nil))
    (pss_cons (ps_set (i := 13) sc_law.nd rfl (Or.inl rfl) (pe_lst pa_nil))
    (C8.pss_cut (ps_for PassesOwn.never rfl (pi_list (c_law_once.pe hr (pa_cons (pv 11) pa_nil))) (pg_name (i := 14) sc_law.nd rfl (Or.inl rfl)) (pss_one (ps_if (pt_cmpR op_eq (c_law_take.pe hr (pa_cons (pv 1) (pa_cons pe_int pa_nil))) pe_int (nomark _)) (pss_one (ps_expr (pe_bm PySem.F.plainAttrs_list PySem.F.slot_list_append PySem.F.type_list_append mt_append (pv 12) (pa_cons (pv 14) pa_nil)))) (pss_one (ps_expr (pe_bm PySem.F.plainAttrs_list PySem.F.slot_list_append PySem.F.type_list_append mt_append (pv 13) (pa_cons (pv 14) pa_nil)))))))
    (C8.pss_cut (ps_set (i := 15) sc_law.nd rfl (Or.inl rfl) (B.len_q (pa_cons (pe_lc (own := [("key", 14)]) (g := gName 14) (tt := _) rfl sc_law.nd (pi_list (c_law_once.pe hr (pa_cons (pe_op op_cat (pv 6) (pv 7)) pa_nil))) (blkOk_by (own := [("key", 14)]) (N := N_law) (sc := defScope s_law) (by decide +kernel)) (fun _ _ _ _ _ => pg_name (i := 14) sc_law.nd rfl (Or.inl rfl)) (fun _ _ _ _ _ => pts_one (pt_cmpR (show OpR _ _ (rIn K false) from op_in_seq) (pv 14) (pv 11) (by rfl))) (fun _ _ _ _ _ => (pv 14))) pa_nil)))
    (pss_cons (ps_if (pt_not (pt_val (c_law_counts.pe hr (pa_cons (c_support.peL hr (pa_cons (pv 2) (pa_cons (pv 10) (pa_cons (pv 11) pa_nil)))) (pa_cons (pv 15) pa_nil))))) (pss_one (ps_ret pe_bl)) pss_nil)
    (pss_cons (ps_if (pt_cmpR op_ne (pe_op op_add (c_support.peL hr (pa_cons (pv 2) (pa_cons (pv 10) (pa_cons (pv 12) pa_nil)))) (c_support.peL hr (pa_cons (pv 2) (pa_cons (pv 10) (pa_cons (B.tuple_l (pa_cons (pv 13) pa_nil)) pa_nil))))) (pv 15) (nomark _)) (pss_one (ps_ret pe_bl)) pss_nil)
    (pss_cons (ps_if (PW.pt (pw_or (pt_cmpR op_gt (c_support.peL hr (pa_cons (pv 2) (pa_cons (pv 8) (pa_cons (pv 11) pa_nil)))) (pv 15) (nomark _)) (pw_or1 (pt_cmpR op_gt (c_support.peL hr (pa_cons (pv 2) (pa_cons (pv 9) (pa_cons (pv 11) pa_nil)))) (pv 15) (nomark _))))) (pss_one (ps_ret pe_bl)) pss_nil)
    (pss_cons (ps_if (pt_not (pt_val (c_law_counts.pe hr (pa_cons (c_support.peL hr (pa_cons (pv 2) (pa_cons (pv 8) (pa_cons (pv 6) pa_nil)))) (pa_cons (B.len_q (pa_cons (c_law_once.pe hr (pa_cons (pv 6) pa_nil)) pa_nil)) pa_nil))))) (pss_one (ps_ret pe_bl)) pss_nil)
    (pss_one (ps_ret (c_law_counts.pe hr (pa_cons (c_support.peL hr (pa_cons (pv 2) (pa_cons (pv 9) (pa_cons (B.tuple_l (pa_cons (pv 7) pa_nil)) pa_nil)))) (pa_cons (B.len_q (pa_cons (c_law_once.pe hr (pa_cons (pv 7) pa_nil)) pa_nil)) pa_nil)))))))))))))))))))))))), ?_⟩
  walk_at "wp"
  have lim : sizeLine = 16777216 := sizeLine_eq
  refine ⟨a, ns, 0, rfl, hS, _, rfl, fun st hst a0 b0 => ?_⟩
  have L1 : LT Ts st H (upd H st (.lst [.int a0, .int b0])) := LT.first hT hst
  generalize upd H st (.lst [.int a0, .int b0]) = H1 at L1 ⊢
  intro o dx n1 n2 n3
  refine ⟨o, dx, rfl, upd_same, fun dm H2 hd nm O1 k1 => ?_⟩
  have K1 := mk_kp n1 n2 n3 k1
  have Z2 : SO Ts C H st o dm [] H2 := ⟨L1.kp0 K1, O1, L1.free (mk_none hd)⟩
  clear K1 k1 hd nm n1 n2 n3 O1 L1
  refine ⟨rfl, st, 40, rfl, Z2.L.s, by decide, by omega, fun z H5 lz mz k5 s5 => ⟨by omega, fun p2 h2 => ?_⟩⟩
  have lz : z.length ≤ 40 := lz
  have pz : prn z = true := by
    unfold prn
    rw [List.all_eq_true]
    exact fun c hc => (by decide +kernel : ∀ c ∈ abc, prc c = true) c (mz c hc)
  have Z5 := Z2.take k5 s5
  have np2 := Z5.L.nst h2
  have Z6 := Z5.kp0 (Kp.new h2 (.lst [V.int 1, V.int 7, V.int 3000000001]))
  refine ⟨st, 3, rfl, Z6.L.s, ⟨by decide, by decide⟩, fun v2 H8 v20 v21 k8 s8 => ⟨_, k8.keep p2 _ (by simpa using np2) upd_same, v2, rfl, ?_⟩⟩
  have Z8 := Z6.take k8 s8
  obtain ⟨step, es, hs⟩ : ∃ step : Int, atI [V.int 1, V.int 7, V.int 3000000001] v2 = some (.int step) ∧ StepOk step := by
    have : v2 = 0 ∨ v2 = 1 ∨ v2 = 2 := by omega
    rcases this with rfl | rfl | rfl
    · exact ⟨_, rfl, step_ok (.inl rfl)⟩
    · exact ⟨_, rfl, step_ok (.inr (.inl rfl))⟩
    · exact ⟨_, rfl, step_ok (.inr (.inr rfl))⟩
  refine ⟨_, es, st, 32, rfl, s8, ⟨by decide, by decide⟩, fun m0 H9 m00 m01 k9 s9 => ⟨m0, rfl, ?_⟩⟩
  have Z9 := Z8.take k9 s9
  clear Z8 Z6 Z5 Z2 es k8 k5 k9
  refine ⟨st, step, 1 + m0, 16, rfl, s9, hs, by omega, by omega, by decide, by decide, fun p1 o1 HA e1 lo1 ho1 kA sA f1 => ⟨st, step, 1 + m0, 16, rfl, sA, hs, by omega, by omega, by decide, by decide, fun p2 o2 HB e2 lo2 ho2 kB sB f2 => ?_⟩⟩
  have np1 := Z9.L.nst f1
  have ZA := Z9.take kA sA
  have np2 := ZA.L.nst f2
  have ZB := ZA.take kB sB
  have e1 := kB.keep p1 _ (by simpa using np1) e1
  have one : ∀ {l : Addr} {ls : List Str} {H1 : Hp} {mo : List (Str × Str)} {R : VK}, SO Ts C H st o dm mo H1 → mo.length ≤ 40 → H1 l = some (.lst (ls.map V.str)) → (ls.length : Int) ≤ 16 → (∀ k ∈ ls, KeyOf step k) → (∀ (ys : List Str) (H2 : Hp), asc ys = true → (∀ x, x ∈ ys ↔ x ∈ ls) → ys.length ≤ 16 → Kp (dm :: Ts) H1 H2 → SO Ts C H st o dm (madeA mo z ys) H2 → R (.str ⟨(txt (sealT z ys)).toArray⟩) H2) → spSeal2 C CK CT K Ts [.ref o, .str z, .ref l] H1 R E0 := fun {l ls H1 mo R} Z lm e1 ll lk hR => by
    refine seal_at Z.O (by omega) e1 (by omega) (fun k m => (lk k m).ky hs) pz (by omega) Z.L.g fun ys ha hm => ?_
    have ly : ys.length ≤ 16 := by
      have := nodup_le (asc_nodup ha) fun x mx => (hm x).mp mx
      omega
    have TO := sealT_ok pz (by omega) (show ys.length ≤ 32 by omega) fun y my => (lk y ((hm y).mp my)).ky hs
    exact ⟨by omega, fun big => absurd TO.2.2 (by omega), fun _ H2 k2 g2 O2 => hR ys H2 ha hm ly k2 (Z.made k2 g2 O2)⟩
  have opd : ∀ {ys : List Str} {H1 : Hp} {mo : List (Str × Str)} {R : VK}, SO Ts C H st o dm mo H1 → asc ys = true → ys.length ≤ 32 → (∀ k ∈ ys, KeyOf step k) → (∀ (p b : Addr) (H2 : Hp), H2 p = some (.tup [.str z, .ref b]) → Rep H2 (.ref b) (.tup (ys.map (rowT z))) → Kp Ts H1 H2 → SO Ts C H st o dm mo H2 → R (.ref p) H2) → spOpen CT Ts [.str ⟨(txt (sealT z ys)).toArray⟩] H1 R E0 := fun {ys H1 mo R} Z ha l32 hk hR => by
    have yky : ∀ k ∈ ys, kyS k = true := fun k m => (hk k m).ky hs
    have TO := sealT_ok pz (by omega) l32 yky
    have TC := sealT_co (z := z) l32 yky ha
    refine ⟨_, rfl, ⟨_, rfl⟩, fun y e => ?_, Z.L.g, fun y t e oy u HI kI gI RI => ?_, fun no => absurd (opn_txtT TO (by decide) TC) (no _ _ rfl)⟩
    · cases V.str.inj e
      have := TO.2.2
      rw [S_len]; omega
    cases V.str.inj e
    cases opn_one TO oy
    cases RI with
    | @tup p xs _ e r =>
      cases r with
      | cons r1 r =>
      cases r with
      | cons r2 r =>
      cases r
      cases r1
      have r2' := r2
      cases r2 with
      | @tup b ws _ eb rb => exact hR p b HI e r2' kI (Z.tabs kI gI)
  have sup : ∀ {ys keys : List Str} {kk : Addr} {H1 : Hp} {mo : List (Str × Str)} {R : VK}, SO Ts C H st o dm mo H1 → asc ys = true → ys.length ≤ 32 → (∀ k ∈ ys, KeyOf step k) → (∀ k ∈ ys, (k, z) ∈ mo) → (SqL K H1 kk (keys.map V.str) ∨ SqT K H1 kk (keys.map V.str)) → (∀ H2, Kp Ts H1 H2 → SO Ts C H st o dm mo H2 → R (.int (ys.countP fun k => decide (k ∈ keys))) H2) → spSupp C CT Ts K [.ref o, .str ⟨(txt (sealT z ys)).toArray⟩, .ref kk] H1 R E0 := fun {ys keys kk H1 mo R} Z ha l32 hk hm hkk hR => by
    have yky : ∀ k ∈ ys, kyS k = true := fun k m => (hk k m).ky hs
    have TO := sealT_ok pz (by omega) l32 yky
    have TC := sealT_co (z := z) l32 yky ha
    refine ⟨o, dm, kk, mo, _, keys, rfl, Z.O, ⟨_, rfl⟩, fun y e => ?_, Z.L.g, hkk, fun x z' ss e o1 H2 k2 g2 => ?_, fun no => absurd (opn_txtT TO (by decide) TC) (no _ _ rfl)⟩
    · cases V.str.inj e
      have := TO.2.2
      rw [S_len]; omega
    · cases V.str.inj e
      cases opn_one TO o1
      rw [suN_rows hm]
      exact hR H2 k2 (Z.tabs k2 g2)
  have skip : ∀ {b : Addr} {xs : List V} {mo : List (Str × Str)} {H1 H2 : Hp}, SO Ts C H st o dm mo H1 → Kp Ts H1 H2 → H1 b = some (.lst xs) → H2 b = some (.lst xs) := fun Z k e => Z.keep (k.mono fun b hb => List.mem_cons_of_mem _ hb) e
  walk_at "wp"
  refine ⟨_, .inl (SqL.of e1), fun l1 hl1 => ?_⟩
  have kn1 := Kp.new (S := []) hl1 (.lst (o1.map V.str))
  have ZC := ZB.kp0 kn1
  have g1 := kn1.keep _ _ List.not_mem_nil e1
  have g2 := kn1.keep _ _ List.not_mem_nil e2
  refine one ZC (by decide) upd_same lo1 ho1 fun ys1 HD a1 m1 y1 kD ZD => ?_
  have g1 := ZC.keep kD g1
  have g2 := ZC.keep kD g2
  refine ⟨_, .inl (SqL.of g2), fun l2 hl2 => ?_⟩
  have kn2 := Kp.new (S := []) hl2 (.lst (o2.map V.str))
  have ZE := ZD.kp0 kn2
  have g1 := kn2.keep _ _ List.not_mem_nil g1
  have g2 := kn2.keep _ _ List.not_mem_nil g2
  have lm1 := madeA_len [] z ys1
  refine one ZE (by simp at lm1; omega) upd_same lo2 ho2 fun ys2 HF a2 m2 y2 kF ZF => ?_
  have g1 := ZE.keep kF g1
  have g2 := ZE.keep kF g2
  have mm : ∀ k, (k, z) ∈ madeA (madeA [] z ys1) z ys2 ↔ k ∈ ys1 ∨ k ∈ ys2 := fun k => by
    rw [madeA_mem, madeA_mem]
    simp
  generalize madeA (madeA [] z ys1) z ys2 = mo at mm ZF
  clear ZE ZD ZC ZB ZA Z9 kn1 kn2 kD kF hl1 hl2 lm1 kA kB f1 f2 e1 e2
  have k1 : ∀ k ∈ ys1, KeyOf step k := fun k m => ho1 k ((m1 k).mp m)
  have k2 : ∀ k ∈ ys2, KeyOf step k := fun k m => ho2 k ((m2 k).mp m)
  refine ⟨fun σ' H' => ∃ ym : List Str, σ' = [some (.ref a), some (.ref st), some (.ref o), some (.str z), some (.int step), some (.int (1 + m0)), some (.ref p1), some (.ref p2), some (.str ⟨(txt (sealT z ys1)).toArray⟩), some (.str ⟨(txt (sealT z ys2)).toArray⟩), some (.str ⟨(txt (sealT z ym)).toArray⟩), none, none, none, none, none] ∧ asc ym = true ∧ (∀ x, x ∈ ym ↔ x ∈ ys1 ∨ x ∈ ys2) ∧ H' p1 = some (.lst (o1.map V.str)) ∧ H' p2 = some (.lst (o2.map V.str)) ∧ SO Ts C H st o dm mo H', ?_, ?_⟩
  · walk_at "wp"
    refine opd ZF a1 (by omega) k1 fun q1 b1 HG f1 r1 kG ZG => .inr (.inl ⟨q1, _, 1, .ref b1, rfl, rfl, SqT.of f1, rfl, ?_⟩)
    have g1 := skip ZF kG g1
    have g2 := skip ZF kG g2
    refine opd ZG a2 (by omega) k2 fun q2 b2 HI f2 r2 kI ZI => .inr (.inl ⟨q2, _, 1, .ref b2, rfl, rfl, SqT.of f2, rfl, ?_⟩)
    have g1 := skip ZG kI g1
    have g2 := skip ZG kI g2
    have r1 := r1.any kI (rowsT_pure z ys1)
    refine ⟨b1, b2, z, ys1, ys2, rfl, r1, r2, asc_nodup a1, by omega, by omega, fun k m => (k1 k m).ky hs, fun k m => (k2 k m).ky hs, fun u ym HJ am mym rJ kJ => ⟨by omega, fun p hp => ?_⟩⟩
    have kym : ∀ k ∈ ym, KeyOf step k := fun k m => ((mym k).mp m).elim (k1 k) (k2 k)
    have l32 := keys_32 am kym
    have TO := sealT_ok pz (by omega) l32 fun k m => (kym k m).ky hs
    have lTO := TO.2.2
    have kp := Kp.new (S := []) hp (.tup [V.str z, u])
    refine ⟨.ref p, sealT z ym, rfl, .tup upd_same (.cons (.str _) (.cons (rJ.kp0 kp) .nil)), TO.1, TO.2.1, by omega, fun HK kK => ?_⟩
    have KK := (kJ.trans kp).trans kK
    exact ⟨ym, rfl, am, mym, KK.keep _ _ List.not_mem_nil g1, KK.keep _ _ List.not_mem_nil g2, ZI.kp0 KK⟩
  rintro σ' HG ⟨ym, rfl, am, mym, g1, g2, ZG⟩
  clear ZF
  have kym : ∀ k ∈ ym, KeyOf step k := fun k m => ((mym k).mp m).elim (k1 k) (k2 k)
  have l32 := keys_32 am kym
  walk_at "wp"
  refine ⟨st, step, 1 + m0, 40, rfl, ZG.L.s, hs, by omega, by omega, by decide, by decide, fun pa as HH ea loa hoa kH sH fa => ⟨by omega, fun pl hpl => ⟨by omega, fun pr hpr => ?_⟩⟩⟩
  have ZH := ZG.take kH sH
  have npa := ZG.L.nst fa
  have npl := ZH.L.nst hpl
  have fpl := ZH.L.free hpl
  have kl := Kp.new (S := []) hpl (.lst [])
  have ZI := ZH.kp0 kl
  have npr := ZI.L.nst hpr
  have fpr := ZI.L.free hpr
  have nlr : pl ≠ pr := ne_of_none (upd_same) hpr
  have kr := Kp.new (S := []) hpr (.lst [])
  have ZJ := ZI.kp0 kr
  have nl1 : p1 ≠ pl := ne_of_none (kH.keep _ _ (by simpa using np1) g1) hpl
  have nl2 : p2 ≠ pl := ne_of_none (kH.keep _ _ (by simpa using np2) g2) hpl
  have nla : pa ≠ pl := ne_of_none ea hpl
  have nr1 : p1 ≠ pr := ne_of_none (kl.keep _ _ List.not_mem_nil (kH.keep _ _ (by simpa using np1) g1)) hpr
  have nr2 : p2 ≠ pr := ne_of_none (kl.keep _ _ List.not_mem_nil (kH.keep _ _ (by simpa using np2) g2)) hpr
  have nra : pa ≠ pr := ne_of_none (kl.keep _ _ List.not_mem_nil ea) hpr
  have g1 := (kl.trans kr).keep _ _ List.not_mem_nil (kH.keep _ _ (by simpa using np1) g1)
  have g2 := (kl.trans kr).keep _ _ List.not_mem_nil (kH.keep _ _ (by simpa using np2) g2)
  have ea := (kl.trans kr).keep _ _ List.not_mem_nil ea
  have el : upd (upd HH pl (.lst [])) pr (.lst []) pl = some (.lst (([] : List Str).map V.str)) := kr.keep _ _ List.not_mem_nil upd_same
  have er : upd (upd HH pl (.lst [])) pr (.lst []) pr = some (.lst (([] : List Str).map V.str)) := upd_same
  generalize upd (upd HH pl (.lst [])) pr (.lst []) = HJ at ZJ g1 g2 ea el er ⊢
  clear ZI ZH ZG kl kr kH hpl hpr fa sH
  refine ⟨fun σ' H' => ∃ (L R : List Str) (o14 : Option V), σ' = [some (.ref a), some (.ref st), some (.ref o), some (.str z), some (.int step), some (.int (1 + m0)), some (.ref p1), some (.ref p2), some (.str ⟨(txt (sealT z ys1)).toArray⟩), some (.str ⟨(txt (sealT z ys2)).toArray⟩), some (.str ⟨(txt (sealT z ym)).toArray⟩), some (.ref pa), some (.ref pl), some (.ref pr), o14, none] ∧ (∀ x, (x ∈ L ∨ x ∈ R) ↔ x ∈ as) ∧ (∀ x ∈ L, x ∉ R) ∧ H' pl = some (.lst (L.map V.str)) ∧ H' pr = some (.lst (R.map V.str)) ∧ H' pa = some (.lst (as.map V.str)) ∧ H' p1 = some (.lst (o1.map V.str)) ∧ H' p2 = some (.lst (o2.map V.str)) ∧ SO Ts C H st o dm mo H', ?_, ?_⟩
  · refine for_via (fun x H' => ∃ (pn : Addr) (nm : List Str), x = .ref pn ∧ asc nm = true ∧ (∀ x, x ∈ nm ↔ x ∈ as) ∧ nm.length ≤ 40 ∧ H' pn = some (.lst (nm.map V.str)) ∧ pn ≠ st ∧ pn ≠ pl ∧ pn ≠ pr ∧ Kp [] HJ H') (fun R hR => ?_) (fun x HK ⟨pn, nm, hx, an, mn, ln, en, n1, n2, n3, kn⟩ => ?_)
    · exact ⟨_, rfl, pa, as, rfl, SqL.of ea, by omega, fun k m => strOk_ky ((hoa k m).ky hs), fun nm pn HK an mn ln hpn en kn => hR _ _ ⟨pn, nm, rfl, an, mn, by omega, en, ZJ.L.nst hpn, (ne_of_none el hpn).symm, (ne_of_none er hpn).symm, kn⟩⟩
    · subst hx
      refine ⟨pn, rfl, ⟨_, SqL.of en⟩, ?_⟩
      have ZK := ZJ.kp0 kn
      refine for_list (K := K) (a := pn) (xs := nm.map V.str) (fun i σ H' => ∃ (L R : List Str) (o14 : Option V), σ = [some (.ref a), some (.ref st), some (.ref o), some (.str z), some (.int step), some (.int (1 + m0)), some (.ref p1), some (.ref p2), some (.str ⟨(txt (sealT z ys1)).toArray⟩), some (.str ⟨(txt (sealT z ys2)).toArray⟩), some (.str ⟨(txt (sealT z ym)).toArray⟩), some (.ref pa), some (.ref pl), some (.ref pr), o14, none] ∧ (∀ x, (x ∈ L ∨ x ∈ R) ↔ x ∈ nm.take i) ∧ (∀ x ∈ L, x ∉ R) ∧ L.length ≤ i ∧ R.length ≤ i ∧ H' pn = some (.lst (nm.map V.str)) ∧ H' pl = some (.lst (L.map V.str)) ∧ H' pr = some (.lst (R.map V.str)) ∧ H' pa = some (.lst (as.map V.str)) ∧ H' p1 = some (.lst (o1.map V.str)) ∧ H' p2 = some (.lst (o2.map V.str)) ∧ SO Ts C H st o dm mo H')
        ⟨[], [], _, rfl, fun x => by simp, fun x m => absurd m List.not_mem_nil, Nat.le_refl _, Nat.le_refl _, en, kn.keep _ _ List.not_mem_nil el, kn.keep _ _ List.not_mem_nil er, kn.keep _ _ List.not_mem_nil ea, kn.keep _ _ List.not_mem_nil g1, kn.keep _ _ List.not_mem_nil g2, ZK⟩ (fun i σ H' _ ⟨_, _, _, _, _, _, _, _, e, _⟩ => SqL.of e) (fun i x σ H' hi ⟨L, R, o14, hσ, mLR, dj, lL, lR, en, el, er, ea, g1, g2, Z⟩ => ?_) (fun σ H' ⟨L, R, o14, hσ, mLR, dj, lL, lR, en, el, er, ea, g1, g2, Z⟩ => ?_)
      · subst hσ
        rw [List.getElem?_map] at hi
        obtain ⟨k, hk, rfl⟩ := Option.map_eq_some_iff.mp hi
        have tk : nm.take (i + 1) = nm.take i ++ [k] := by rw [List.take_add_one, hk]; rfl
        have li := (List.getElem?_eq_some_iff.mp hk).1
        have nk : k ∉ nm.take i := by
          have := (asc_nodup an).sublist (List.take_sublist (i + 1) nm)
          rw [tk, (List.perm_append_singleton k _).nodup_iff, List.nodup_cons] at this
          exact this.1
        have nkL : k ∉ L := fun h => nk ((mLR k).mp (.inl h))
        have nkR : k ∉ R := fun h => nk ((mLR k).mp (.inr h))
        walk_at "wp"
        refine ⟨st, 2, rfl, Z.L.s, ⟨by decide, by decide⟩, fun v H3 v0 v1 k3 s3 => ⟨rfl, ?_⟩⟩
        have Z3 := Z.take k3 s3
        have en := k3.keep _ _ (by simpa using n1) en
        have el := k3.keep _ _ (by simpa using npl) el
        have er := k3.keep _ _ (by simpa using npr) er
        have ea := k3.keep _ _ (by simpa using npa) ea
        have g1 := k3.keep _ _ (by simpa using np1) g1
        have g2 := k3.keep _ _ (by simpa using np2) g2
        refine ite_dec (fun _ => ?_) (fun _ => ?_)
        · refine ⟨.inl ⟨rfl, _, SqL.of el⟩, _, el, by rw [List.length_map]; omega, L ++ [k], R, fun x => ?_, fun x m => ?_, by rw [List.length_append, List.length_singleton]; omega, by omega, by rw [upd_ne n2]; exact en, by rw [List.map_append]; rfl, by rw [upd_ne (Ne.symm nlr)]; exact er, by rw [upd_ne nla]; exact ea, by rw [upd_ne nl1]; exact g1, by rw [upd_ne nl2]; exact g2, Z3.lst el fpl npl⟩
          · rw [tk, List.mem_append, List.mem_append, ← mLR]
            exact or_right_comm
          · rcases List.mem_append.mp m with m | m
            · exact dj x m
            · rw [List.mem_singleton.mp m]; exact nkR
        · refine ⟨.inl ⟨rfl, _, SqL.of er⟩, _, er, by rw [List.length_map]; omega, L, R ++ [k], fun x => ?_, fun x m => ?_, by omega, by rw [List.length_append, List.length_singleton]; omega, by rw [upd_ne n3]; exact en, by rw [upd_ne nlr]; exact el, by rw [List.map_append]; rfl, by rw [upd_ne nra]; exact ea, by rw [upd_ne nr1]; exact g1, by rw [upd_ne nr2]; exact g2, Z3.lst er fpr npr⟩
          · rw [tk, List.mem_append, List.mem_append, ← mLR, or_assoc]
          · exact fun h => (List.mem_append.mp h).elim (dj x m) fun h => nkL (by rw [← List.mem_singleton.mp h]; exact m)
      · subst hσ
        rw [List.length_map, List.take_length] at mLR
        exact ⟨L, R, _, rfl, fun x => (mLR x).trans (mn x), dj, el, er, ea, g1, g2, Z⟩
  rintro σ' HK ⟨L, R, o14, rfl, mLR, dj, el, er, ea, g1, g2, Z⟩
  clear ZJ
  have mor : ∀ k, k ∈ ym ↔ k ∈ o1 ++ o2 := fun k => by rw [mym, List.mem_append, m1, m2]
  refine ⟨fun σ' H' => σ' = [some (.ref a), some (.ref st), some (.ref o), some (.str z), some (.int step), some (.int (1 + m0)), some (.ref p1), some (.ref p2), some (.str ⟨(txt (sealT z ys1)).toArray⟩), some (.str ⟨(txt (sealT z ys2)).toArray⟩), some (.str ⟨(txt (sealT z ym)).toArray⟩), some (.ref pa), some (.ref pl), some (.ref pr), o14, some (.int (ym.countP fun k => decide (k ∈ as)))] ∧ H' pl = some (.lst (L.map V.str)) ∧ H' pr = some (.lst (R.map V.str)) ∧ H' pa = some (.lst (as.map V.str)) ∧ H' p1 = some (.lst (o1.map V.str)) ∧ H' p2 = some (.lst (o2.map V.str)) ∧ SO Ts C H st o dm mo H', ?_, ?_⟩
  · walk_at "wp"
    refine ⟨_, rfl, _, rfl, p1, p2, _, _, rfl, rfl, g1, g2, by rw [List.length_map, List.length_map]; omega, fun pc hpc => ⟨pc, o1 ++ o2, rfl, SqL.of (by rw [List.map_append]; exact upd_same), by rw [List.length_append]; omega, fun k m => strOk_ky (((List.mem_append.mp m).elim (ho1 k) (ho2 k)).ky hs), fun nm pn HL an mn ln hpn en kn => ?_⟩⟩
    have enm : nm = ym := asc_eq an am fun x => (mn x).trans (mor x).symm
    subst enm
    have kc := Kp.new (S := []) hpc (.lst (o1.map V.str ++ o2.map V.str))
    have KL := kc.trans kn
    have ZL := Z.kp0 KL
    have el := KL.keep _ _ List.not_mem_nil el
    have er := KL.keep _ _ List.not_mem_nil er
    have ea := KL.keep _ _ List.not_mem_nil ea
    have g1 := KL.keep _ _ List.not_mem_nil g1
    have g2 := KL.keep _ _ List.not_mem_nil g2
    refine ⟨pn, rfl, ⟨_, SqL.of en⟩, fun D hD => ?_⟩
    refine lc_list (K := K) (a := pn) (xs := nm.map V.str) (fun i H' => H' D = some (.lst (((nm.take i).filter fun k => decide (k ∈ as)).map V.str)) ∧ Kp [] HL H') ⟨upd_same, Kp.new hD _⟩ (fun i H' _ ⟨_, k⟩ => SqL.of (k.keep pn _ List.not_mem_nil en)) (fun i x H2 hx ⟨hy, k2⟩ => ?_) (fun H2 ⟨hy, k2⟩ => ?_)
    · rw [List.getElem?_map] at hx
      obtain ⟨k, hk, rfl⟩ := Option.map_eq_some_iff.mp hx
      have tk : nm.take (i + 1) = nm.take i ++ [k] := by rw [List.take_add_one, hk]; rfl
      have ly := List.length_filter_le (fun k => decide (k ∈ as)) (nm.take i)
      rw [List.length_take] at ly
      refine ⟨rfl, ?_⟩
      walk_at "wp"
      refine ⟨_, rfl, _, rfl, pa, _, rfl, .inl (SqL.of (k2.keep pa _ List.not_mem_nil ea)), rfl, flat_strs _, _, rfl, ?_⟩
      rw [if_neg Bool.false_ne_true, inV_strs]
      refine ite_dec (fun c => ⟨_, rfl, _, hy, by rw [List.length_map]; omega, ?_, k2.upd hD hy⟩) (fun c => ⟨?_, k2⟩)
      · rw [tk, List.filter_append]
        simp [of_decide_eq_true c]
      · rw [tk, List.filter_append]
        have c2 : ¬ k ∈ as := fun h => c (decide_eq_true h)
        simpa [c2] using hy
    · rw [List.length_map, List.take_length] at hy
      exact ⟨D, rfl, _, .inl (SqL.of hy), by rw [List.length_map, List.countP_eq_length_filter], k2.keep _ _ List.not_mem_nil el, k2.keep _ _ List.not_mem_nil er, k2.keep _ _ List.not_mem_nil ea, k2.keep _ _ List.not_mem_nil g1, k2.keep _ _ List.not_mem_nil g2, ZL.kp0 k2⟩
  rintro σ' HM ⟨rfl, el, er, ea, g1, g2, ZM⟩
  clear Z
  walk_at "wp"
  have inm : ∀ k ∈ ym, (k, z) ∈ mo := fun k m => (mm k).mpr ((mym k).mp m)
  have in1 : ∀ k ∈ ys1, (k, z) ∈ mo := fun k m => (mm k).mpr (.inl m)
  have in2 : ∀ k ∈ ys2, (k, z) ∈ mo := fun k m => (mm k).mpr (.inr m)
  refine sup ZM am l32 kym inm (.inl (SqL.of ea)) fun HN kN ZN => ⟨_, _, rfl, _, rfl, ?_⟩
  rw [decide_eq_true rfl]
  refine if_no (by decide) ?_
  have el := skip ZM kN el
  have er := skip ZM kN er
  have ea := skip ZM kN ea
  have g1 := skip ZM kN g1
  have g2 := skip ZM kN g2
  refine sup ZN am l32 kym inm (.inl (SqL.of el)) fun HO_ kO ZO => ?_
  have er := skip ZN kO er
  have ea := skip ZN kO ea
  have g1 := skip ZN kO g1
  have g2 := skip ZN kO g2
  refine ⟨_, .inl ⟨SqL.of er, fun lt hlt => ?_⟩⟩
  have kt := Kp.new (S := []) hlt (.tup (R.map V.str))
  have ZT := ZO.kp0 kt
  have ea := kt.keep _ _ List.not_mem_nil ea
  have g1 := kt.keep _ _ List.not_mem_nil g1
  have g2 := kt.keep _ _ List.not_mem_nil g2
  refine sup ZT am l32 kym inm (keys := R) (.inr (SqT.of upd_same)) fun HP kP ZP => ⟨_, rfl, _, rfl, if_no (fun h => h ?_) ?_⟩
  · have := cnt_two ym mLR dj
    omega
  have ea := skip ZT kP ea
  have g1 := skip ZT kP g1
  have g2 := skip ZT kP g2
  refine sup ZP a1 (by omega) k1 in1 (.inl (SqL.of ea)) fun HQ kQ ZQ => ⟨_, rfl, if_no ?_ ?_⟩
  · have := cnt_sub (p := fun k => decide (k ∈ as)) (asc_nodup a1) fun k m => (mym k).mpr (.inl m)
    omega
  have ea := skip ZP kQ ea
  have g1 := skip ZP kQ g1
  have g2 := skip ZP kQ g2
  refine sup ZQ a2 (by omega) k2 in2 (.inl (SqL.of ea)) fun HR kR ZR => ⟨_, rfl, if_no ?_ ?_⟩
  · have := cnt_sub (p := fun k => decide (k ∈ as)) (asc_nodup a2) fun k m => (mym k).mpr (.inr m)
    omega
  have g1 := skip ZQ kR g1
  have g2 := skip ZQ kR g2
  refine sup ZR a1 (by omega) k1 in1 (.inl (SqL.of g1)) fun HS kS ZS => ⟨p1, o1, rfl, SqL.of (skip ZR kS g1), by omega, fun k m => strOk_ky ((ho1 k m).ky hs), fun nm pn HT an mn ln hpn en kn => ⟨pn, rfl, _, .inl (SqL.of en), _, _, rfl, _, rfl, ?_⟩⟩
  have enm : nm = ys1 := asc_eq an a1 fun x => (mn x).trans (m1 x).symm
  subst enm
  have g2 := kn.keep _ _ List.not_mem_nil (skip ZR kS g2)
  have ZT2 := ZS.kp0 kn
  rw [List.length_map, cnt_all fun x m => (m1 x).mp m, decide_eq_true rfl]
  refine if_no (by decide) ⟨_, .inl ⟨SqL.of g2, fun l hl => ?_⟩⟩
  have kl := Kp.new (S := []) hl (.tup (o2.map V.str))
  have ZU := ZT2.kp0 kl
  have g2 := kl.keep _ _ List.not_mem_nil g2
  refine sup ZU a2 (by omega) k2 in2 (.inr (SqT.of upd_same)) fun HV kV ZV => ⟨p2, o2, rfl, SqL.of (skip ZU kV g2), by omega, fun k m => strOk_ky ((ho2 k m).ky hs), fun nm2 pn2 HW an2 mn2 ln2 hpn2 en2 kn2 => ⟨pn2, rfl, _, .inl (SqL.of en2), _, _, rfl, ?_⟩⟩
  have enm2 : nm2 = ys2 := asc_eq an2 a2 fun x => (mn2 x).trans (m2 x).symm
  subst enm2
  rw [List.length_map, cnt_all fun x m => (m2 x).mp m, decide_eq_true rfl]
  exact q _
end

open PySem.Spec PyProof.Rows in
theorem all_mk {l : PySem.W.OpenLaw} {q : Program} {lo : List Str} {mean : ExcName → Option Value} {w : World} {K : PySem.W.Frag} {h : Heap} {mg mb : Str → Option Value} {fa : Addr} (T : Top q lo mean mg mb h) (X : K.In h) (G : h.Ns mainGlobals mg) (hfa : mg "law" = some (.ref fa))
    {C_Seals : Addr} (aC_Seals : PySem.W.nsIn K mainGlobals "Seals" = some (some (.ref C_Seals)))
    (pg_Seals : PySem.W.plainGet K C_Seals Str.empty = true)
    (hd_Seals : PySem.W.hasDictIn K C_Seals = true)
    (po_Seals : PySem.W.plainOver K C_Seals = true)
    (sa_Seals : PySem.W.findIn K (.ref C_Seals) "__setattr__" = some (some (.builtin "object.__setattr__")))
    (mk_Seals : PySem.W.makesIn K C_Seals = true)
    (kc_Seals : PySem.W.keepIn K (.ref C_Seals) = true)
    (na_marks_Seals : PySem.W.findIn K (.ref C_Seals) "_marks" = some none)
    {oc0 kV0 doc0 pm0 cd0 ct0 : Value} {od0 an0 : Option Addr} {sl0 : Array (Option Value)} {f0 : Addr}
    (a0 : PySem.W.nsIn K mainGlobals "digest" = some (some (.ref f0)))
    (l0 : K.lookup f0 = some ⟨oc0, od0, .func (PySem.W.fnOf "digest" "digest" (defArgs s_digest) (defBody s_digest) (defScope s_digest) .none kV0 doc0 pm0 an0 cd0 ct0), sl0⟩) (cc0 : PySem.W.codeIn K cd0 "digest" = true) (k0 : PySem.W.keepIn K (.ref f0) = true)
    {oc1 kV1 doc1 pm1 cd1 ct1 : Value} {od1 an1 : Option Addr} {sl1 : Array (Option Value)} {f1 : Addr}
    (a1 : PySem.W.nsIn K mainGlobals "is_key" = some (some (.ref f1)))
    (l1 : K.lookup f1 = some ⟨oc1, od1, .func (PySem.W.fnOf "is_key" "is_key" (defArgs s_is_key) (defBody s_is_key) (defScope s_is_key) .none kV1 doc1 pm1 an1 cd1 ct1), sl1⟩) (cc1 : PySem.W.codeIn K cd1 "is_key" = true) (k1 : PySem.W.keepIn K (.ref f1) = true)
    {oc2 kV2 doc2 pm2 cd2 ct2 : Value} {od2 an2 : Option Addr} {sl2 : Array (Option Value)} {f2 : Addr}
    (a2 : PySem.W.nsIn K mainGlobals "ascends" = some (some (.ref f2)))
    (l2 : K.lookup f2 = some ⟨oc2, od2, .func (PySem.W.fnOf "ascends" "ascends" (defArgs s_ascends) (defBody s_ascends) (defScope s_ascends) .none kV2 doc2 pm2 an2 cd2 ct2), sl2⟩) (cc2 : PySem.W.codeIn K cd2 "ascends" = true) (k2 : PySem.W.keepIn K (.ref f2) = true)
    {oc3 kV3 doc3 pm3 ct3 : Value} {od3 an3 : Option Addr} {sl3 : Array (Option Value)} {c3 Pt3 f3 : Addr}
    (a3 : PySem.W.nsIn K mainGlobals "_consists_of" = some (some (.ref f3)))
    (l3 : K.lookup f3 = some ⟨oc3, od3, .func (PySem.W.fnOf "_consists_of" "_consists_of" (defArgs s_consists_of) (defBody s_consists_of) (defScope s_consists_of) .none kV3 doc3 pm3 an3 (.ref c3) ct3), sl3⟩) (cc3 : PySem.W.codeIn K (.ref c3) "_consists_of" = true) (k3 : PySem.W.keepIn K (.ref f3) = true)
    {oc4 kV4 doc4 pm4 ct4 : Value} {od4 an4 : Option Addr} {sl4 : Array (Option Value)} {c4 Pt4 f4 : Addr}
    (a4 : PySem.W.nsIn K mainGlobals "is_printable" = some (some (.ref f4)))
    (l4 : K.lookup f4 = some ⟨oc4, od4, .func (PySem.W.fnOf "is_printable" "is_printable" (defArgs s_is_printable) (defBody s_is_printable) (defScope s_is_printable) .none kV4 doc4 pm4 an4 (.ref c4) ct4), sl4⟩) (cc4 : PySem.W.codeIn K (.ref c4) "is_printable" = true) (k4 : PySem.W.keepIn K (.ref f4) = true)
    {oc5 kV5 doc5 pm5 cd5 ct5 : Value} {od5 an5 : Option Addr} {sl5 : Array (Option Value)} {f5 : Addr}
    (a5 : PySem.W.nsIn K mainGlobals "is_integer" = some (some (.ref f5)))
    (l5 : K.lookup f5 = some ⟨oc5, od5, .func (PySem.W.fnOf "is_integer" "is_integer" (defArgs s_is_integer) (defBody s_is_integer) (defScope s_is_integer) .none kV5 doc5 pm5 an5 cd5 ct5), sl5⟩) (cc5 : PySem.W.codeIn K cd5 "is_integer" = true) (k5 : PySem.W.keepIn K (.ref f5) = true)
    {oc6 kV6 doc6 pm6 cd6 ct6 : Value} {od6 an6 : Option Addr} {sl6 : Array (Option Value)} {f6 : Addr}
    (a6 : PySem.W.nsIn K mainGlobals "encode" = some (some (.ref f6)))
    (l6 : K.lookup f6 = some ⟨oc6, od6, .func (PySem.W.fnOf "encode" "encode" (defArgs s_encode) (defBody s_encode) (defScope s_encode) .none kV6 doc6 pm6 an6 cd6 ct6), sl6⟩) (cc6 : PySem.W.codeIn K cd6 "encode" = true) (k6 : PySem.W.keepIn K (.ref f6) = true)
    {oc7 kV7 doc7 pm7 cd7 ct7 : Value} {od7 an7 : Option Addr} {sl7 : Array (Option Value)} {f7 : Addr}
    (a7 : PySem.W.nsIn K mainGlobals "decode" = some (some (.ref f7)))
    (l7 : K.lookup f7 = some ⟨oc7, od7, .func (PySem.W.fnOf "decode" "decode" (defArgs s_decode) (defBody s_decode) (defScope s_decode) .none kV7 doc7 pm7 an7 cd7 ct7), sl7⟩) (cc7 : PySem.W.codeIn K cd7 "decode" = true) (k7 : PySem.W.keepIn K (.ref f7) = true)
    {oc8 kV8 doc8 pm8 cd8 ct8 : Value} {od8 an8 : Option Addr} {sl8 : Array (Option Value)} {f8 : Addr}
    (a8 : PySem.W.nsIn K mainGlobals "_text_of" = some (some (.ref f8)))
    (l8 : K.lookup f8 = some ⟨oc8, od8, .func (PySem.W.fnOf "_text_of" "_text_of" (defArgs s_text_of) (defBody s_text_of) (defScope s_text_of) .none kV8 doc8 pm8 an8 cd8 ct8), sl8⟩) (cc8 : PySem.W.codeIn K cd8 "_text_of" = true) (k8 : PySem.W.keepIn K (.ref f8) = true)
    {oc9 kV9 doc9 pm9 cd9 ct9 : Value} {od9 an9 : Option Addr} {sl9 : Array (Option Value)} {f9 : Addr}
    (a9 : PySem.W.nsIn K mainGlobals "_tuple_text" = some (some (.ref f9)))
    (l9 : K.lookup f9 = some ⟨oc9, od9, .func (PySem.W.fnOf "_tuple_text" "_tuple_text" (defArgs s_tuple_text) (defBody s_tuple_text) (defScope s_tuple_text) .none kV9 doc9 pm9 an9 cd9 ct9), sl9⟩) (cc9 : PySem.W.codeIn K cd9 "_tuple_text" = true) (k9 : PySem.W.keepIn K (.ref f9) = true)
    {oc10 kV10 doc10 pm10 cd10 ct10 : Value} {od10 an10 : Option Addr} {sl10 : Array (Option Value)} {f10 : Addr}
    (a10 : PySem.W.nsIn K mainGlobals "_greatest_integer" = some (some (.ref f10)))
    (l10 : K.lookup f10 = some ⟨oc10, od10, .func (PySem.W.fnOf "_greatest_integer" "_greatest_integer" (defArgs s_greatest_integer) (defBody s_greatest_integer) (defScope s_greatest_integer) .none kV10 doc10 pm10 an10 cd10 ct10), sl10⟩) (cc10 : PySem.W.codeIn K cd10 "_greatest_integer" = true) (k10 : PySem.W.keepIn K (.ref f10) = true)
    {oc11 kV11 doc11 pm11 cd11 ct11 : Value} {od11 an11 : Option Addr} {sl11 : Array (Option Value)} {f11 : Addr}
    (a11 : PySem.W.nsIn K mainGlobals "_value_at" = some (some (.ref f11)))
    (l11 : K.lookup f11 = some ⟨oc11, od11, .func (PySem.W.fnOf "_value_at" "_value_at" (defArgs s_value_at) (defBody s_value_at) (defScope s_value_at) .none kV11 doc11 pm11 an11 cd11 ct11), sl11⟩) (cc11 : PySem.W.codeIn K cd11 "_value_at" = true) (k11 : PySem.W.keepIn K (.ref f11) = true)
    {oc12 kV12 doc12 pm12 cd12 ct12 : Value} {od12 an12 : Option Addr} {sl12 : Array (Option Value)} {f12 : Addr}
    (a12 : PySem.W.nsIn K mainGlobals "_tuple_at" = some (some (.ref f12)))
    (l12 : K.lookup f12 = some ⟨oc12, od12, .func (PySem.W.fnOf "_tuple_at" "_tuple_at" (defArgs s_tuple_at) (defBody s_tuple_at) (defScope s_tuple_at) .none kV12 doc12 pm12 an12 cd12 ct12), sl12⟩) (cc12 : PySem.W.codeIn K cd12 "_tuple_at" = true) (k12 : PySem.W.keepIn K (.ref f12) = true)
    {oc13 kV13 doc13 pm13 cd13 ct13 : Value} {od13 an13 : Option Addr} {sl13 : Array (Option Value)} {f13 : Addr}
    (a13 : PySem.W.nsIn K mainGlobals "_string_at" = some (some (.ref f13)))
    (l13 : K.lookup f13 = some ⟨oc13, od13, .func (PySem.W.fnOf "_string_at" "_string_at" (defArgs s_string_at) (defBody s_string_at) (defScope s_string_at) .none kV13 doc13 pm13 an13 cd13 ct13), sl13⟩) (cc13 : PySem.W.codeIn K cd13 "_string_at" = true) (k13 : PySem.W.keepIn K (.ref f13) = true)
    {oc14 kV14 doc14 pm14 cd14 ct14 : Value} {od14 an14 : Option Addr} {sl14 : Array (Option Value)} {f14 : Addr}
    (a14 : PySem.W.nsIn K mainGlobals "_end_of_digits" = some (some (.ref f14)))
    (l14 : K.lookup f14 = some ⟨oc14, od14, .func (PySem.W.fnOf "_end_of_digits" "_end_of_digits" (defArgs s_end_of_digits) (defBody s_end_of_digits) (defScope s_end_of_digits) .none kV14 doc14 pm14 an14 cd14 ct14), sl14⟩) (cc14 : PySem.W.codeIn K cd14 "_end_of_digits" = true) (k14 : PySem.W.keepIn K (.ref f14) = true)
    {oc15 kV15 doc15 pm15 cd15 ct15 : Value} {od15 an15 : Option Addr} {sl15 : Array (Option Value)} {f15 : Addr}
    (a15 : PySem.W.nsIn K mainGlobals "_number_of" = some (some (.ref f15)))
    (l15 : K.lookup f15 = some ⟨oc15, od15, .func (PySem.W.fnOf "_number_of" "_number_of" (defArgs s_number_of) (defBody s_number_of) (defScope s_number_of) .none kV15 doc15 pm15 an15 cd15 ct15), sl15⟩) (cc15 : PySem.W.codeIn K cd15 "_number_of" = true) (k15 : PySem.W.keepIn K (.ref f15) = true)
    {oc16 kV16 doc16 pm16 cd16 ct16 : Value} {od16 an16 : Option Addr} {sl16 : Array (Option Value)} {f16 : Addr}
    (a16 : PySem.W.nsIn K mainGlobals "seal" = some (some (.ref f16)))
    (l16 : K.lookup f16 = some ⟨oc16, od16, .func (PySem.W.fnOf "seal" "seal" (defArgs s_seal) (defBody s_seal) (defScope s_seal) .none kV16 doc16 pm16 an16 cd16 ct16), sl16⟩) (cc16 : PySem.W.codeIn K cd16 "seal" = true) (k16 : PySem.W.keepIn K (.ref f16) = true)
    {oc17 kV17 doc17 pm17 cd17 ct17 : Value} {od17 an17 : Option Addr} {sl17 : Array (Option Value)} {f17 : Addr}
    (a17 : PySem.W.nsIn K mainGlobals "opened" = some (some (.ref f17)))
    (l17 : K.lookup f17 = some ⟨oc17, od17, .func (PySem.W.fnOf "opened" "opened" (defArgs s_opened) (defBody s_opened) (defScope s_opened) .none kV17 doc17 pm17 an17 cd17 ct17), sl17⟩) (cc17 : PySem.W.codeIn K cd17 "opened" = true) (k17 : PySem.W.keepIn K (.ref f17) = true)
    {oc18 kV18 doc18 pm18 ct18 : Value} {od18 an18 : Option Addr} {sl18 : Array (Option Value)} {c18 Pt18 f18 : Addr}
    (a18 : PySem.W.nsIn K mainGlobals "support" = some (some (.ref f18)))
    (l18 : K.lookup f18 = some ⟨oc18, od18, .func (PySem.W.fnOf "support" "support" (defArgs s_support) (defBody s_support) (defScope s_support) .none kV18 doc18 pm18 an18 (.ref c18) ct18), sl18⟩) (cc18 : PySem.W.codeIn K (.ref c18) "support" = true) (k18 : PySem.W.keepIn K (.ref f18) = true)
    {oc19 kV19 doc19 pm19 ct19 : Value} {od19 an19 : Option Addr} {sl19 : Array (Option Value)} {c19 Pt19 f19 : Addr}
    (a19 : PySem.W.nsIn K mainGlobals "_different_keys" = some (some (.ref f19)))
    (l19 : K.lookup f19 = some ⟨oc19, od19, .func (PySem.W.fnOf "_different_keys" "_different_keys" (defArgs s_different_keys) (defBody s_different_keys) (defScope s_different_keys) .none kV19 doc19 pm19 an19 (.ref c19) ct19), sl19⟩) (cc19 : PySem.W.codeIn K (.ref c19) "_different_keys" = true) (k19 : PySem.W.keepIn K (.ref f19) = true)
    {oc20 kV20 doc20 pm20 ct20 : Value} {od20 an20 : Option Addr} {sl20 : Array (Option Value)} {c20 Pt20 f20 : Addr}
    (a20 : PySem.W.nsIn K mainGlobals "_is_content" = some (some (.ref f20)))
    (l20 : K.lookup f20 = some ⟨oc20, od20, .func (PySem.W.fnOf "_is_content" "_is_content" (defArgs s_is_content) (defBody s_is_content) (defScope s_is_content) .none kV20 doc20 pm20 an20 (.ref c20) ct20), sl20⟩) (cc20 : PySem.W.codeIn K (.ref c20) "_is_content" = true) (k20 : PySem.W.keepIn K (.ref f20) = true)
    {oc21 kV21 doc21 pm21 cd21 ct21 : Value} {od21 an21 : Option Addr} {sl21 : Array (Option Value)} {f21 : Addr}
    (a21 : PySem.W.nsIn K mainGlobals "_is_seal" = some (some (.ref f21)))
    (l21 : K.lookup f21 = some ⟨oc21, od21, .func (PySem.W.fnOf "_is_seal" "_is_seal" (defArgs s_is_seal) (defBody s_is_seal) (defScope s_is_seal) .none kV21 doc21 pm21 an21 cd21 ct21), sl21⟩) (cc21 : PySem.W.codeIn K cd21 "_is_seal" = true) (k21 : PySem.W.keepIn K (.ref f21) = true)
    {oc22 kV22 doc22 pm22 cd22 ct22 : Value} {od22 an22 : Option Addr} {sl22 : Array (Option Value)} {f22 : Addr}
    (a22 : PySem.W.findIn K (.ref C_Seals) "__init__" = some (some (.ref f22))) (i22 : PySem.W.isFn K (.ref f22) = true)
    (l22 : K.lookup f22 = some ⟨oc22, od22, .func (PySem.W.fnOf "__init__" "Seals.__init__" (defArgs s_Seals___init) (defBody s_Seals___init) (defScope s_Seals___init) .none kV22 doc22 pm22 an22 cd22 ct22), sl22⟩) (cc22 : PySem.W.codeIn K cd22 "Seals.__init__" = true) (k22 : PySem.W.keepIn K (.ref f22) = true)
    {oc23 kV23 doc23 pm23 cd23 ct23 : Value} {od23 an23 : Option Addr} {sl23 : Array (Option Value)} {f23 : Addr}
    (a23 : PySem.W.findIn K (.ref C_Seals) "make" = some (some (.ref f23))) (i23 : PySem.W.isFn K (.ref f23) = true)
    (l23 : K.lookup f23 = some ⟨oc23, od23, .func (PySem.W.fnOf "make" "Seals.make" (defArgs s_Seals_make) (defBody s_Seals_make) (defScope s_Seals_make) .none kV23 doc23 pm23 an23 cd23 ct23), sl23⟩) (cc23 : PySem.W.codeIn K cd23 "Seals.make" = true) (k23 : PySem.W.keepIn K (.ref f23) = true)
    {oc24 kV24 doc24 pm24 cd24 ct24 : Value} {od24 an24 : Option Addr} {sl24 : Array (Option Value)} {f24 : Addr}
    (a24 : PySem.W.findIn K (.ref C_Seals) "holds" = some (some (.ref f24))) (i24 : PySem.W.isFn K (.ref f24) = true)
    (l24 : K.lookup f24 = some ⟨oc24, od24, .func (PySem.W.fnOf "holds" "Seals.holds" (defArgs s_Seals_holds) (defBody s_Seals_holds) (defScope s_Seals_holds) .none kV24 doc24 pm24 an24 cd24 ct24), sl24⟩) (cc24 : PySem.W.codeIn K cd24 "Seals.holds" = true) (k24 : PySem.W.keepIn K (.ref f24) = true)
    {oc25 kV25 doc25 pm25 cd25 ct25 : Value} {od25 an25 : Option Addr} {sl25 : Array (Option Value)} {f25 : Addr}
    (a25 : PySem.W.nsIn K mainGlobals "_law_cell" = some (some (.ref f25)))
    (l25 : K.lookup f25 = some ⟨oc25, od25, .func (PySem.W.fnOf "_law_cell" "_law_cell" (defArgs s_law_cell) (defBody s_law_cell) (defScope s_law_cell) .none kV25 doc25 pm25 an25 cd25 ct25), sl25⟩) (cc25 : PySem.W.codeIn K cd25 "_law_cell" = true) (k25 : PySem.W.keepIn K (.ref f25) = true)
    {oc26 kV26 doc26 pm26 cd26 ct26 : Value} {od26 an26 : Option Addr} {sl26 : Array (Option Value)} {f26 : Addr}
    (a26 : PySem.W.nsIn K mainGlobals "_law_stream" = some (some (.ref f26)))
    (l26 : K.lookup f26 = some ⟨oc26, od26, .func (PySem.W.fnOf "_law_stream" "_law_stream" (defArgs s_law_stream) (defBody s_law_stream) (defScope s_law_stream) .none kV26 doc26 pm26 an26 cd26 ct26), sl26⟩) (cc26 : PySem.W.codeIn K cd26 "_law_stream" = true) (k26 : PySem.W.keepIn K (.ref f26) = true)
    {oc27 kV27 doc27 pm27 cd27 ct27 : Value} {od27 an27 : Option Addr} {sl27 : Array (Option Value)} {f27 : Addr}
    (a27 : PySem.W.nsIn K mainGlobals "_law_take" = some (some (.ref f27)))
    (l27 : K.lookup f27 = some ⟨oc27, od27, .func (PySem.W.fnOf "_law_take" "_law_take" (defArgs s_law_take) (defBody s_law_take) (defScope s_law_take) .none kV27 doc27 pm27 an27 cd27 ct27), sl27⟩) (cc27 : PySem.W.codeIn K cd27 "_law_take" = true) (k27 : PySem.W.keepIn K (.ref f27) = true)
    {oc28 kV28 doc28 pm28 cd28 ct28 : Value} {od28 an28 : Option Addr} {sl28 : Array (Option Value)} {f28 : Addr}
    (a28 : PySem.W.nsIn K mainGlobals "_law_char" = some (some (.ref f28)))
    (l28 : K.lookup f28 = some ⟨oc28, od28, .func (PySem.W.fnOf "_law_char" "_law_char" (defArgs s_law_char) (defBody s_law_char) (defScope s_law_char) .none kV28 doc28 pm28 an28 cd28 ct28), sl28⟩) (cc28 : PySem.W.codeIn K cd28 "_law_char" = true) (k28 : PySem.W.keepIn K (.ref f28) = true)
    {oc29 kV29 doc29 pm29 cd29 ct29 : Value} {od29 an29 : Option Addr} {sl29 : Array (Option Value)} {f29 : Addr}
    (a29 : PySem.W.nsIn K mainGlobals "_law_string" = some (some (.ref f29)))
    (l29 : K.lookup f29 = some ⟨oc29, od29, .func (PySem.W.fnOf "_law_string" "_law_string" (defArgs s_law_string) (defBody s_law_string) (defScope s_law_string) .none kV29 doc29 pm29 an29 cd29 ct29), sl29⟩) (cc29 : PySem.W.codeIn K cd29 "_law_string" = true) (k29 : PySem.W.keepIn K (.ref f29) = true)
    {oc30 kV30 doc30 pm30 cd30 ct30 : Value} {od30 an30 : Option Addr} {sl30 : Array (Option Value)} {f30 : Addr}
    (a30 : PySem.W.nsIn K mainGlobals "_law_text" = some (some (.ref f30)))
    (l30 : K.lookup f30 = some ⟨oc30, od30, .func (PySem.W.fnOf "_law_text" "_law_text" (defArgs s_law_text) (defBody s_law_text) (defScope s_law_text) .none kV30 doc30 pm30 an30 cd30 ct30), sl30⟩) (cc30 : PySem.W.codeIn K cd30 "_law_text" = true) (k30 : PySem.W.keepIn K (.ref f30) = true)
    {oc31 kV31 doc31 pm31 cd31 ct31 : Value} {od31 an31 : Option Addr} {sl31 : Array (Option Value)} {f31 : Addr}
    (a31 : PySem.W.nsIn K mainGlobals "_law_once" = some (some (.ref f31)))
    (l31 : K.lookup f31 = some ⟨oc31, od31, .func (PySem.W.fnOf "_law_once" "_law_once" (defArgs s_law_once) (defBody s_law_once) (defScope s_law_once) .none kV31 doc31 pm31 an31 cd31 ct31), sl31⟩) (cc31 : PySem.W.codeIn K cd31 "_law_once" = true) (k31 : PySem.W.keepIn K (.ref f31) = true)
    {oc32 kV32 doc32 pm32 cd32 ct32 : Value} {od32 an32 : Option Addr} {sl32 : Array (Option Value)} {f32 : Addr}
    (a32 : PySem.W.nsIn K mainGlobals "_law_counts" = some (some (.ref f32)))
    (l32 : K.lookup f32 = some ⟨oc32, od32, .func (PySem.W.fnOf "_law_counts" "_law_counts" (defArgs s_law_counts) (defBody s_law_counts) (defScope s_law_counts) .none kV32 doc32 pm32 an32 cd32 ct32), sl32⟩) (cc32 : PySem.W.codeIn K cd32 "_law_counts" = true) (k32 : PySem.W.keepIn K (.ref f32) = true)
    {oc33 kV33 doc33 pm33 cd33 ct33 : Value} {od33 an33 : Option Addr} {sl33 : Array (Option Value)} {f33 : Addr}
    (a33 : PySem.W.nsIn K mainGlobals "_law_keys" = some (some (.ref f33)))
    (l33 : K.lookup f33 = some ⟨oc33, od33, .func (PySem.W.fnOf "_law_keys" "_law_keys" (defArgs s_law_keys) (defBody s_law_keys) (defScope s_law_keys) .none kV33 doc33 pm33 an33 cd33 ct33), sl33⟩) (cc33 : PySem.W.codeIn K cd33 "_law_keys" = true) (k33 : PySem.W.keepIn K (.ref f33) = true)
    {oc34 kV34 doc34 pm34 cd34 ct34 : Value} {od34 an34 : Option Addr} {sl34 : Array (Option Value)} {f34 : Addr}
    (a34 : PySem.W.nsIn K mainGlobals "_law_merged" = some (some (.ref f34)))
    (l34 : K.lookup f34 = some ⟨oc34, od34, .func (PySem.W.fnOf "_law_merged" "_law_merged" (defArgs s_law_merged) (defBody s_law_merged) (defScope s_law_merged) .none kV34 doc34 pm34 an34 cd34 ct34), sl34⟩) (cc34 : PySem.W.codeIn K cd34 "_law_merged" = true) (k34 : PySem.W.keepIn K (.ref f34) = true)
    {oc35 kV35 doc35 pm35 cd35 ct35 : Value} {od35 an35 : Option Addr} {sl35 : Array (Option Value)} {f35 : Addr}
    (a35 : PySem.W.nsIn K mainGlobals "law" = some (some (.ref f35)))
    (l35 : K.lookup f35 = some ⟨oc35, od35, .func (PySem.W.fnOf "law" "law" (defArgs s_law) (defBody s_law) (defScope s_law) .none kV35 doc35 pm35 an35 cd35 ct35), sl35⟩) (cc35 : PySem.W.codeIn K cd35 "law" = true) (k35 : PySem.W.keepIn K (.ref f35) = true)
    (z_len : PySem.W.nsIn K mainGlobals "len" = some none)
    (z_int : PySem.W.nsIn K mainGlobals "int" = some none)
    (z_str : PySem.W.nsIn K mainGlobals "str" = some none)
    (z_bool : PySem.W.nsIn K mainGlobals "bool" = some none)
    (z_list : PySem.W.nsIn K mainGlobals "list" = some none)
    (z_tuple : PySem.W.nsIn K mainGlobals "tuple" = some none)
    (z_range : PySem.W.nsIn K mainGlobals "range" = some none)
    (z_isinstance : PySem.W.nsIn K mainGlobals "isinstance" = some none)
    (z_ord : PySem.W.nsIn K mainGlobals "ord" = some none)
    (z_all : PySem.W.nsIn K mainGlobals "all" = some none)
    {t_FACTOR : Tok} (v_FACTOR : PySem.W.nsIn K mainGlobals "_FACTOR" = some (some (.int 65599 t_FACTOR)))
    {t_DIVISOR : Tok} (v_DIVISOR : PySem.W.nsIn K mainGlobals "_DIVISOR" = some (some (.int 2361183241434822606617 t_DIVISOR)))
    {t_DIGEST_LENGTH : Tok} (v_DIGEST_LENGTH : PySem.W.nsIn K mainGlobals "DIGEST_LENGTH" = some (some (.int 18 t_DIGEST_LENGTH)))
    {t_DIGITS : Tok} (v_DIGITS : PySem.W.nsIn K mainGlobals "_DIGITS" = some (some (.str "0123456789" t_DIGITS)))
    {t_MOST_NAME : Tok} (v_MOST_NAME : PySem.W.nsIn K mainGlobals "_MOST_NAME" = some (some (.int 12 t_MOST_NAME)))
    {t_BARRED_CODE : Tok} (v_BARRED_CODE : PySem.W.nsIn K mainGlobals "_BARRED_CODE" = some (some (.int 37 t_BARRED_CODE)))
    {t_MOST_DIGITS : Tok} (v_MOST_DIGITS : PySem.W.nsIn K mainGlobals "MOST_DIGITS" = some (some (.int 20 t_MOST_DIGITS)))
    {t_MOST_DEPTH : Tok} (v_MOST_DEPTH : PySem.W.nsIn K mainGlobals "MOST_DEPTH" = some (some (.int 8 t_MOST_DEPTH)))
    {t_MOST_TEXT : Tok} (v_MOST_TEXT : PySem.W.nsIn K mainGlobals "MOST_TEXT" = some (some (.int 100000 t_MOST_TEXT)))
    {t_MOST_SEALS : Tok} (v_MOST_SEALS : PySem.W.nsIn K mainGlobals "MOST_SEALS" = some (some (.int 32 t_MOST_SEALS)))
    {t_MOST_MARK : Tok} (v_MOST_MARK : PySem.W.nsIn K mainGlobals "_MOST_MARK" = some (some (.int 40 t_MOST_MARK)))
    {C_BadKey : Addr} (g_BadKey : PySem.W.nsIn K mainGlobals "BadKey" = some (some (.ref C_BadKey))) (e_BadKey : PySem.W.excIn K C_BadKey [.type "ValueError", .type "Exception", .type "BaseException", .type "object"] "ValueError.__new__" = true) (ke_BadKey : PySem.W.keepIn K (.ref C_BadKey) = true) (be_BadKey : PySem.W.subIn K (.ref C_BadKey) (.type "BaseException") = some true) (te_BadKey : PySem.W.typeIn K (.ref C_BadKey) = some (.type "type")) (ie_BadKey : PySem.W.isClsIn K C_BadKey = true) (se_BadKey : PySem.W.subIn K (.ref C_BadKey) (.ref C_BadKey) = some true)
    {C_BadText : Addr} (g_BadText : PySem.W.nsIn K mainGlobals "BadText" = some (some (.ref C_BadText))) (e_BadText : PySem.W.excIn K C_BadText [.type "ValueError", .type "Exception", .type "BaseException", .type "object"] "ValueError.__new__" = true) (ke_BadText : PySem.W.keepIn K (.ref C_BadText) = true) (be_BadText : PySem.W.subIn K (.ref C_BadText) (.type "BaseException") = some true) (te_BadText : PySem.W.typeIn K (.ref C_BadText) = some (.type "type")) (ie_BadText : PySem.W.isClsIn K C_BadText = true) (se_BadText : PySem.W.subIn K (.ref C_BadText) (.ref C_BadText) = some true)
    (z_sorted : PySem.W.nsIn K mainGlobals "sorted" = some none) (z_set : PySem.W.nsIn K mainGlobals "set" = some none) (z_sum : PySem.W.nsIn K mainGlobals "sum" = some none)
    {dd3 : DefRec} {cK3 : Value} {dc3 : Option Addr} {vs3 : Array Value} {sc3 : Array (Option Value)} (t1_3 : K.lookup c3 = some ⟨cK3, dc3, .fields vs3, sc3⟩) (u1_3 : vs3[11]? = some (.ref Pt3)) (n1_3 : K.lookup Pt3 = none) (r1_3 : (recsOf q).find? (fun e : DefRec => e.name == PySem.Str.ofString "_consists_of") = some dd3)
    {dd4 : DefRec} {cK4 : Value} {dc4 : Option Addr} {vs4 : Array Value} {sc4 : Array (Option Value)} (t1_4 : K.lookup c4 = some ⟨cK4, dc4, .fields vs4, sc4⟩) (u1_4 : vs4[11]? = some (.ref Pt4)) (n1_4 : K.lookup Pt4 = none) (r1_4 : (recsOf q).find? (fun e : DefRec => e.name == PySem.Str.ofString "is_printable") = some dd4)
    {dd19 : DefRec} {cK19 : Value} {dc19 : Option Addr} {vs19 : Array Value} {sc19 : Array (Option Value)} (t1_19 : K.lookup c19 = some ⟨cK19, dc19, .fields vs19, sc19⟩) (u1_19 : vs19[11]? = some (.ref Pt19)) (n1_19 : K.lookup Pt19 = none) (r1_19 : (recsOf q).find? (fun e : DefRec => e.name == PySem.Str.ofString "_different_keys") = some dd19)
    {dd20 : DefRec} {cK20 : Value} {dc20 : Option Addr} {vs20 : Array Value} {sc20 : Array (Option Value)} (t1_20 : K.lookup c20 = some ⟨cK20, dc20, .fields vs20, sc20⟩) (u1_20 : vs20[11]? = some (.ref Pt20)) (n1_20 : K.lookup Pt20 = none) (r1_20 : (recsOf q).find? (fun e : DefRec => e.name == PySem.Str.ofString "_is_content") = some dd20)
    {dd18 : DefRec} {cK18 : Value} {dc18 : Option Addr} {vs18 : Array Value} {sc18 : Array (Option Value)} (t1_18 : K.lookup c18 = some ⟨cK18, dc18, .fields vs18, sc18⟩) (u1_18 : vs18[11]? = some (.ref Pt18)) (n1_18 : K.lookup Pt18 = none) (r1_18 : (recsOf q).find? (fun e : DefRec => e.name == PySem.Str.ofString "support") = some dd18) :
    LamX.LawAtS l w K CX0 27 63 "script" mg fa h := by
  have e := hfa.symm.trans (PySem.W.mg_of X G a35)
  cases e
  have F0 := fun_mk (st := s_digest) l0 cc0 k0
  have b0 := F0.binds (ps := ["text"]) fun _ _ _ _ _ _ us hl => match us, hl with | [_], _ => rfl
  have F1 := fun_mk (st := s_is_key) l1 cc1 k1
  have b1 := F1.binds (ps := ["value"]) fun _ _ _ _ _ _ us hl => match us, hl with | [_], _ => rfl
  have F2 := fun_mk (st := s_ascends) l2 cc2 k2
  have b2 := F2.binds (ps := ["names"]) fun _ _ _ _ _ _ us hl => match us, hl with | [_], _ => rfl
  have F3 := fun_mk (st := s_consists_of) l3 cc3 k3
  have b3 := F3.binds (ps := ["text", "marks"]) fun _ _ _ _ _ _ us hl => match us, hl with | [_, _], _ => rfl
  have F4 := fun_mk (st := s_is_printable) l4 cc4 k4
  have b4 := F4.binds (ps := ["value"]) fun _ _ _ _ _ _ us hl => match us, hl with | [_], _ => rfl
  have F5 := fun_mk (st := s_is_integer) l5 cc5 k5
  have b5 := F5.binds (ps := ["value", "least", "greatest"]) fun _ _ _ _ _ _ us hl => match us, hl with | [_, _, _], _ => rfl
  have F6 := fun_mk (st := s_encode) l6 cc6 k6
  have b6 := F6.binds (ps := ["value"]) fun _ _ _ _ _ _ us hl => match us, hl with | [_], _ => rfl
  have F7 := fun_mk (st := s_decode) l7 cc7 k7
  have b7 := F7.binds (ps := ["text"]) fun _ _ _ _ _ _ us hl => match us, hl with | [_], _ => rfl
  have F8 := fun_mk (st := s_text_of) l8 cc8 k8
  have b8 := F8.binds (ps := ["value", "levels"]) fun _ _ _ _ _ _ us hl => match us, hl with | [_, _], _ => rfl
  have F9 := fun_mk (st := s_tuple_text) l9 cc9 k9
  have b9 := F9.binds (ps := ["parts", "levels"]) fun _ _ _ _ _ _ us hl => match us, hl with | [_, _], _ => rfl
  have F10 := fun_mk (st := s_greatest_integer) l10 cc10 k10
  have b10 := F10.binds (ps := []) fun _ _ _ _ _ _ us hl => match us, hl with | [], _ => rfl
  have F11 := fun_mk (st := s_value_at) l11 cc11 k11
  have b11 := F11.binds (ps := ["text", "start", "levels"]) fun _ _ _ _ _ _ us hl => match us, hl with | [_, _, _], _ => rfl
  have F12 := fun_mk (st := s_tuple_at) l12 cc12 k12
  have b12 := F12.binds (ps := ["text", "start", "levels"]) fun _ _ _ _ _ _ us hl => match us, hl with | [_, _, _], _ => rfl
  have F13 := fun_mk (st := s_string_at) l13 cc13 k13
  have b13 := F13.binds (ps := ["text", "start", "length"]) fun _ _ _ _ _ _ us hl => match us, hl with | [_, _, _], _ => rfl
  have F14 := fun_mk (st := s_end_of_digits) l14 cc14 k14
  have b14 := F14.binds (ps := ["text", "start"]) fun _ _ _ _ _ _ us hl => match us, hl with | [_, _], _ => rfl
  have F15 := fun_mk (st := s_number_of) l15 cc15 k15
  have b15 := F15.binds (ps := ["digits"]) fun _ _ _ _ _ _ us hl => match us, hl with | [_], _ => rfl
  have F16 := fun_mk (st := s_seal) l16 cc16 k16
  have b16 := F16.binds (ps := ["office", "text", "keys"]) fun _ _ _ _ _ _ us hl => match us, hl with | [_, _, _], _ => rfl
  have F17 := fun_mk (st := s_opened) l17 cc17 k17
  have b17 := F17.binds (ps := ["sealed"]) fun _ _ _ _ _ _ us hl => match us, hl with | [_], _ => rfl
  have F18 := fun_mk (st := s_support) l18 cc18 k18
  have b18 := F18.binds (ps := ["office", "sealed", "keys"]) fun _ _ _ _ _ _ us hl => match us, hl with | [_, _, _], _ => rfl
  have F19 := fun_mk (st := s_different_keys) l19 cc19 k19
  have b19 := F19.binds (ps := ["keys"]) fun _ _ _ _ _ _ us hl => match us, hl with | [_], _ => rfl
  have F20 := fun_mk (st := s_is_content) l20 cc20 k20
  have b20 := F20.binds (ps := ["value"]) fun _ _ _ _ _ _ us hl => match us, hl with | [_], _ => rfl
  have F21 := fun_mk (st := s_is_seal) l21 cc21 k21
  have b21 := F21.binds (ps := ["value"]) fun _ _ _ _ _ _ us hl => match us, hl with | [_], _ => rfl
  have F22 := fun_mk (st := s_Seals___init) l22 cc22 k22
  have b22 := F22.binds (ps := ["self"]) fun _ _ _ _ _ _ us hl => match us, hl with | [_], _ => rfl
  have F23 := fun_mk (st := s_Seals_make) l23 cc23 k23
  have b23 := F23.binds (ps := ["self", "key", "text"]) fun _ _ _ _ _ _ us hl => match us, hl with | [_, _, _], _ => rfl
  have F24 := fun_mk (st := s_Seals_holds) l24 cc24 k24
  have b24 := F24.binds (ps := ["self", "key", "text", "mark"]) fun _ _ _ _ _ _ us hl => match us, hl with | [_, _, _, _], _ => rfl
  have F25 := fun_mk (st := s_law_cell) l25 cc25 k25
  have b25 := F25.binds (ps := ["script", "k"]) fun _ _ _ _ _ _ us hl => match us, hl with | [_, _], _ => rfl
  have F26 := fun_mk (st := s_law_stream) l26 cc26 k26
  have b26 := F26.binds (ps := ["cell"]) fun _ _ _ _ _ _ us hl => match us, hl with | [_], _ => rfl
  have F27 := fun_mk (st := s_law_take) l27 cc27 k27
  have b27 := F27.binds (ps := ["stream", "many"]) fun _ _ _ _ _ _ us hl => match us, hl with | [_, _], _ => rfl
  have F28 := fun_mk (st := s_law_char) l28 cc28 k28
  have b28 := F28.binds (ps := ["k"]) fun _ _ _ _ _ _ us hl => match us, hl with | [_], _ => rfl
  have F29 := fun_mk (st := s_law_string) l29 cc29 k29
  have b29 := F29.binds (ps := ["stream", "most"]) fun _ _ _ _ _ _ us hl => match us, hl with | [_, _], _ => rfl
  have F30 := fun_mk (st := s_law_text) l30 cc30 k30
  have b30 := F30.binds (ps := ["value"]) fun _ _ _ _ _ _ us hl => match us, hl with | [_], _ => rfl
  have F31 := fun_mk (st := s_law_once) l31 cc31 k31
  have b31 := F31.binds (ps := ["keys"]) fun _ _ _ _ _ _ us hl => match us, hl with | [_], _ => rfl
  have F32 := fun_mk (st := s_law_counts) l32 cc32 k32
  have b32 := F32.binds (ps := ["actual", "expected"]) fun _ _ _ _ _ _ us hl => match us, hl with | [_, _], _ => rfl
  have F33 := fun_mk (st := s_law_keys) l33 cc33 k33
  have b33 := F33.binds (ps := ["stream", "step", "many", "most"]) fun _ _ _ _ _ _ us hl => match us, hl with | [_, _, _, _], _ => rfl
  have F34 := fun_mk (st := s_law_merged) l34 cc34 k34
  have b34 := F34.binds (ps := ["one", "two"]) fun _ _ _ _ _ _ us hl => match us, hl with | [_, _], _ => rfl
  have F35 := fun_mk (st := s_law) l35 cc35 k35
  have b35 := F35.binds (ps := ["script"]) fun _ _ _ _ _ _ us hl => match us, hl with | [_], _ => rfl
  have B : Blt mg := ⟨PySem.W.mg_none_of X G z_len, PySem.W.mg_none_of X G z_int, PySem.W.mg_none_of X G z_str, PySem.W.mg_none_of X G z_bool, PySem.W.mg_none_of X G z_list, PySem.W.mg_none_of X G z_tuple, PySem.W.mg_none_of X G z_range, PySem.W.mg_none_of X G z_isinstance, PySem.W.mg_none_of X G z_ord, PySem.W.mg_none_of X G z_all⟩
  have cl_Seals : Cls K C_Seals := ⟨pg_Seals, hd_Seals, po_Seals, sa_Seals⟩
  have E_BadKey : Err K mg "BadKey" C_BadKey := ⟨PySem.W.mg_of X G g_BadKey, e_BadKey, ke_BadKey, be_BadKey, te_BadKey, ie_BadKey, se_BadKey⟩
  have E_BadText : Err K mg "BadText" C_BadText := ⟨PySem.W.mg_of X G g_BadText, e_BadText, ke_BadText, be_BadText, te_BadText, ie_BadText, se_BadText⟩
  obtain ⟨hC3, hP3⟩ := tab_mk T X r1_3 a3 l3 rfl t1_3 u1_3
  obtain ⟨hC4, hP4⟩ := tab_mk T X r1_4 a4 l4 rfl t1_4 u1_4
  obtain ⟨hC19, hP19⟩ := tab_mk T X r1_19 a19 l19 rfl t1_19 u1_19
  obtain ⟨hC20, hP20⟩ := tab_mk T X r1_20 a20 l20 rfl t1_20 u1_20
  obtain ⟨hC18, hP18⟩ := tab_mk T X r1_18 a18 l18 rfl t1_18 u1_18
  have each : ∀ {φ : Addr × Addr → Prop}, φ (c3, Pt3) → φ (c4, Pt4) → φ (c19, Pt19) → φ (c20, Pt20) → φ (c18, Pt18) → ∀ p ∈ ([(c3, Pt3), (c4, Pt4), (c19, Pt19), (c20, Pt20), (c18, Pt18)] : List (Addr × Addr)), φ p := fun h3 h4 h19 h20 h18 p hp => by
    simp only [List.mem_cons, List.not_mem_nil, or_false] at hp
    rcases hp with rfl | rfl | rfl | rfl | rfl
    · exact h3
    · exact h4
    · exact h19
    · exact h20
    · exact h18
  have eachT : ∀ {φ : Addr → Prop}, φ Pt3 → φ Pt4 → φ Pt19 → φ Pt20 → φ Pt18 → ∀ p ∈ ([Pt3, Pt4, Pt19, Pt20, Pt18] : List Addr), φ p := fun h3 h4 h19 h20 h18 p hp => by
    simp only [List.mem_cons, List.not_mem_nil, or_false] at hp
    rcases hp with rfl | rfl | rfl | rfl | rfl
    · exact h3
    · exact h4
    · exact h19
    · exact h20
    · exact h18
  have m_Pt3 : Pt3 ∈ ([Pt3, Pt4, Pt19, Pt20, Pt18] : List Addr) := List.mem_cons_self
  have m_Pt4 : Pt4 ∈ ([Pt3, Pt4, Pt19, Pt20, Pt18] : List Addr) := List.mem_cons_of_mem _ (List.mem_cons_self)
  have m_Pt19 : Pt19 ∈ ([Pt3, Pt4, Pt19, Pt20, Pt18] : List Addr) := List.mem_cons_of_mem _ (List.mem_cons_of_mem _ (List.mem_cons_self))
  have m_Pt20 : Pt20 ∈ ([Pt3, Pt4, Pt19, Pt20, Pt18] : List Addr) := List.mem_cons_of_mem _ (List.mem_cons_of_mem _ (List.mem_cons_of_mem _ (List.mem_cons_self)))
  have m_Pt18 : Pt18 ∈ ([Pt3, Pt4, Pt19, Pt20, Pt18] : List Addr) := List.mem_cons_of_mem _ (List.mem_cons_of_mem _ (List.mem_cons_of_mem _ (List.mem_cons_of_mem _ (List.mem_cons_self))))
  refine ⟨PySem.W.fnOf "law" "law" (defArgs s_law) (defBody s_law) (defScope s_law) .none kV35 doc35 pm35 an35 cd35 ct35, [(c3, Pt3), (c4, Pt4), (c19, Pt19), (c20, Pt20), (c18, Pt18)], spLaw K ([Pt3, Pt4, Pt19, Pt20, Pt18]), each hP3 hP4 hP19 hP20 hP18, each n1_3 n1_4 n1_19 n1_20 n1_18, each hC3 hC4 hC19 hC20 hC18, fun s v => .of_eq rfl, fun H a ns hl hb ht hS => ?_, fun base KB GB TBs => ?_⟩
  · have g : Tabs ([Pt3, Pt4, Pt19, Pt20, Pt18]) H := eachT ⟨#[], ht (c3, Pt3) (List.mem_cons_self), True.intro⟩ ⟨#[], ht (c4, Pt4) (List.mem_cons_of_mem _ (List.mem_cons_self)), True.intro⟩ ⟨#[], ht (c19, Pt19) (List.mem_cons_of_mem _ (List.mem_cons_of_mem _ (List.mem_cons_self))), True.intro⟩ ⟨#[], ht (c20, Pt20) (List.mem_cons_of_mem _ (List.mem_cons_of_mem _ (List.mem_cons_of_mem _ (List.mem_cons_self)))), True.intro⟩ ⟨#[], ht (c18, Pt18) (List.mem_cons_of_mem _ (List.mem_cons_of_mem _ (List.mem_cons_of_mem _ (List.mem_cons_of_mem _ (List.mem_cons_self))))), True.intro⟩
    exact ⟨a, ns, rfl, hS, g, fun _ => rfl⟩
  have TB3 : GxR.TabB base mg c3 Pt3 := let z := TBs (c3, Pt3) (List.mem_cons_self); ⟨z.code, z.bm, z.gP⟩
  have TB4 : GxR.TabB base mg c4 Pt4 := let z := TBs (c4, Pt4) (List.mem_cons_of_mem _ (List.mem_cons_self)); ⟨z.code, z.bm, z.gP⟩
  have TB19 : GxR.TabB base mg c19 Pt19 := let z := TBs (c19, Pt19) (List.mem_cons_of_mem _ (List.mem_cons_of_mem _ (List.mem_cons_self))); ⟨z.code, z.bm, z.gP⟩
  have TB20 : GxR.TabB base mg c20 Pt20 := let z := TBs (c20, Pt20) (List.mem_cons_of_mem _ (List.mem_cons_of_mem _ (List.mem_cons_of_mem _ (List.mem_cons_self)))); ⟨z.code, z.bm, z.gP⟩
  have TB18 : GxR.TabB base mg c18 Pt18 := let z := TBs (c18, Pt18) (List.mem_cons_of_mem _ (List.mem_cons_of_mem _ (List.mem_cons_of_mem _ (List.mem_cons_of_mem _ (List.mem_cons_self))))); ⟨z.code, z.bm, z.gP⟩
  have c_law_cell : Cal l.prog w K mg base CX0 (1) "_law_cell" (spCell K) := ⟨⟨f25, _, _, ok_cell F25 B, PySem.W.mg_of X G a25, k25, b25⟩⟩
  have c_law_stream : Cal l.prog w K mg base CX0 (1) "_law_stream" (spStream) := ⟨⟨f26, _, _, ok_stream F26 B, PySem.W.mg_of X G a26, k26, b26⟩⟩
  have c_law_take : Cal l.prog w K mg base CX0 (1) "_law_take" (spTake) := ⟨⟨f27, _, _, ok_take F27 B, PySem.W.mg_of X G a27, k27, b27⟩⟩
  have c_law_char : Cal l.prog w K mg base CX0 (1) "_law_char" (spChar) := ⟨⟨f28, _, _, ok_char F28, PySem.W.mg_of X G a28, k28, b28⟩⟩
  have c_law_string : Cal l.prog w K mg base CX0 (2) "_law_string" (spString) := ⟨⟨f29, _, _, ok_string F29 B c_law_take c_law_char, PySem.W.mg_of X G a29, k29, b29⟩⟩
  have c_law_counts : Cal l.prog w K mg base CX0 (1) "_law_counts" (spCounts) := ⟨⟨f32, _, _, ok_counts F32 B, PySem.W.mg_of X G a32, k32, b32⟩⟩
  have D : DgC mg := ⟨⟨_, PySem.W.mg_of X G v_FACTOR⟩, ⟨_, PySem.W.mg_of X G v_DIVISOR⟩, ⟨_, PySem.W.mg_of X G v_DIGEST_LENGTH⟩⟩
  have DN : NmC mg := ⟨⟨_, PySem.W.mg_of X G v_DIGITS⟩, ⟨_, PySem.W.mg_of X G v_MOST_NAME⟩⟩
  have c_digest : Cal l.prog w K mg base CX0 (1) "digest" (spDigest) := ⟨⟨f0, _, _, ok_digest F0 B D, PySem.W.mg_of X G a0, k0, b0⟩⟩
  have c_consists_of : Cal l.prog w K mg base CX0 (3) "_consists_of" (spCons Pt3) := ⟨⟨f3, _, _, ok_consists B TB3 l3 cc3, PySem.W.mg_of X G a3, k3, b3⟩⟩
  have c_is_key : Cal l.prog w K mg base CX0 (4) "is_key" (spNm kyV Pt3) := ⟨⟨f1, _, _, ok_key F1 B DN c_consists_of, PySem.W.mg_of X G a1, k1, b1⟩⟩
  have c_is_printable : Cal l.prog w K mg base CX0 (3) "is_printable" (spPrn Pt4) := ⟨⟨f4, _, _, ok_printable B (PySem.W.mg_of X G v_BARRED_CODE) TB4 l4 cc4, PySem.W.mg_of X G a4, k4, b4⟩⟩
  have TS : SlC K mg C_Seals C_BadKey C_BadText := ⟨cl_Seals, na_marks_Seals, E_BadKey, E_BadText⟩
  have k_Seals : CalK l.prog w K mg base CX0 (1) C_Seals "Seals" (spInit C_Seals) := ⟨⟨f22, _, _, ok_sinit F22 TS, ⟨mk_Seals, a22, i22, kc_Seals⟩, b22⟩, PySem.W.mg_of X G aC_Seals⟩
  have m_make : CalM l.prog w K mg base (L2.CX l.prog w) (5) C_Seals "make" (spMake C_Seals C_BadKey C_BadText ([Pt3, Pt4, Pt19, Pt20, Pt18])) := ⟨⟨f23, _, _, ok_smake F23 B TS m_Pt4 m_Pt3 c_is_key c_is_printable c_digest, ⟨a23, i23, k23⟩, b23⟩, cl_Seals⟩
  have m_holds : CalM l.prog w K mg base CX0 (1) C_Seals "holds" (spHolds C_Seals) := ⟨⟨f24, _, _, ok_sholds F24 B TS, ⟨a24, i24, k24⟩, b24⟩, cl_Seals⟩
  have TX : TxtC K mg C_BadText t_MOST_DIGITS t_MOST_DEPTH t_MOST_TEXT := ⟨E_BadText, PySem.W.mg_of X G v_MOST_DIGITS, PySem.W.mg_of X G v_MOST_DEPTH, PySem.W.mg_of X G v_MOST_TEXT⟩
  have c_end_of_digits : Cal l.prog w K mg base CX0 (1) "_end_of_digits" (spEod) := ⟨⟨f14, _, _, ok_eod F14 B, PySem.W.mg_of X G a14, k14, b14⟩⟩
  have c_number_of : Cal l.prog w K mg base (L2.CX l.prog w) (2) "_number_of" (spNum C_BadText) := ⟨⟨f15, _, _, ok_number F15 B TX, PySem.W.mg_of X G a15, k15, b15⟩⟩
  have c_string_at : Cal l.prog w K mg base (L2.CX l.prog w) (2) "_string_at" (spStrAt C_BadText) := ⟨⟨f13, _, _, ok_string_at F13 B TX, PySem.W.mg_of X G a13, k13, b13⟩⟩
  have r_tat : ∀ n : Nat, Cal l.prog w K mg base (L2.CX l.prog w) (2 * n + 4) "_tuple_at" (spTupAt C_BadText n) := by
    intro n
    induction n with
    | zero => exact ⟨⟨f12, _, _, ok_tuple_at0 F12 B TX, PySem.W.mg_of X G a12, k12, b12⟩⟩
    | succ n ih =>
      have c1 : Cal l.prog w K mg base (L2.CX l.prog w) (2 * n + 5) "_value_at" (spVal C_BadText n) := ⟨⟨f11, _, _, ok_value_at (by omega) F11 B TX c_end_of_digits c_number_of c_string_at ih, PySem.W.mg_of X G a11, k11, b11⟩⟩
      exact ⟨⟨f12, _, _, ok_tuple_at (by omega) F12 B TX c1, PySem.W.mg_of X G a12, k12, b12⟩⟩
  have c_val8 : Cal l.prog w K mg base (L2.CX l.prog w) (21) "_value_at" (spVal C_BadText 8) := ⟨⟨f11, _, _, ok_value_at (by omega) F11 B TX c_end_of_digits c_number_of c_string_at (r_tat 8), PySem.W.mg_of X G a11, k11, b11⟩⟩
  have c_decode : Cal l.prog w K mg base (L2.CX l.prog w) (23) "decode" (spDec C_BadText Pt4) := ⟨⟨f7, _, _, ok_decode F7 B TX c_is_printable (c_val8.mono (by decide)), PySem.W.mg_of X G a7, k7, b7⟩⟩
  have c_is_integer : Cal l.prog w K mg base CX0 (1) "is_integer" (spIntg) := ⟨⟨f5, _, _, ok_integer F5 B, PySem.W.mg_of X G a5, k5, b5⟩⟩
  have c_greatest_integer : Cal l.prog w K mg base CX0 (1) "_greatest_integer" (spGreat) := ⟨⟨f10, _, _, ok_great F10 B TX, PySem.W.mg_of X G a10, k10, b10⟩⟩
  have r_tuple : ∀ n : Nat, Cal l.prog w K mg base (L2.CX l.prog w) (2 * n + 4) "_tuple_text" (spTup C_BadText Pt4 n) := by
    intro n
    induction n with
    | zero => exact ⟨⟨f9, _, _, ok_tuple0 F9 B TX, PySem.W.mg_of X G a9, k9, b9⟩⟩
    | succ n ih =>
      have c1 : Cal l.prog w K mg base (L2.CX l.prog w) (2 * n + 5) "_text_of" (spText C_BadText Pt4 n) := ⟨⟨f8, _, _, ok_text_of (by omega) F8 B TX c_is_printable c_is_integer c_greatest_integer ih, PySem.W.mg_of X G a8, k8, b8⟩⟩
      exact ⟨⟨f9, _, _, ok_tuple (by omega) F9 B TX c1, PySem.W.mg_of X G a9, k9, b9⟩⟩
  have c_text8 : Cal l.prog w K mg base (L2.CX l.prog w) (21) "_text_of" (spText C_BadText Pt4 8) := ⟨⟨f8, _, _, ok_text_of (by omega) F8 B TX c_is_printable c_is_integer c_greatest_integer (r_tuple 8), PySem.W.mg_of X G a8, k8, b8⟩⟩
  have c_encode : Cal l.prog w K mg base (L2.CX l.prog w) (23) "encode" (spEnc C_BadText Pt4) := ⟨⟨f6, _, _, ok_encode F6 B TX (c_text8.mono (by decide)), PySem.W.mg_of X G a6, k6, b6⟩⟩
  have DO : OpC mg := ⟨⟨_, PySem.W.mg_of X G v_MOST_MARK⟩, ⟨_, PySem.W.mg_of X G v_MOST_SEALS⟩⟩
  have DT : OpT K mg C_BadText := ⟨E_BadText⟩
  have c_ascends : Cal l.prog w K mg base CX0 (1) "ascends" (spAsc K) := ⟨⟨f2, _, _, ok_asc F2 B (PySem.W.mg_none_of X G z_sorted) (PySem.W.mg_none_of X G z_set), PySem.W.mg_of X G a2, k2, b2⟩⟩
  have c_is_seal : Cal l.prog w K mg base CX0 (5) "_is_seal" (spSeal Pt3) := ⟨⟨f21, _, _, ok_seal F21 B DO c_is_key, PySem.W.mg_of X G a21, k21, b21⟩⟩
  have c_is_content : Cal l.prog w K mg base CX0 (8) "_is_content" (spCont ([Pt3, Pt4, Pt19, Pt20, Pt18])) := ⟨⟨f20, _, _, ok_content B TB20 DO m_Pt20 m_Pt3 l20 cc20 c_is_seal c_ascends, PySem.W.mg_of X G a20, k20, b20⟩⟩
  have c_opened : Cal l.prog w K mg base (L2.CX l.prog w) (24) "opened" (spOpen C_BadText ([Pt3, Pt4, Pt19, Pt20, Pt18])) := ⟨⟨f17, _, _, ok_opened F17 B E_BadText m_Pt4 c_decode c_is_content, PySem.W.mg_of X G a17, k17, b17⟩⟩
  have r_lt : ∀ n : Nat, Cal l.prog w K mg base CX0 (n) "_law_text" (spLTextR n) := by
    intro n
    induction n with
    | zero => exact ⟨⟨f30, _, _, ok_never, PySem.W.mg_of X G a30, k30, b30⟩⟩
    | succ n ih => exact ⟨⟨f30, _, _, ok_ltext F30 B ih, PySem.W.mg_of X G a30, k30, b30⟩⟩
  have c_law_text : Cal l.prog w K mg base CX0 (9) "_law_text" (spLText 8) := r_lt 9
  have c_different_keys : Cal l.prog w K mg base (L2.CX l.prog w) (8) "_different_keys" (spDiff C_BadKey K ([Pt3, Pt4, Pt19, Pt20, Pt18])) := ⟨⟨f19, _, _, ok_diff B (PySem.W.mg_none_of X G z_sorted) (PySem.W.mg_none_of X G z_set) TB19 ⟨DO.c_MOST_SEALS⟩ TS m_Pt19 m_Pt3 l19 cc19 c_is_key, PySem.W.mg_of X G a19, k19, b19⟩⟩
  have c_seal : Cal l.prog w K mg base (L2.CX l.prog w) (24) "seal" (spSeal2 C_Seals C_BadKey C_BadText K ([Pt3, Pt4, Pt19, Pt20, Pt18])) := ⟨⟨f16, _, _, ok_seal2 F16 B D TS m_Pt4 c_different_keys c_is_printable c_encode m_make, PySem.W.mg_of X G a16, k16, b16⟩⟩
  have c_support : Cal l.prog w K mg base (L2.CX l.prog w) (25) "support" (spSupp C_Seals C_BadText ([Pt3, Pt4, Pt19, Pt20, Pt18]) K) := ⟨⟨f18, _, _, ok_support B (PySem.W.mg_none_of X G z_sum) TB18 m_Pt18 l18 cc18 c_opened m_holds, PySem.W.mg_of X G a18, k18, b18⟩⟩
  have c_law_once : Cal l.prog w K mg base CX0 (1) "_law_once" (spOnce K) := ⟨⟨f31, _, _, ok_once F31 B (PySem.W.mg_none_of X G z_sorted), PySem.W.mg_of X G a31, k31, b31⟩⟩
  have c_law_keys : Cal l.prog w K mg base CX0 (2) "_law_keys" (spKeys19) := ⟨⟨f33, _, _, ok_lkeys F33 B c_law_take, PySem.W.mg_of X G a33, k33, b33⟩⟩
  have c_law_merged : Cal l.prog w K mg base CX0 (2) "_law_merged" (spMerged) := ⟨⟨f34, _, _, ok_merged F34 B (PySem.W.mg_none_of X G z_sorted), PySem.W.mg_of X G a34, k34, b34⟩⟩
  exact ok_law F35 B c_law_cell c_law_stream c_law_take c_law_string c_law_once c_law_text c_law_counts c_law_keys c_law_merged c_seal c_opened c_support k_Seals
end SC
open PySem PySem.W PyProof.Rows
set_option maxRecDepth 100000 in
set_option maxHeartbeats 0 in
theorem PySem.Challenge.cw_sealchart_k19_collected_seals_holds : PySem.Challenge.rw_sealchart_k19_collected_seals.Holds := by
  w_on; o_law; k_head; (case hw => w_witness2)
  k_fill
  refine SC.walk_tab (l := PySem.Challenge.rw_sealchart_k19_collected_seals) (CX := fun _ => L2.CX0) (k := 27) (n := 63) (x := "script") rfl (by decide) rfl ⟨rfl, by decide, by decide⟩ (fun w h Y => PySem.W.kIn_of Y) (fun _ _ _ _ _ z => z) ?F
  case F =>
    intro w mg mb lo mean fa h T KX G hmg
    refine' SC.all_mk T KX G hmg ?aC_Seals ?pg_Seals ?hd_Seals ?po_Seals ?sa_Seals ?mk_Seals ?kc_Seals ?na_marks_Seals ?a0 ?l0 ?cc0 ?k0 ?a1 ?l1 ?cc1 ?k1 ?a2 ?l2 ?cc2 ?k2 ?a3 ?l3 ?cc3 ?k3 ?a4 ?l4 ?cc4 ?k4 ?a5 ?l5 ?cc5 ?k5 ?a6 ?l6 ?cc6 ?k6 ?a7 ?l7 ?cc7 ?k7 ?a8 ?l8 ?cc8 ?k8 ?a9 ?l9 ?cc9 ?k9 ?a10 ?l10 ?cc10 ?k10 ?a11 ?l11 ?cc11 ?k11 ?a12 ?l12 ?cc12 ?k12 ?a13 ?l13 ?cc13 ?k13 ?a14 ?l14 ?cc14 ?k14 ?a15 ?l15 ?cc15 ?k15 ?a16 ?l16 ?cc16 ?k16 ?a17 ?l17 ?cc17 ?k17 ?a18 ?l18 ?cc18 ?k18 ?a19 ?l19 ?cc19 ?k19 ?a20 ?l20 ?cc20 ?k20 ?a21 ?l21 ?cc21 ?k21 ?a22 ?i22 ?l22 ?cc22 ?k22 ?a23 ?i23 ?l23 ?cc23 ?k23 ?a24 ?i24 ?l24 ?cc24 ?k24 ?a25 ?l25 ?cc25 ?k25 ?a26 ?l26 ?cc26 ?k26 ?a27 ?l27 ?cc27 ?k27 ?a28 ?l28 ?cc28 ?k28 ?a29 ?l29 ?cc29 ?k29 ?a30 ?l30 ?cc30 ?k30 ?a31 ?l31 ?cc31 ?k31 ?a32 ?l32 ?cc32 ?k32 ?a33 ?l33 ?cc33 ?k33 ?a34 ?l34 ?cc34 ?k34 ?a35 ?l35 ?cc35 ?k35 ?z_len ?z_int ?z_str ?z_bool ?z_list ?z_tuple ?z_range ?z_isinstance ?z_ord ?z_all ?v_FACTOR ?v_DIVISOR ?v_DIGEST_LENGTH ?v_DIGITS ?v_MOST_NAME ?v_BARRED_CODE ?v_MOST_DIGITS ?v_MOST_DEPTH ?v_MOST_TEXT ?v_MOST_SEALS ?v_MOST_MARK ?g_BadKey ?e_BadKey ?ke_BadKey ?be_BadKey ?te_BadKey ?ie_BadKey ?se_BadKey ?g_BadText ?e_BadText ?ke_BadText ?be_BadText ?te_BadText ?ie_BadText ?se_BadText ?z_sorted ?z_set ?z_sum ?t1_3 ?u1_3 ?n1_3 ?r1_3 ?t1_4 ?u1_4 ?n1_4 ?r1_4 ?t1_19 ?u1_19 ?n1_19 ?r1_19 ?t1_20 ?u1_20 ?n1_20 ?r1_20 ?t1_18 ?u1_18 ?n1_18 ?r1_18
    (case aC_Seals => k_is)
    (case pg_Seals => k_is)
    (case hd_Seals => k_is)
    (case po_Seals => k_is)
    (case sa_Seals => k_is)
    (case mk_Seals => k_is)
    (case kc_Seals => k_is)
    (case na_marks_Seals => k_is)
    (case a0 => k_is)
    (case l0 => k_is)
    (case cc0 => k_is)
    (case k0 => k_is)
    (case a1 => k_is)
    (case l1 => k_is)
    (case cc1 => k_is)
    (case k1 => k_is)
    (case a2 => k_is)
    (case l2 => k_is)
    (case cc2 => k_is)
    (case k2 => k_is)
    (case a3 => k_is)
    (case l3 => k_is)
    (case cc3 => k_is)
    (case k3 => k_is)
    (case a4 => k_is)
    (case l4 => k_is)
    (case cc4 => k_is)
    (case k4 => k_is)
    (case a5 => k_is)
    (case l5 => k_is)
    (case cc5 => k_is)
    (case k5 => k_is)
    (case a6 => k_is)
    (case l6 => k_is)
    (case cc6 => k_is)
    (case k6 => k_is)
    (case a7 => k_is)
    (case l7 => k_is)
    (case cc7 => k_is)
    (case k7 => k_is)
    (case a8 => k_is)
    (case l8 => k_is)
    (case cc8 => k_is)
    (case k8 => k_is)
    (case a9 => k_is)
    (case l9 => k_is)
    (case cc9 => k_is)
    (case k9 => k_is)
    (case a10 => k_is)
    (case l10 => k_is)
    (case cc10 => k_is)
    (case k10 => k_is)
    (case a11 => k_is)
    (case l11 => k_is)
    (case cc11 => k_is)
    (case k11 => k_is)
    (case a12 => k_is)
    (case l12 => k_is)
    (case cc12 => k_is)
    (case k12 => k_is)
    (case a13 => k_is)
    (case l13 => k_is)
    (case cc13 => k_is)
    (case k13 => k_is)
    (case a14 => k_is)
    (case l14 => k_is)
    (case cc14 => k_is)
    (case k14 => k_is)
    (case a15 => k_is)
    (case l15 => k_is)
    (case cc15 => k_is)
    (case k15 => k_is)
    (case a16 => k_is)
    (case l16 => k_is)
    (case cc16 => k_is)
    (case k16 => k_is)
    (case a17 => k_is)
    (case l17 => k_is)
    (case cc17 => k_is)
    (case k17 => k_is)
    (case a18 => k_is)
    (case l18 => k_is)
    (case cc18 => k_is)
    (case k18 => k_is)
    (case a19 => k_is)
    (case l19 => k_is)
    (case cc19 => k_is)
    (case k19 => k_is)
    (case a20 => k_is)
    (case l20 => k_is)
    (case cc20 => k_is)
    (case k20 => k_is)
    (case a21 => k_is)
    (case l21 => k_is)
    (case cc21 => k_is)
    (case k21 => k_is)
    (case a22 => k_is)
    (case i22 => k_is)
    (case l22 => k_is)
    (case cc22 => k_is)
    (case k22 => k_is)
    (case a23 => k_is)
    (case i23 => k_is)
    (case l23 => k_is)
    (case cc23 => k_is)
    (case k23 => k_is)
    (case a24 => k_is)
    (case i24 => k_is)
    (case l24 => k_is)
    (case cc24 => k_is)
    (case k24 => k_is)
    (case a25 => k_is)
    (case l25 => k_is)
    (case cc25 => k_is)
    (case k25 => k_is)
    (case a26 => k_is)
    (case l26 => k_is)
    (case cc26 => k_is)
    (case k26 => k_is)
    (case a27 => k_is)
    (case l27 => k_is)
    (case cc27 => k_is)
    (case k27 => k_is)
    (case a28 => k_is)
    (case l28 => k_is)
    (case cc28 => k_is)
    (case k28 => k_is)
    (case a29 => k_is)
    (case l29 => k_is)
    (case cc29 => k_is)
    (case k29 => k_is)
    (case a30 => k_is)
    (case l30 => k_is)
    (case cc30 => k_is)
    (case k30 => k_is)
    (case a31 => k_is)
    (case l31 => k_is)
    (case cc31 => k_is)
    (case k31 => k_is)
    (case a32 => k_is)
    (case l32 => k_is)
    (case cc32 => k_is)
    (case k32 => k_is)
    (case a33 => k_is)
    (case l33 => k_is)
    (case cc33 => k_is)
    (case k33 => k_is)
    (case a34 => k_is)
    (case l34 => k_is)
    (case cc34 => k_is)
    (case k34 => k_is)
    (case a35 => k_is)
    (case l35 => k_is)
    (case cc35 => k_is)
    (case k35 => k_is)
    (case z_len => k_is)
    (case z_int => k_is)
    (case z_str => k_is)
    (case z_bool => k_is)
    (case z_list => k_is)
    (case z_tuple => k_is)
    (case z_range => k_is)
    (case z_isinstance => k_is)
    (case z_ord => k_is)
    (case z_all => k_is)
    (case v_FACTOR => k_is)
    (case v_DIVISOR => k_is)
    (case v_DIGEST_LENGTH => k_is)
    (case v_DIGITS => k_is)
    (case v_MOST_NAME => k_is)
    (case v_BARRED_CODE => k_is)
    (case v_MOST_DIGITS => k_is)
    (case v_MOST_DEPTH => k_is)
    (case v_MOST_TEXT => k_is)
    (case v_MOST_SEALS => k_is)
    (case v_MOST_MARK => k_is)
    (case g_BadKey => k_is)
    (case e_BadKey => first | k_is | kernel_rfl | rfl)
    (case ke_BadKey => k_is)
    (case be_BadKey => first | k_is | kernel_rfl | rfl)
    (case te_BadKey => first | k_is | kernel_rfl | rfl)
    (case ie_BadKey => first | k_is | kernel_rfl | rfl)
    (case se_BadKey => first | k_is | kernel_rfl | rfl)
    (case g_BadText => k_is)
    (case e_BadText => first | k_is | kernel_rfl | rfl)
    (case ke_BadText => k_is)
    (case be_BadText => first | k_is | kernel_rfl | rfl)
    (case te_BadText => first | k_is | kernel_rfl | rfl)
    (case ie_BadText => first | k_is | kernel_rfl | rfl)
    (case se_BadText => first | k_is | kernel_rfl | rfl)
    (case z_sorted => k_is)
    (case z_set => k_is)
    (case z_sum => k_is)
    (case t1_3 => k_is)
    (case u1_3 => rfl)
    (case n1_3 => first | kernel_rfl | rfl)
    (case r1_3 => rfl)
    (case t1_4 => k_is)
    (case u1_4 => rfl)
    (case n1_4 => first | kernel_rfl | rfl)
    (case r1_4 => rfl)
    (case t1_19 => k_is)
    (case u1_19 => rfl)
    (case n1_19 => first | kernel_rfl | rfl)
    (case r1_19 => rfl)
    (case t1_20 => k_is)
    (case u1_20 => rfl)
    (case n1_20 => first | kernel_rfl | rfl)
    (case r1_20 => rfl)
    (case t1_18 => k_is)
    (case u1_18 => rfl)
    (case n1_18 => first | kernel_rfl | rfl)
    (case r1_18 => rfl)
--END
