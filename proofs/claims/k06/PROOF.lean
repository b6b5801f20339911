import PyProof.Rows.All
import Wide.All
import OpenK.AllK
import Wide.FinOn
import HandS.ForMost
import HandS.ForExc
import HandS.Wide
import HandS.IsInst
import HandS.AnyAll
import HandS.EndTab
import HandS.TupAny
import HandS.TupMul
import HandS.FStr
import HandS.StrMore
import HandS.WideBits
import KE.KxField
import HandS.Walk
import HandS.Replace
import HandS.Style
import HandS.Codes
import KE.KRevSl
import KE.KUnpackStar
import HandS.Zip
import PySem.Challenge.RW_sealchart_k06_matches_by_a_table
set_option Elab.async false
set_option linter.all false
set_option maxRecDepth 100000
set_option maxHeartbeats 2000000
namespace SC
open PySem L2

/-- the built-in names are the built-ins -/
structure Blt (mg : Str → Option Value) : Prop where
  len : mg "len" = none
  int : mg "int" = none
  str : mg "str" = none
  bool : mg "bool" = none
  list : mg "list" = none
  tuple : mg "tuple" = none
  range : mg "range" = none
  isinstance : mg "isinstance" = none
  ord : mg "ord" = none
  all : mg "all" = none
section
variable {X : Cx} {p p2 pos : Pos} {e : Expr} {es : List Expr} {t : TA}
theorem Blt.len_s (B : Blt X.mg) (ha : PA X (e :: es) t) (hg : Gl X "len" := by rfl) (he : starEach (e :: es) X.env = (false, eval e X.env) :: starEach es X.env := by rfl) (hpl : (backTo pos (starEach es X.env)).any (·.1) = false := by rfl) :
    PE X (.Call (.Name "len" p) (e :: es) [] pos) (tCB (fun xs H Q => ∃ z, xs = [.str z] ∧ z.length ≤ sizeLine ∧ Q (.int z.length) H) t) := pe_callB call_len_str hg B.len PySem.boot_len ha (he := he) (hpl := hpl)
theorem Blt.len_q (B : Blt X.mg) (ha : PA X (e :: es) t) (hg : Gl X "len" := by rfl) (he : starEach (e :: es) X.env = (false, eval e X.env) :: starEach es X.env := by rfl) (hpl : (backTo pos (starEach es X.env)).any (·.1) = false := by rfl) :
    PE X (.Call (.Name "len" p) (e :: es) [] pos) (tCB (fun xs H Q => ∃ p ys, xs = [.ref p] ∧ (SqL X.K H p ys ∨ SqT X.K H p ys) ∧ Q (.int ys.length) H) t) := pe_callB call_len_seq hg B.len PySem.boot_len ha (he := he) (hpl := hpl)
theorem call_intI : CallR X (.type "int") (fun xs H Q => ∃ i, xs = [.int i] ∧ Q (.int i) H) := fun pins s σ H xs us Q I r h => call_int1 pins s σ H xs us Q I r (.inl h)
theorem Blt.int_i (B : Blt X.mg) (ha : PA X (e :: es) t) (hg : Gl X "int" := by rfl) (he : starEach (e :: es) X.env = (false, eval e X.env) :: starEach es X.env := by rfl) (hpl : (backTo pos (starEach es X.env)).any (·.1) = false := by rfl) :
    PE X (.Call (.Name "int" p) (e :: es) [] pos) (tCB (fun xs H Q => ∃ i, xs = [.int i] ∧ Q (.int i) H) t) :=
  pe_callTy call_intI hg B.int (by decide +kernel) ha (he := he) (hpl := hpl)
theorem Blt.int_s (B : Blt X.mg) (ha : PA X (e :: es) t) (hg : Gl X "int" := by rfl) (he : starEach (e :: es) X.env = (false, eval e X.env) :: starEach es X.env := by rfl) (hpl : (backTo pos (starEach es X.env)).any (·.1) = false := by rfl) :
    PE X (.Call (.Name "int" p) (e :: es) [] pos) (tCB (fun xs H Q => ∃ a n, xs = [.str a] ∧ PySem.intText? a = some n ∧ a.length ≤ 640 ∧ Q (.int n) H) t) :=
  pe_callTy call_int_str hg B.int (by decide +kernel) ha (he := he) (hpl := hpl)
theorem Blt.str_i (B : Blt X.mg) (ha : PA X (e :: es) t) (hg : Gl X "str" := by rfl) (he : starEach (e :: es) X.env = (false, eval e X.env) :: starEach es X.env := by rfl) (hpl : (backTo pos (starEach es X.env)).any (·.1) = false := by rfl) :
    PE X (.Call (.Name "str" p) (e :: es) [] pos) (tCB (fun xs H Q => ∃ i, xs = [.int i] ∧ i.natAbs.log2 < 1920 ∧ Q (.str (toString i)) H) t) :=
  pe_callTy call_str_int hg B.str (by decide +kernel) ha (he := he) (hpl := hpl)
theorem Blt.isi (B : Blt X.mg) (ha : PA X (e :: es) t) (hg : Gl X "isinstance" := by rfl) (he : starEach (e :: es) X.env = (false, eval e X.env) :: starEach es X.env := by rfl) (hpl : (backTo pos (starEach es X.env)).any (·.1) = false := by rfl) :
    PE X (.Call (.Name "isinstance" p) (e :: es) [] pos) (tCB (rIsi X.K) t) := pe_callB call_isi hg B.isinstance (by decide +kernel) ha (he := he) (hpl := hpl)
theorem Blt.ord_ (B : Blt X.mg) (ha : PA X (e :: es) t) (hg : Gl X "ord" := by rfl) (he : starEach (e :: es) X.env = (false, eval e X.env) :: starEach es X.env := by rfl) (hpl : (backTo pos (starEach es X.env)).any (·.1) = false := by rfl) :
    PE X (.Call (.Name "ord" p) (e :: es) [] pos) (tCB (fun xs H Q => ∃ x, xs = [.str x] ∧ x.length = 1 ∧ Q (.int (x.cps.getD 0 0 : Nat)) H) t) :=
  pe_callB call_ord hg B.ord (by decide +kernel) ha (he := he) (hpl := hpl)
theorem Blt.tuple_l (B : Blt X.mg) (ha : PA X (e :: es) t) (hg : Gl X "tuple" := by rfl) (he : starEach (e :: es) X.env = (false, eval e X.env) :: starEach es X.env := by rfl) (hpl : (backTo pos (starEach es X.env)).any (·.1) = false := by rfl) :
    PE X (.Call (.Name "tuple" p) (e :: es) [] pos) (tCB (fun xs H Q => ∃ p ys, xs = [.ref p] ∧ ((SqL X.K H p ys ∧ ∀ l, H l = none → Q (.ref l) (upd H l (.tup ys))) ∨ (SqT X.K H p ys ∧ Q (.ref p) H))) t) :=
  pe_callTy call_tuple_of hg B.tuple (by decide +kernel) ha (he := he) (hpl := hpl)
theorem Blt.list_q (B : Blt X.mg) (ha : PA X (e :: es) t) (hg : Gl X "list" := by rfl) (he : starEach (e :: es) X.env = (false, eval e X.env) :: starEach es X.env := by rfl) (hpl : (backTo pos (starEach es X.env)).any (·.1) = false := by rfl) :
    PE X (.Call (.Name "list" p) (e :: es) [] pos) (tCB (fun xs H Q => ∃ p ys, xs = [.ref p] ∧ (SqL X.K H p ys ∨ SqT X.K H p ys) ∧ ∀ l, H l = none → Q (.ref l) (upd H l (.lst ys))) t) :=
  pe_callTy call_list_of hg B.list (by decide +kernel) ha (he := he) (hpl := hpl)
theorem Blt.v_int (B : Blt X.mg) (hg : Gl X "int" := by rfl) : PE X (.Name "int" p) (tC (.ty "int")) := pe_bltn hg B.int (by decide +kernel) rfl
theorem Blt.v_str (B : Blt X.mg) (hg : Gl X "str" := by rfl) : PE X (.Name "str" p) (tC (.ty "str")) := pe_bltn hg B.str (by decide +kernel) rfl
theorem Blt.v_bool (B : Blt X.mg) (hg : Gl X "bool" := by rfl) : PE X (.Name "bool" p) (tC (.ty "bool")) := pe_bltn hg B.bool (by decide +kernel) rfl
theorem Blt.v_list (B : Blt X.mg) (hg : Gl X "list" := by rfl) : PE X (.Name "list" p) (tC (.ty "list")) := pe_bltn hg B.list (by decide +kernel) rfl
theorem Blt.v_tuple (B : Blt X.mg) (hg : Gl X "tuple" := by rfl) : PE X (.Name "tuple" p) (tC (.ty "tuple")) := pe_bltn hg B.tuple (by decide +kernel) rfl
theorem Blt.range1 (B : Blt X.mg) {tg : Expr} (ha : PA X [e] t) (hg : Gl X "range" := by rfl) (hs : starEach [e] X.env = [(false, eval e X.env)] := by rfl) : PI X tg (.Call (.Name "range" p) [e] [] pos) (iRng1 t) := pi_range1 hg B.range ha hs
end

section
variable {X : Cx}
/-- the same rules for what is tracked: the item list is told by the heap -/
theorem ix_lM : IxR X (fun x y H Q => ∃ p xs i v, x = .ref p ∧ H p = some (.lst xs) ∧ y = .int i ∧ atI xs i = some v ∧ Q v H) := by
  intro value slice pins s σ H x y v u Q I rx ry h hs
  obtain ⟨p, xs, i, z, e1, hp, e2, he, q⟩ := h
  exact ix_list value slice pins s σ H x y v u Q I rx ry ⟨p, xs, i, z, e1, e2, SqL.of hp, he, q⟩ hs
theorem ix_tM : IxR X (fun x y H Q => ∃ p xs i v, x = .ref p ∧ H p = some (.tup xs) ∧ y = .int i ∧ atI xs i = some v ∧ Q v H) := by
  intro value slice pins s σ H x y v u Q I rx ry h hs
  obtain ⟨p, xs, i, z, e1, hp, e2, he, q⟩ := h
  exact ix_tup value slice pins s σ H x y v u Q I rx ry ⟨p, xs, i, z, e1, e2, SqT.of hp, he, q⟩ hs
end
/-- a def of the text that keeps its promise, by its name -/
structure Cal (P : Program) (w : World) (K : PySem.W.Frag) (mg : Str → Option Value) (base : Heap) (CX : CXT) (k : Nat) (x : Str) (sp : Sp) : Prop where
  ex : ∃ f fd ps, FnOk P w K mg base CX k f fd ps sp ∧ mg x = some (.ref f) ∧ PySem.W.keepIn K (.ref f) = true ∧ Binds K fd ps []
section
variable {P : Program} {w : World} {K : PySem.W.Frag} {mg : Str → Option Value} {base : Heap} {CX : CXT} {x qual : Str} {sp : Sp}
theorem Cal.mono {j k : Nat} (c : Cal P w K mg base CX j x sp) (h : j ≤ k) : Cal P w K mg base CX k x sp :=
  let ⟨f, fd, ps, F, m, kp, b⟩ := c.ex
  ⟨f, fd, ps, F.mono h, m, kp, b⟩
theorem Cal.imp {k : Nat} {sp' : Sp} (c : Cal P w K mg base CX k x sp) (h : ∀ vs H Q E, sp' vs H Q E → sp vs H Q E) : Cal P w K mg base CX k x sp' :=
  let ⟨f, fd, ps, F, m, kp, b⟩ := c.ex
  ⟨f, fd, ps, F.imp h, m, kp, b⟩
end
section
variable {X : Cx} {x : Str} {p pos : Pos} {e : Expr} {es : List Expr} {t : TA} {sp : Sp} {j k : Nat} {CX : CXT} {E : XK}
/-- its call, what it raises passes as hx says -/
theorem Cal.pex (c : Cal X.prog X.w X.K X.mg X.base CX j x sp) (hr : Room k X.A) (hx : Passes CX X E) (ha : PA X (e :: es) t) (hjk : j ≤ k := by first | decide | omega) (hg : Gl X x := by rfl) (hdb : (x == ("__debug__" : Str)) = false := by decide)
    (he : starEach (e :: es) X.env = (false, eval e X.env) :: starEach es X.env := by rfl) (hpl : (backTo pos (starEach es X.env)).any (·.1) = false := by rfl) :
    PE X (.Call (.Name x p) (e :: es) [] pos) (tCall sp [] E t) :=
  let ⟨_, _, _, F, m, kp, b⟩ := c.ex
  pe_call F (hr.mono hjk) hg m kp b .nil hx ha hdb he hpl
theorem Cal.pe (c : Cal X.prog X.w X.K X.mg X.base CX0 j x sp) (hr : Room k X.A) (ha : PA X (e :: es) t) (hjk : j ≤ k := by first | decide | omega) (hg : Gl X x := by rfl) (hdb : (x == ("__debug__" : Str)) = false := by decide)
    (he : starEach (e :: es) X.env = (false, eval e X.env) :: starEach es X.env := by rfl) (hpl : (backTo pos (starEach es X.env)).any (·.1) = false := by rfl) :
    PE X (.Call (.Name x p) (e :: es) [] pos) (tCall sp [] E0 t) := c.pex hr pass0 ha hjk hg hdb he hpl
theorem Cal.pe0 (c : Cal X.prog X.w X.K X.mg X.base CX0 j x sp) (hr : Room k X.A) (hjk : j ≤ k := by first | decide | omega) (hg : Gl X x := by rfl) (hdb : (x == ("__debug__" : Str)) = false := by decide) :
    PE X (.Call (.Name x p) [] [] pos) (tCall sp [] E0 tNil) :=
  let ⟨_, _, _, F, m, kp, b⟩ := c.ex
  pe_call0 F (hr.mono hjk) hg m kp b .nil pass0 hdb
/-- of a def that may raise, where it does not -/
theorem Cal.peL (c : Cal X.prog X.w X.K X.mg X.base (L2.CX X.prog X.w) j x sp) (hr : Room k X.A) (ha : PA X (e :: es) t) (hjk : j ≤ k := by first | decide | omega) (hg : Gl X x := by rfl) (hdb : (x == ("__debug__" : Str)) = false := by decide)
    (he : starEach (e :: es) X.env = (false, eval e X.env) :: starEach es X.env := by rfl) (hpl : (backTo pos (starEach es X.env)).any (·.1) = false := by rfl) :
    PE X (.Call (.Name x p) (e :: es) [] pos) (tCall sp [] E0 t) := c.pex hr passL ha hjk hg hdb he hpl
end

/-- what was tracked outside S is as it was; tuples stand -/
structure Kp (S : List Addr) (H H' : Hp) : Prop where
  keep : ∀ b o, b ∉ S → H b = some o → H' b = some o
  tup : ∀ b xs, H b = some (.tup xs) → H' b = some (.tup xs)
theorem Kp.refl (S : List Addr) (H : Hp) : Kp S H H := ⟨fun _ _ _ h => h, fun _ _ h => h⟩
theorem Kp.trans {S : List Addr} {H H1 H2 : Hp} (a : Kp S H H1) (b : Kp S H1 H2) : Kp S H H2 := ⟨fun c o n h => b.keep c o n (a.keep c o n h), fun c xs h => b.tup c xs (a.tup c xs h)⟩
theorem Kp.new {S : List Addr} {H : Hp} {p : Addr} (h : H p = none) (o : HO) : Kp S H (upd H p o) :=
  ⟨fun b u _ q => by rw [upd_ne (ne_of_none q h)]; exact q, fun b u q => by rw [upd_ne (ne_of_none q h)]; exact q⟩
theorem Kp.lst {S : List Addr} {H : Hp} {p : Addr} {xs ys : List V} (h : H p = some (.lst xs)) (m : p ∈ S) : Kp S H (upd H p (.lst ys)) :=
  ⟨fun b u n q => by rw [upd_ne (fun z => n (by rw [z]; exact m))]; exact q, fun b u q => by rw [upd_ne (ne_of q h (by intro z; cases z))]; exact q⟩
theorem Kp.mono {S S' : List Addr} {H H' : Hp} (a : Kp S H H') (h : ∀ b ∈ S, b ∈ S') : Kp S' H H' := ⟨fun b o n q => a.keep b o (fun z => n (h b z)) q, a.tup⟩
/-- what was not there may change -/
theorem Kp.drop {S : List Addr} {H H' : Hp} {p : Addr} (h : H p = none) (a : Kp (p :: S) H H') : Kp S H H' :=
  ⟨fun b o n q => a.keep b o (fun z => by
    rcases List.mem_cons.mp z with z | z
    · rw [z, h] at q; cases q
    · exact n z) q, a.tup⟩
theorem Kp.upd {S : List Addr} {H H' : Hp} {p : Addr} {xs ys : List V} (a : Kp S H H') (h : H p = none) (e : H' p = some (.lst xs)) : Kp S H (upd H' p (.lst ys)) :=
  Kp.drop h ((a.mono fun b hb => List.mem_cons_of_mem _ hb).trans (Kp.lst e List.mem_cons_self))
theorem Kp.seqL {K : PySem.W.Frag} {S : List Addr} {H H' : Hp} {a : Addr} {xs : List V} (e : Kp S H H') (n : a ∉ S) (h : SqL K H a xs) : SqL K H' a xs := by
  rcases h with (h | ⟨o, h⟩) | h
  · exact .inl (.inl (e.keep _ _ n h))
  · exact .inl (.inr ⟨o, e.keep _ _ n h⟩)
  · exact .inr h
theorem Kp.tab {P : Addr} {S : List Addr} {H H' : Hp} (hG : GxR.TabG H P) (t : GxR.Tabbed P H H') (m : P ∈ S) : Kp S H H' := by
  obtain ⟨ps, e, _⟩ := hG
  refine ⟨fun b o n q => ?_, fun b xs q => ?_⟩
  · rw [t.2 b (fun z => n (by rw [z]; exact m))]; exact q
  · rw [t.2 b (ne_of q e (by intro z; cases z))]; exact q
/-- a stream of the law's: a list of two ints -/
def Strm (H : Hp) (s : Addr) : Prop := ∃ a b : Int, H s = some (.lst [.int a, .int b])
theorem Strm.mk {H : Hp} {s : Addr} {a b : Int} : Strm (upd H s (.lst [.int a, .int b])) s := ⟨a, b, upd_same⟩
theorem Strm.nT {H : Hp} {s P : Addr} (h : Strm H s) (g : GxR.TabG H P) : s ≠ P := by
  obtain ⟨a, b, e⟩ := h
  obtain ⟨ps, q, _⟩ := g
  exact ne_of e q (by intro z; cases z)
theorem Strm.kp {H H' : Hp} {s : Addr} {S : List Addr} (h : Strm H s) (k : Kp S H H') (n : s ∉ S) : Strm H' s := let ⟨a, b, e⟩ := h; ⟨a, b, k.keep _ _ n e⟩
theorem tabG_kp {H H' : Hp} {P : Addr} {S : List Addr} (h : GxR.TabG H P) (k : Kp S H H') (n : P ∉ S) : GxR.TabG H' P := let ⟨a, e, q⟩ := h; ⟨a, k.keep _ _ n e, q⟩

/-- the built-in type of a value, by the tracked heap -/
def tyN (H : Hp) : V → Option String
  | .non => some "NoneType" | .bl _ => some "bool" | .int _ => some "int" | .str _ => some "str"
  | .ref p => match H p with
    | some (.lst _) => some "list"
    | some (.tup _) => some "tuple"
    | some (.dK _) => some "dict"
    | _ => none
  | _ => none
theorem tyN_ok {K : PySem.W.Frag} {H : Hp} {v : V} {t : String} (h : tyN H v = some t) : TyX K H v (.type t) := by
  cases v with
  | non => cases h; exact .base .non
  | bl b => cases h; exact .base (.bl b)
  | int i => cases h; exact .base (.int i)
  | str z => cases h; exact .base (.str z)
  | ref p =>
    unfold tyN at h
    simp only at h
    split at h
    · rename_i xs e; cases h; exact .base (.lst e)
    · rename_i xs e; cases h; exact .base (.tup e)
    · rename_i xs e; cases h; exact .base (.dK e)
    · cases h
  | _ => cases h
theorem tyN_lst {H : Hp} {p : Addr} {xs : List V} (h : H p = some (.lst xs)) : tyN H (.ref p) = some "list" := by unfold tyN; simp only [h]
theorem tyN_tup {H : Hp} {p : Addr} {xs : List V} (h : H p = some (.tup xs)) : tyN H (.ref p) = some "tuple" := by unfold tyN; simp only [h]
theorem tyN_dK {H : Hp} {p : Addr} {xs : List (Key × V)} (h : H p = some (.dK xs)) : tyN H (.ref p) = some "dict" := by unfold tyN; simp only [h]
/-- whether the first type is one of the second -/
def isaB (t c : String) : Bool := t == c || (t == "bool" && c == "int")
theorem kit_isaB {t c : String} (ht : t ∈ ["NoneType", "bool", "int", "str", "list", "tuple", "dict"]) (hc : c ∈ ["bool", "int", "str", "list", "tuple"]) : kitB t c = some (isaB t c) := by
  simp only [List.mem_cons, List.not_mem_nil, or_false] at ht hc
  rcases ht with rfl | rfl | rfl | rfl | rfl | rfl | rfl <;> rcases hc with rfl | rfl | rfl | rfl | rfl <;> decide +kernel
theorem tyN_in {H : Hp} {v : V} {t : String} (h : tyN H v = some t) : t ∈ ["NoneType", "bool", "int", "str", "list", "tuple", "dict"] := by
  unfold tyN at h
  split at h
  · cases h; decide
  · cases h; decide
  · cases h; decide
  · cases h; decide
  · split at h
    · cases h; decide
    · cases h; decide
    · cases h; decide
    · cases h
  · cases h
section
variable {X : Cx} {p pos : Pos} {e : Expr} {es : List Expr} {t : TA}
/-- len of a tracked tuple, of a tracked list -/
theorem Blt.len_t (B : Blt X.mg) (ha : PA X (e :: es) t) (hg : Gl X "len" := by rfl) (he : starEach (e :: es) X.env = (false, eval e X.env) :: starEach es X.env := by rfl) (hpl : (backTo pos (starEach es X.env)).any (·.1) = false := by rfl) :
    PE X (.Call (.Name "len" p) (e :: es) [] pos) (tCB (fun xs H Q => ∃ p ys, xs = [.ref p] ∧ H p = some (.tup ys) ∧ Q (.int ys.length) H) t) :=
  pe_callB (fun pins s σ H xs us Q I r ⟨p, ys, e1, e2, q⟩ => call_len_seq pins s σ H xs us Q I r ⟨p, ys, e1, .inr (SqT.of e2), q⟩) hg B.len PySem.boot_len ha (he := he) (hpl := hpl)
theorem Blt.len_l (B : Blt X.mg) (ha : PA X (e :: es) t) (hg : Gl X "len" := by rfl) (he : starEach (e :: es) X.env = (false, eval e X.env) :: starEach es X.env := by rfl) (hpl : (backTo pos (starEach es X.env)).any (·.1) = false := by rfl) :
    PE X (.Call (.Name "len" p) (e :: es) [] pos) (tCB (fun xs H Q => ∃ p ys, xs = [.ref p] ∧ H p = some (.lst ys) ∧ Q (.int ys.length) H) t) :=
  pe_callB (fun pins s σ H xs us Q I r ⟨p, ys, e1, e2, q⟩ => call_len_seq pins s σ H xs us Q I r ⟨p, ys, e1, .inl (SqL.of e2), q⟩) hg B.len PySem.boot_len ha (he := he) (hpl := hpl)
end
section
variable {X : Cx} {p p2 pos : Pos} {e : Expr} {te : TE} {c : Str} {cs : String}
/-- a reading that may be weakened -/
def tMono (te : TE) : TE := fun σ H Q => ∃ Q0 : VK, te σ H Q0 ∧ ∀ x H1, Q0 x H1 → Q x H1
theorem pe_mono (he : PE X e te) : PE X e (tMono te) := ⟨fun pins s σ H Q I ⟨Q0, q, m⟩ => thn (he.run pins s σ H Q0 I q) fun u s1 ⟨v, H1, J, r, z⟩ => ⟨v, H1, J, r, m v H1 z⟩⟩
/-- isinstance(e, T), T a built-in type's name: told by the tracked heap -/
def tIsT (c : String) (te : TE) : TE := fun σ H Q => te σ H fun x H1 => ∃ t, tyN H1 x = some t ∧ Q (.bl (isaB t c)) H1
theorem Blt.isT (B : Blt X.mg) (he : PE X e te) (hc : PE X (.Name c p2) (tC (.ty cs))) (hm : cs ∈ ["bool", "int", "str", "list", "tuple"] := by decide) (hg : Gl X "isinstance" := by rfl) (hs : starEach [e, .Name c p2] X.env = (false, eval e X.env) :: starEach [.Name c p2] X.env := by rfl)
    (hs2 : starEach [.Name c p2] X.env = (false, eval (.Name c p2) X.env) :: starEach [] X.env := by rfl) (hpl : (backTo pos (starEach [.Name c p2] X.env)).any (·.1) = false := by rfl) :
    PE X (.Call (.Name "isinstance" p) [e, .Name c p2] [] pos) (tIsT cs te) := by
  have h := Blt.isi (p := p) (pos := pos) B (pa_cons (pe_mono he) (pa_cons hc pa_nil hs2) hs) hg hs hpl
  exact ⟨fun pins s σ H Q I q => h.run pins s σ H Q I ⟨_, q, fun x H1 ⟨t, h1, h2⟩ => ⟨x, .ty cs, .type t, .type cs, isaB t cs, rfl, .ty cs, tyN_ok h1, kit_ty (kit_isaB (tyN_in h1) hm), h2⟩⟩⟩
end

theorem tyN_ref {H : Hp} {p : Addr} {t : String} (h : tyN H (.ref p) = some t) : t = "list" ∨ t = "tuple" ∨ t = "dict" := by
  unfold tyN at h
  simp only at h
  split at h
  · cases h; exact .inl rfl
  · cases h; exact .inr (.inl rfl)
  · cases h; exact .inr (.inr rfl)
  · cases h
theorem isa_str {H : Hp} {v : V} {t : String} (h : tyN H v = some t) (q : isaB t "str" = true) : ∃ z, v = .str z := by
  cases v with
  | str z => exact ⟨z, rfl⟩
  | ref p => rcases tyN_ref h with rfl | rfl | rfl <;> exact absurd q (by decide)
  | _ => cases h <;> exact absurd q (by decide)
theorem isa_int {H : Hp} {v : V} {t : String} (h : tyN H v = some t) (q : isaB t "int" = true) : (∃ z, v = .int z) ∨ ∃ b, v = .bl b := by
  cases v with
  | int z => exact .inl ⟨z, rfl⟩
  | bl b => exact .inr ⟨b, rfl⟩
  | ref p => rcases tyN_ref h with rfl | rfl | rfl <;> exact absurd q (by decide)
  | _ => cases h <;> exact absurd q (by decide)
theorem isa_bool {H : Hp} {v : V} {t : String} (h : tyN H v = some t) (q : isaB t "bool" = true) : ∃ b, v = .bl b := by
  cases v with
  | bl b => exact ⟨b, rfl⟩
  | ref p => rcases tyN_ref h with rfl | rfl | rfl <;> exact absurd q (by decide)
  | _ => cases h <;> exact absurd q (by decide)
theorem isa_tuple {H : Hp} {v : V} {t : String} (h : tyN H v = some t) (q : isaB t "tuple" = true) : ∃ p xs, v = .ref p ∧ H p = some (.tup xs) := by
  cases v with
  | ref p =>
    unfold tyN at h
    simp only at h
    split at h
    · cases h; exact absurd q (by decide)
    · rename_i xs e; exact ⟨p, xs, rfl, e⟩
    · cases h; exact absurd q (by decide)
    · cases h
  | _ => cases h <;> exact absurd q (by decide)
theorem isaB_all : isaB "NoneType" "bool" = false ∧ isaB "NoneType" "int" = false ∧ isaB "NoneType" "str" = false ∧ isaB "NoneType" "list" = false ∧ isaB "NoneType" "tuple" = false ∧
  isaB "bool" "bool" = true ∧ isaB "bool" "int" = true ∧ isaB "bool" "str" = false ∧ isaB "bool" "list" = false ∧ isaB "bool" "tuple" = false ∧
  isaB "int" "bool" = false ∧ isaB "int" "int" = true ∧ isaB "int" "str" = false ∧ isaB "int" "list" = false ∧ isaB "int" "tuple" = false ∧
  isaB "str" "bool" = false ∧ isaB "str" "int" = false ∧ isaB "str" "str" = true ∧ isaB "str" "list" = false ∧ isaB "str" "tuple" = false ∧
  isaB "list" "bool" = false ∧ isaB "list" "int" = false ∧ isaB "list" "str" = false ∧ isaB "list" "list" = true ∧ isaB "list" "tuple" = false ∧
  isaB "tuple" "bool" = false ∧ isaB "tuple" "int" = false ∧ isaB "tuple" "str" = false ∧ isaB "tuple" "list" = false ∧ isaB "tuple" "tuple" = true ∧
  isaB "dict" "bool" = false ∧ isaB "dict" "int" = false ∧ isaB "dict" "str" = false ∧ isaB "dict" "list" = false ∧ isaB "dict" "tuple" = false := by decide
theorem tyN_non {H : Hp} : tyN H .non = some "NoneType" := rfl
theorem tyN_bl {H : Hp} {b : Bool} : tyN H (.bl b) = some "bool" := rfl
theorem tyN_int {H : Hp} {b : Int} : tyN H (.int b) = some "int" := rfl
theorem tyN_str {H : Hp} {b : Str} : tyN H (.str b) = some "str" := rfl
theorem ixN_20 : ixN 2 0 = some 0 := rfl
theorem ixN_21 : ixN 2 1 = some 1 := rfl
theorem ixN_10 : ixN 1 0 = some 0 := rfl
theorem at0 {α : Type} {a : α} {l : List α} : atI (a :: l) 0 = some a := atI_nat (j := 0) rfl
theorem at1 {α : Type} {a b : α} {l : List α} : atI (a :: b :: l) 1 = some b := atI_nat (j := 1) rfl
theorem if_dec {p : Prop} [Decidable p] {A B : Prop} (h1 : p → A) (h2 : ¬ p → B) : if decide p = true then A else B := by
  by_cases c : p
  · rw [decide_eq_true c]; exact iteT (h1 c)
  · rw [decide_eq_false c]; exact iteF (h2 c)
theorem gsOf {env : Env} {scope : Scope} {x : Str} (h : (match scope.kind with | .function => true | _ => false) && !scope.isCoroutine && (scope.names.all fun y => match y.2 with | .cell => false | .free => false | _ => true) && (match scope.names.lookup (".0" : Str) with | some .local => true | _ => false) = true)
    (hx : (match scope.names.lookup x with | some .local => true | _ => false) = true) : GxR.GenS env scope x := by
  simp only [Bool.and_eq_true, List.all_eq_true] at h
  obtain ⟨⟨⟨h1, h2⟩, h3⟩, h4⟩ := h
  refine ⟨?_, by simpa using h2, fun y hy e => ?_, ?_, ?_, fun y hy e => ?_⟩
  · split at h1
    · assumption
    · cases h1
  · have := h3 y hy; rw [e] at this; cases this
  · split at h4
    · assumption
    · cases h4
  · split at hx
    · assumption
    · cases hx
  · have := h3 y hy; rw [e] at this; cases this
/-- the empty text joins -/
theorem joinL_nil : ∀ l : List (List Nat), TL.joinL [] l = l.flatten
  | [] => rfl
  | [p] => by simp [TL.joinL]
  | p :: q :: r => by
    show p ++ ([] ++ TL.joinL [] (q :: r)) = _
    rw [joinL_nil (q :: r)]
    simp
theorem tl_joinE (ys : List Str) : TL.tl (Txt.join (Str.ofString "") ys) = (ys.map TL.tl).flatten := by
  rw [TL.join_eq, TL.tl_join]
  exact joinL_nil _
/-- one-sign texts -/
def sgs (cs : List Nat) : List Str := cs.map fun c => (⟨#[c]⟩ : Str)
theorem tl_sgs (cs : List Nat) : TL.tl (Txt.join (Str.ofString "") (sgs cs)) = cs := by
  rw [tl_joinE]
  unfold sgs
  rw [List.map_map]
  induction cs with
  | nil => rfl
  | cons c r ih => rw [List.map_cons, List.flatten_cons, ih]; rfl
theorem sgs_sum (cs : List Nat) : ((sgs cs).map (·.length)).sum = cs.length := by
  unfold sgs
  rw [List.map_map]
  induction cs with
  | nil => rfl
  | cons c r ih => rw [List.map_cons, List.sum_cons, ih]; show 1 + r.length = r.length + 1; omega
theorem sgs_len (cs : List Nat) : (sgs cs).length = cs.length := List.length_map _
theorem sgs_add (cs : List Nat) (c : Nat) : (sgs cs).map V.str ++ [.str ⟨#[c]⟩] = (sgs (cs ++ [c])).map V.str := by unfold sgs; simp
end SC

/-! all(test for mark in text), the test one that reads built-ins and globals too -/
namespace SC
open PySem PySem.Spec PyProof.Rows L2
open GxR (TabB TabG Tabbed Ready GenS keeps_tok trF trF_some all_signs inv_tab sh_eta)
/-- what the element may lean on: the module's names, the built-ins -/
structure Names2 (h : Heap) (mg : Str → Option Value) : Prop where
  glob : h.Ns mainGlobals mg
  blt : ∃ mb, h.Ns builtinsNs mb ∧ ∀ x : Str, x ≠ "__name__" → mb x = bootBuiltins x
def EltX (prog : Program) (w : World) (mg : Str → Option Value) (scope : Scope) (x : Str) (elt : Expr) (pb : Nat → Bool) : Prop :=
  ∀ (ce : Env) (A' : Around) (E' : Value → Shared → Prop) (c : Nat) (t : Tok) (s2 : Shared) (m2 : Str → Option Value), ce.scope = scope → ce.globals = mainGlobals → ce.builtins = builtinsNs → Names2 s2.heap mg →
    s2.heap.Ns ce.locals m2 → m2 x = some (.str ⟨#[c]⟩ t) → wpAny (model prog w) A' (eval elt ce) (fun y s3 => y = .bool (pb c) ∧ Keeps s2 s3) E' s2
section
variable {X : Cx} {pins : List (Addr × Obj)} {σ : L2.St} {H : Hp} {s : Shared}
theorem gen_mk {c P : Addr} {elt iter : Expr} {x : Str} {px gpos : Pos} {scope : Scope} {pb : Nat → Bool} {te : TE} {k : Nat} {Q' : Value → Shared → Prop} {R : Str → Hp → Prop}
    (hr : Room k X.A) (TB : TabB X.base X.mg c P) (hcode : X.env.code = .ref c) (S : GenS X.env scope x) (hi : PE X iter te) (hel : EltX X.prog X.w X.mg scope x elt pb)
    (hs : ∀ v, genFold iter X.env v = pure v) (I : Inv X pins σ H s) (h : te σ H fun v H1 => ∃ a : Str, v = .str a ∧ TabG H1 P ∧ R a H1)
    (hQ : ∀ a H1 g s5, R a H1 → Ready X pins σ H1 P a pb g s5 → Q' (.ref g) s5) :
    wpAny (model X.prog X.w) X.A (eval (.GeneratorExp elt [⟨.Name x px, iter, [], 0⟩] scope gpos) X.env) Q' X.xe s := by
  refine wpAny_GeneratorExp_walksQ hr.hd S.co (closure_ok S.free) S.cell S.dot S.loc S.kind (by have := hr.dp; omega) ?_ hs
  refine thn (hi.run pins s σ H _ I h) fun xv t1 ⟨v, H1, J, rv, a, ev, ⟨ps, hP, htr⟩, hR⟩ => ?_
  subst ev
  obtain ⟨tk1, rfl⟩ := rv
  refine wpAny_pyIter_str fun o St W hst => ?_
  have hPs : t1.heap.get? P = some { cls := .none, data := .fields ps } := J.hok P _ hP
  have hPlt := Heap.lt_size hPs
  have up : ∀ b u, t1.heap.get? b = some u → (t1.heap.push o).get? b = some u := fun b u e => Heap.get?_push_of_some _ e
  have cd : PySem.W.CodeHd (t1.heap.push o) c P := TB.code.keeps fun b u e => up b u (J.bk b u e)
  have lim : (t1.heap.push o).NoLimit := J.nolimit.push o
  have hclt : cStatics < t1.heap.objs.size := let ⟨_, hn, _⟩ := J.nolimit; hn.lt
  have hsz1 : (t1.heap.push o).objs.size = t1.heap.objs.size + 1 := Heap.size_push ..
  refine ⟨lim, ?_⟩
  have go : ∀ (code : Value) (h3 : Heap) (tk : Nat) (qs : Array Value), Heap.ExtBut P (t1.heap.push o) h3 → (t1.heap.push o).objs.size ≤ h3.objs.size → h3.get? P = some { cls := .none, data := .fields qs } →
      (∃ more, qs = ps ++ more) → TriplesOk qs.toList →
      wpAny (model X.prog X.w) X.A (builtinsFor X.env.globals X.env.builtins) (fun bi s4 =>
        ∃ Ia fp wr n0 Pf St0 pz F, Value.ref t1.heap.objs.size = .ref Ia ∧ (∀ A' : Around, A'.handled = none → Walks X.prog X.w A' Ia fp wr n0 Pf St0) ∧ St0 0 s4.heap ∧ (∀ b ∈ fp, b < s4.heap.objs.size) ∧ s4.heap.NoLimit ∧ cStatics ∉ wr ∧
          (∀ href : Heap, (∀ b o, s4.heap.get? b = some o → href.get? b = some o) →
            QuietGen X.prog X.w (genEnv scope (cloFrom X.env.cells scope.names []) s4.heap.objs.size code bi X.env) x [] elt (List.range s4.heap.objs.size) wr Pf pz F href) ∧
          (∀ g h5 tk5 gs, gs.bare = true → s4.heap.objs.size < g → h5.objs.size = g + 1 → (∀ b o, s4.heap.get? b = some o → h5.get? b = some o) →
            WalksS X.prog X.w X.A.in4 g (g :: s4.heap.objs.size :: List.range s4.heap.objs.size) (s4.heap.objs.size :: wr) (GenOnlyQ s4.gens.size) (passing pz n0 0).length
              (fun j y => ∃ i, (passing pz n0 0)[j]? = some i ∧ F i y) (GenAt X.prog X.w X.A.in4 g s4.gens.size s4.heap.objs.size (List.range s4.heap.objs.size) wr pz n0 F) →
            GenAt X.prog X.w X.A.in4 g s4.gens.size s4.heap.objs.size (List.range s4.heap.objs.size) wr pz n0 F 0 { s4 with gens := s4.gens.push gs, toks := tk5, heap := h5 } →
            Q' (.ref g) { s4 with gens := s4.gens.push gs, toks := tk5, heap := h5 })) X.xe { t1 with heap := h3, toks := tk } := by
    intro code h3 tk qs hx hsz hP3 hmore htq
    obtain ⟨bm, ob, e1, e2, e3, e4, e5, e6, e7, e8⟩ := TB.bm
    have ncP : cStatics ≠ P := fun e => by
      obtain ⟨_, hns, _⟩ := J.nolimit
      obtain ⟨o', es, ep, ho, hd, _⟩ := hns
      rw [e, hPs] at ho
      cases ho; cases hd
    have nbP : (builtinsNs : Addr) ≠ P := fun e => by
      obtain ⟨mb, hns, _⟩ := J.mod.blt
      obtain ⟨o', es, ep, ho, hd, _⟩ := hns
      have ho := J.bk _ _ ho
      rw [e, hPs] at ho
      cases ho; cases hd
    have k3 : ∀ b u, b ≠ P → t1.heap.get? b = some u → h3.get? b = some u := fun b u hb e => hx b u hb (up b u e)
    refine wpAny_builtinsFor (m := X.mg) (by rw [J.ok.glob]; exact ((J.mod.glob.keeps J.bk).push o).extBut hx TB.gP) e1 e2 (k3 _ _ e4 (J.bk _ _ e5)) e6 e7 e8 ?_
    refine ⟨t1.heap.objs.size, [t1.heap.objs.size], [t1.heap.objs.size], a.cps.size, SignAt a, St, (fun _ => true), (fun i y => ∃ cc, a.cps[i]? = some cc ∧ y = .bool (pb cc)), rfl, W, ?_, ?_, lim.extBut hx ncP, ?_, ?_, ?_⟩
    · refine (W X.A hr.hd).frame _ _ _ hst fun b hb u e => hx b u (fun z => ?_) e
      rcases List.mem_cons.mp hb with y | y
      · exact Nat.ne_of_lt hPlt (z.symm.trans y)
      · cases y
    · intro b hb
      rcases List.mem_cons.mp hb with z | z
      · rw [z]
        show t1.heap.objs.size < h3.objs.size
        omega
      · cases z
    · intro z
      rcases List.mem_cons.mp z with z | z
      · exact Nat.ne_of_lt hclt z
      · cases z
    · intro href hh
      refine ⟨fun A' E' i v s2 m2 hA hv hn hm hk => ?_, fun A' E' i v s2 m2 hA hv hp hn hm hk => ?_⟩
      · simp only [List.forIn_nil]
        exact wpAny_pure ⟨rfl, GxR.keeps_refl _⟩
      · obtain ⟨cc, u, hcc, rfl⟩ := hv
        have old : ∀ L, L ≠ P → ∀ q, X.base.get? L = some q → s2.heap.get? L = some q := fun L nL q e => by
          have e1 := J.bk _ _ e
          have l1 := Heap.lt_size e1
          have e2 := k3 L q nL e1
          refine hk L (List.mem_range.mpr (Heap.lt_size e2)) (fun z => ?_) q (hh L q e2)
          rcases List.mem_cons.mp z with z | z
          · rw [z] at l1; exact Nat.lt_irrefl _ l1
          · cases z
        have nm : Names2 s2.heap X.mg := ⟨J.mod.glob.at (old mainGlobals TB.gP), let ⟨mb, q1, q2⟩ := J.mod.blt; ⟨mb, q1.at (old builtinsNs nbP), q2⟩⟩
        exact wpAny_mono (hel (genEnv scope (cloFrom X.env.cells scope.names []) h3.objs.size code builtinsNs X.env) A' E' cc u s2 m2 rfl J.ok.glob rfl nm hn hm) (fun y s3 r => ⟨⟨cc, hcc, r.1⟩, r.2⟩) fun _ _ e => e
    · intro g h5 tk5 gs hgb hag hsz5 hk5 W5 hat
      simp only [GxR.passing_true, List.length_range] at W5
      refine hQ a H1 g _ hR ⟨_, _, _, _, _, W5.in4_1, hat, ?_, fun s' hm => ?_⟩
      · intro j y sj Qj Ej hy hQj
        obtain ⟨i, hij, cc, hcc, rfl⟩ := hy
        obtain ⟨hj, ej⟩ := List.getElem?_eq_some_iff.mp hij
        rw [List.getElem_range] at ej
        subst ej
        have e9 : a.cps.toList[j]? = some cc := by rw [Array.getElem?_toList]; exact hcc
        have hQ2 : Qj (trF pb a.cps.toList j) sj := hQj
        rw [trF_some e9] at hQ2
        exact wpAny_truthy_bool hQ2
      · obtain ⟨more, em⟩ := hmore
        have nwr : ∀ b u, t1.heap.get? b = some u → b ∉ h3.objs.size :: [t1.heap.objs.size] := fun b u e hb => by
          have hl : b < t1.heap.objs.size := Heap.lt_size e
          rcases List.mem_cons.mp hb with z | z
          · rw [z] at hl
            exact absurd hl (Nat.not_lt.mpr (show t1.heap.objs.size ≤ h3.objs.size by omega))
          · rcases List.mem_cons.mp z with z | z
            · rw [z] at hl
              exact Nat.lt_irrefl _ hl
            · cases z
        have J2 := inv_tab (more := more) (h' := s'.heap) (g' := s'.gens) (d' := s'.drawn) (t' := s'.toks) J hP (fun b u hb e => hm.heap b u (nwr b u e) (hk5 b u (k3 b u hb e)))
          (by rw [← em]; exact hm.heap P _ (nwr P _ hPs) (hk5 P _ hP3)) (AllBare.movedS (J.bare.push hgb) hm)
        rw [sh_eta t1 s' hm.os] at J2
        refine ⟨upd H1 P (.tbl (ps ++ more)), ⟨⟨ps ++ more, upd_same, by rw [← em]; exact htq⟩, fun b hb => upd_ne hb⟩, J2⟩
  cases hf : codeAmong gpos ps.toList with
  | none =>
    refine wpAny_genexprCodeX hcode (cd.code (up _ _ hPs) htr) (cd.tab (up _ _ hPs)) hf fun c' h' tk hx hge hlt hco' _ htab' _ => ?_
    obtain ⟨o1, vs, f1, tf, fl, tg, inF, tx, tt, op, _, _, _, _, _, _, _, _, _, hz, _⟩ := hco'
    exact go _ h' tk _ hx (Nat.le_trans hge (Nat.le_of_lt hlt)) htab'.2 ⟨_, rfl⟩ hz
  | some cv =>
    refine wpAny_genexprCode_hit hcode (cd.code (up _ _ hPs) htr) hf ?_
    exact go cv (t1.heap.push o) t1.toks ps (Heap.ExtBut.refl _ _) (Nat.le_refl _) (up _ _ hPs) ⟨#[], by simp⟩ htr

theorem pe_allX {c P : Addr} {elt iter : Expr} {x : Str} {px p pos gpos : Pos} {scope : Scope} {pb : Nat → Bool} {te : TE} {k : Nat}
    (hr : Room k X.A) (B : Blt X.mg) (TB : TabB X.base X.mg c P) (hcode : X.env.code = .ref c) (S : GenS X.env scope x) (hi : PE X iter te) (hel : EltX X.prog X.w X.mg scope x elt pb)
    (hs : ∀ v, genFold iter X.env v = pure v) (hg : Gl X "all" := by rfl)
    (he : starEach [.GeneratorExp elt [⟨.Name x px, iter, [], 0⟩] scope gpos] X.env = (false, eval (.GeneratorExp elt [⟨.Name x px, iter, [], 0⟩] scope gpos) X.env) :: starEach [] X.env := by rfl) :
    PE X (.Call (.Name "all" p) [.GeneratorExp elt [⟨.Name x px, iter, [], 0⟩] scope gpos] [] pos) (GxR.tAllS P pb te) := by
  refine ⟨fun pins s σ H Q I h => ?_⟩
  refine wpAny_Call_Name_kw (ld_blt I hg B.all (show bootBuiltins "all" = some (.builtin "all") by decide +kernel) ?_)
  refine PyProof.Rows.callWith_builtin1 ?_ he (by rfl)
  rw [he]
  show wpAny _ _ (spliced ((false, eval (.GeneratorExp elt [⟨.Name x px, iter, [], 0⟩] scope gpos) X.env) :: backTo pos (starEach [] X.env))) _ _ s
  refine Calls.spliced_cons (gen_mk (R := fun a H1 => ∀ H2, Tabbed P H1 H2 → Q (.bl (a.cps.toList.all pb)) H2) hr TB hcode S hi hel hs I h fun a H1 g t5 hR hG => ?_)
  obtain ⟨fp, wr, G, F, St, W, hst, htr, hI⟩ := hG
  refine Calls.spliced_nil (call_all_walkS (W.self 0 _ _ _ hst ⟨g, fp, wr, G, _, F, St, _, rfl, W, hst, htr, fun s' hmv => ?_⟩))
  obtain ⟨H2, hT, J⟩ := hI s' hmv
  refine ⟨.bl _, H2, J, rfl, ?_⟩
  rw [all_signs a pb]
  exact hR H2 hT
end

/-- a sign that the document calls printable -/
def prc (c : Nat) : Bool := decide (32 ≤ c) && decide (c ≤ 126) && !decide (c = 37)
def prn (z : Str) : Bool := z.cps.toList.all prc
theorem prn_app (x y : Str) : prn (x ++ y) = (prn x && prn y) := by
  unfold prn
  rw [show (x ++ y).cps.toList = TL.tl x ++ TL.tl y from TL.tl_append x y, List.all_append]
theorem prn_cut {z : Str} (h : prn z = true) (lo hi : Option Int) : prn (cutS z lo hi) = true := by
  unfold prn at h ⊢
  rw [List.all_eq_true] at h ⊢
  intro c hc
  exact h c (List.mem_of_mem_drop (List.mem_of_mem_take (show c ∈ (z.cps.toList.drop _).take _ from hc)))
theorem prn_no {z : Str} {c : Nat} (h : c ∈ TL.tl z) (hc : prc c = false) : prn z = false := by
  unfold prn
  cases e : z.cps.toList.all prc with
  | false => rfl
  | true => rw [List.all_eq_true] at e; rw [e c h] at hc; cases hc
theorem one_lt {a b : Nat} : ([a] < [b]) ↔ a < b := by
  constructor
  · intro h
    cases h with
    | rel h => exact h
    | cons h => cases h
  · intro h
    exact List.Lex.rel h
theorem elt_prn {prog : Program} {w : World} {mg : Str → Option Value} {scope : Scope} {j1 j2 : Nat} {q1 q2 q3 q4 q5 q6 q7 q8 q9 q10 : Pos} {t37 : Tok} (B : Blt mg) (h37 : mg "_BARRED_CODE" = some (.int 37 t37))
    (hk : scope.kind = .function) (hl : scope.names.lookup ("mark" : Str) = some .local) (h1 : scope.names.lookup ("ord" : Str) = some .globalImplicit) (h2 : scope.names.lookup ("_BARRED_CODE" : Str) = some .globalImplicit) :
    EltX prog w mg scope "mark" (.BoolOp .And [.Compare (.Constant (.str " ") j1 q1) [.LtE, .LtE] [.Name "mark" q2, .Constant (.str "~") j2 q3] q4,
      .Compare (.Call (.Name "ord" q5) [.Name "mark" q6] [] q7) [.NotEq] [.Name "_BARRED_CODE" q8] q9] q10) prc := by
  intro ce A' E' c t s2 m2 hs hg hb nm hn hm
  have ld : ∀ {Q : Value → Shared → Prop} {p : Pos} {s3 : Shared}, (∃ tk, s3 = { s2 with toks := tk }) → Q (.str ⟨#[c]⟩ t) s3 → wpAny (model prog w) A' (eval (.Name "mark" p) ce) Q E' s3 := by
    rintro Q p s3 ⟨tk, rfl⟩ h
    exact wpAny_Name (wpAny_loadName_local (by rw [hs]; exact hk) (show ce.scope.names.lookup ("mark" : Str) = some .local by rw [hs]; exact hl) hn hm h) (by decide)
  have fin : ∀ {b : Bool} {tk : Nat}, b = prc c → (fun y s3 => y = Value.bool (prc c) ∧ Keeps s2 s3) (.bool b) { s2 with toks := tk } := fun e => ⟨by rw [e], keeps_tok _ _⟩
  refine BoolOp_and ?_
  refine Compare_chain (Calls.Constant_str (chain_link (ld ⟨_, rfl⟩ (PySem.P.le_str ?_))))
  have e1 : (!decide ((⟨#[c]⟩ : Str).cps.toList < (Str.ofString " ").cps.toList)) = decide (32 ≤ c) := by
    show (!decide ([c] < [32])) = _
    rw [decide_eq_decide.mpr (one_lt (a := c) (b := 32))]
    by_cases h : c < 32
    · rw [decide_eq_true h, decide_eq_false (by omega)]; rfl
    · rw [decide_eq_false h, decide_eq_true (by omega)]; rfl
  rw [e1]
  refine wpAny_truthy_bool ?_
  by_cases c1 : 32 ≤ c
  · rw [decide_eq_true c1]
    refine ite_tt (chain_last (Calls.Constant_str (PySem.P.le_str ?_)))
    have e2 : (!decide ((Str.ofString "~").cps.toList < (⟨#[c]⟩ : Str).cps.toList)) = decide (c ≤ 126) := by
      show (!decide ([126] < [c])) = _
      rw [decide_eq_decide.mpr (one_lt (a := 126) (b := c))]
      by_cases h : c ≤ 126
      · rw [decide_eq_true h, decide_eq_false (by omega)]; rfl
      · rw [decide_eq_false h, decide_eq_true (by omega)]; rfl
    rw [e2]
    refine wpAny_truthy_bool ?_
    by_cases c2 : c ≤ 126
    · rw [decide_eq_true c2]
      refine ite_tt (BoolOp_one (wpAny_Compare1 ?_))
      obtain ⟨mb, n1, n2⟩ := nm.blt
      refine wpAny_Call_Name_kw (Calls.Name_function_global (by rw [hs]; exact hk) (show ce.scope.names.lookup ("ord" : Str) = some .globalImplicit by rw [hs]; exact h1) (Calls.loadGlobal_builtin (by rw [hg]; exact nm.glob) B.ord (by rw [hb]; exact n1) ((n2 "ord" (by decide)).trans (show bootBuiltins "ord" = some (.builtin "ord") by decide +kernel)) ?_) (by decide))
      refine PyProof.Rows.callWith_builtin1 ?_ (by rfl) (by rfl)
      refine Calls.spliced_cons (ld ⟨_, rfl⟩ (Calls.spliced_nil (PyProof.Rows.ord_of_one rfl ?_)))
      refine Calls.Name_function_global (by rw [hs]; exact hk) (show ce.scope.names.lookup ("_BARRED_CODE" : Str) = some .globalImplicit by rw [hs]; exact h2) (Calls.loadGlobal_global (by rw [hg]; exact nm.glob) h37 ?_) (by decide)
      refine ne_int (fin ?_)
      show (((c : Int)) != 37) = (decide (32 ≤ c) && decide (c ≤ 126) && !decide (c = 37))
      rw [decide_eq_true c1, decide_eq_true c2]
      by_cases c3 : c = 37
      · subst c3; rfl
      · rw [decide_eq_false c3]
        have : ((c : Int) != 37) = true := bne_iff_ne.mpr (by omega)
        rw [this]; rfl
    · rw [decide_eq_false c2]
      refine ite_ff (fin ?_)
      simp [prc, c2]
  · rw [decide_eq_false c1]
    refine ite_ff (wpAny_truthy_bool (ite_ff (fin ?_)))
    simp [prc, c1]
end SC

/-! the end of a law's row whose text holds generator expressions: the tables out of the top -/
namespace SC
open PySem PySem.Spec PyProof.Rows L2 LamX
theorem walk_tab {l : PySem.W.OpenLaw} {n k : Nat} {q : Program} {loose : List Str} {XP : (Str → Option Value) → Heap → Prop} {YP : World → Heap → Prop} {d : DefRec} {K : Params → PySem.W.Frag} {CX : World → CXT} {x : Str}
    (hn : l.most = some n) (hn2 : n ≤ sizeLine) (hdf : d.params.defaults = []) (hr : Room k callerA) (hY : ∀ (w : World) (h : Heap), YP w h → (K w.params).In h)
    (hCX : ∀ (w : World) (H : Hp) (s : Shared) (e : Value) (s' : Shared), CX w [] H s (fun _ _ _ => False) e s' → False)
    (F : ∀ (w : World) (mg mb : Str → Option Value) (lo : List Str) (mean : ExcName → Option Value) (fa : Addr) (h : Heap), Top q lo mean mg mb h → (K w.params).In h → h.Ns mainGlobals mg → mg d.name = some (.ref fa) → LawAtS l w (K w.params) (CX w) k n x mg fa h) :
    PySem.W.WalkO q loose XP YP l.row.toRowW d [] (fun f vs => PySem.call f vs) := by
  refine Att.attach_callB hn hdf fun w s0 s1 mg mb fa o pm cd doc a vs ns G Y ho hd hcd hmg hobj hints hlen hbits hg => ?_
  have KX := hY w _ Y
  obtain ⟨fd, cs, sp, hT, nT, C, hb, hsp, hF⟩ := F w mg mb _ _ fa _ G.T KX G.T.g hmg
  exact law_callTs KX G.T.g G.T.b G.T.builtins G.T.nolimit hg hT nT C G.T.bmain hobj hints (Nat.le_trans hlen hn2) hr hF hb (fun H hH hS => hsp H a ns hlen hbits hH hS) fun H e s' => hCX w H s1 e s'
theorem tab_mk {q : Program} {lo : List Str} {mean : ExcName → Option Value} {mg mb : Str → Option Value} {h : Heap} {K : PySem.W.Frag} {d : DefRec} {x : Str} {f c P : Addr} {fd : FuncData} {oc cc : Value} {od dc : Option Addr} {sl sc : Array (Option Value)} {vs : Array Value}
    (T : Top q lo mean mg mb h) (X : K.In h) (hr : (recsOf q).find? (fun e => e.name == x) = some d) (a : PySem.W.nsIn K mainGlobals x = some (some (.ref f))) (l : K.lookup f = some ⟨oc, od, .func fd, sl⟩) (hc : fd.code = .ref c)
    (lc : K.lookup c = some ⟨cc, dc, .fields vs, sc⟩) (hv : vs[11]? = some (.ref P)) : PySem.W.CodeHd h c P ∧ h.get? P = some (PySem.W.tabObj #[]) := by
  refine PySem.W.tab_of T X hr ?_
  unfold PySem.W.tabIn
  rw [a]
  simp only [l, hc, lc, hv]
/-- a law's state: the table may have grown, the stream stands, all else that was there is as it was -/
structure LS (Pt st : Addr) (H0 H : Hp) : Prop where
  k : Kp [Pt] H0 H
  g : GxR.TabG H Pt
  s : Strm H st
  g0 : GxR.TabG H0 Pt
  fr : H0 st = none
section
variable {Pt st p : Addr} {H0 H H' : Hp} {K : PySem.W.Frag}
theorem LS.ne (L : LS Pt st H0 H) : st ≠ Pt := L.s.nT L.g
theorem LS.first (g0 : GxR.TabG H0 Pt) (h : H0 st = none) {a b : Int} : LS Pt st H0 (upd H0 st (.lst [.int a, .int b])) :=
  ⟨Kp.new h _, tabG_kp g0 (Kp.new h _ : Kp [] _ _) (by simp), Strm.mk, g0, h⟩
theorem LS.take (L : LS Pt st H0 H) (k : Kp [st] H H') (s : Strm H' st) : LS Pt st H0 H' :=
  ⟨Kp.drop L.fr ((L.k.mono fun b hb => List.mem_cons_of_mem _ hb).trans (k.mono fun b hb => by rw [List.mem_singleton.mp hb]; exact List.mem_cons_self)), tabG_kp L.g k (by simpa using L.ne.symm), s, L.g0, L.fr⟩
theorem LS.prn (L : LS Pt st H0 H) (k : Kp [Pt] H H') (g : GxR.TabG H' Pt) : LS Pt st H0 H' := ⟨L.k.trans k, g, L.s.kp k (by simpa using L.ne), L.g0, L.fr⟩
theorem LS.new (L : LS Pt st H0 H) (h : H p = none) (o : HO) : LS Pt st H0 (upd H p o) :=
  ⟨L.k.trans (Kp.new h o), tabG_kp L.g (Kp.new h o : Kp [] _ _) (by simp), L.s.kp (Kp.new h o : Kp [] _ _) (by simp), L.g0, L.fr⟩
theorem LS.kp0 (L : LS Pt st H0 H) (k : Kp [] H H') : LS Pt st H0 H' := ⟨L.k.trans (k.mono fun b hb => absurd hb (by simp)), tabG_kp L.g k (by simp), L.s.kp k (by simp), L.g0, L.fr⟩
theorem seq_tab {a : Addr} {xs : List V} (k : Kp [Pt] H0 H) (g0 : GxR.TabG H0 Pt) (h : SqL K H0 a xs) : SqL K H a xs := by
  obtain ⟨ps, e, _⟩ := g0
  rcases h with (h | ⟨o, h⟩) | h
  · exact .inl (.inl (k.keep _ _ (by simpa using ne_of h e (by intro z; cases z)) h))
  · exact .inl (.inr ⟨o, k.keep _ _ (by simpa using ne_of h e (by intro z; cases z)) h⟩)
  · exact .inr h
theorem LS.seq {a : Addr} {xs : List V} (L : LS Pt st H0 H) (h : SqL K H0 a xs) : SqL K H a xs := seq_tab L.k L.g0 h
theorem Kp.get1 {b : Addr} {o : HO} (k : Kp [Pt] H H') (g : GxR.TabG H Pt) (h : H b = some o) (no : ∀ ps, o ≠ .tbl ps := by intro ps z; cases z) : H' b = some o := by
  obtain ⟨ps, e, _⟩ := g
  exact k.keep b o (by simpa using ne_of h e (no ps)) h
theorem tyN_kp {v : V} {t : String} (k : Kp [Pt] H H') (g : GxR.TabG H Pt) (h : tyN H v = some t) : tyN H' v = some t := by
  cases v with
  | ref p =>
    unfold tyN at h
    simp only at h
    split at h
    · rename_i xs q; cases h; exact tyN_lst (k.get1 g q)
    · rename_i xs q; cases h; exact tyN_tup (k.get1 g q)
    · rename_i xs q; cases h; exact tyN_dK (k.get1 g q)
    · cases h
  | _ => exact h
end
end SC

/-! canonical texts: the values as trees, what encode writes, what decode reads: plain Lean -/
namespace SC
open PySem L2
/-- a value as a tree; oth: what is neither an int nor a text nor a tuple -/
inductive Tr where
  | int (n : Int) | str (z : Str) | tup (ts : List Tr) | oth (v : V)
mutual
inductive Rep (H : Hp) : V → Tr → Prop
  | int (i : Int) : Rep H (.int i) (.int i)
  | str (z : Str) : Rep H (.str z) (.str z)
  | tup {a : Addr} {xs : List V} {ts : List Tr} : H a = some (.tup xs) → RepAll H xs ts → Rep H (.ref a) (.tup ts)
  | oth {v : V} {t : String} : tyN H v = some t → t ≠ "int" → t ≠ "str" → t ≠ "tuple" → Rep H v (.oth v)
inductive RepAll (H : Hp) : List V → List Tr → Prop
  | nil : RepAll H [] []
  | cons {v : V} {vs : List V} {t : Tr} {ts : List Tr} : Rep H v t → RepAll H vs ts → RepAll H (v :: vs) (t :: ts)
end
theorem Rep.ty {H : Hp} {v : V} {t : Tr} (h : Rep H v t) : ∃ s, tyN H v = some s := by
  cases h with
  | int => exact ⟨_, rfl⟩
  | str => exact ⟨_, rfl⟩
  | tup e _ => exact ⟨_, tyN_tup e⟩
  | oth e _ _ _ => exact ⟨_, e⟩
theorem RepAll.len {H : Hp} : ∀ {xs : List V} {ts : List Tr}, RepAll H xs ts → xs.length = ts.length
  | _, _, .nil => rfl
  | _, _, .cons _ h => congrArg (· + 1) h.len
theorem RepAll.app {H : Hp} : ∀ {xs ys : List V} {ts us : List Tr}, RepAll H xs ts → RepAll H ys us → RepAll H (xs ++ ys) (ts ++ us)
  | _, _, _, _, .nil, h => h
  | _, _, _, _, .cons a b, h => .cons a (b.app h)
theorem RepAll.get {H : Hp} : ∀ {xs : List V} {ts : List Tr} {i : Nat} {x : V}, RepAll H xs ts → xs[i]? = some x → ∃ t, ts[i]? = some t ∧ Rep H x t
  | _, _, _, _, .nil, h => by simp at h
  | _, _, 0, _, .cons a _, h => by
    have e := Option.some.inj h
    subst e
    exact ⟨_, rfl, a⟩
  | _, _, i + 1, _, .cons _ b, h => b.get (i := i) h
mutual
theorem Rep.kp {Pt : Addr} {H H' : Hp} (k : Kp [Pt] H H') (g : GxR.TabG H Pt) : ∀ {v : V} {t : Tr}, Rep H v t → Rep H' v t
  | _, _, .int i => .int i
  | _, _, .str z => .str z
  | _, _, .tup e h => .tup (k.tup _ _ e) (h.kp k g)
  | v, _, .oth e a b c => .oth (tyN_kp k g e) a b c
theorem RepAll.kp {Pt : Addr} {H H' : Hp} (k : Kp [Pt] H H') (g : GxR.TabG H Pt) : ∀ {vs : List V} {ts : List Tr}, RepAll H vs ts → RepAll H' vs ts
  | _, _, .nil => .nil
  | _, _, .cons a b => .cons (a.kp k g) (b.kp k g)
end
/-- the digits of a number -/
abbrev dig (n : Nat) : List Nat := TL.numL n
mutual
/-- the canonical text, its codes -/
def txt : Tr → List Nat
  | .int n => dig n.toNat ++ [46]
  | .str z => dig z.length ++ 58 :: TL.tl z
  | .tup ts => 91 :: (txts ts ++ [93])
  | .oth _ => []
def txts : List Tr → List Nat
  | [] => []
  | t :: ts => txt t ++ txts ts
end
mutual
/-- plain, tuples nested at most n deep -/
def pl (n : Nat) : Tr → Bool
  | .int i => decide (0 ≤ i) && decide (i ≤ 99999999999999999999)
  | .str z => prn z
  | .tup ts => match n with
    | 0 => false
    | m + 1 => pls m ts
  | .oth _ => false
def pls (n : Nat) : List Tr → Bool
  | [] => true
  | t :: ts => pl n t && pls n ts
end
mutual
/-- no tuple's text within is too long -/
def fit : Tr → Bool
  | .tup ts => fits ts && decide ((txts ts).length + 2 ≤ 100000)
  | _ => true
def fits : List Tr → Bool
  | [] => true
  | t :: ts => fit t && fits ts
end
mutual
/-- texts of a size that Python's may have -/
def sml : Tr → Bool
  | .str z => decide (z.length ≤ 10000000)
  | .tup ts => smls ts && decide (ts.length ≤ 1000000)
  | _ => true
def smls : List Tr → Bool
  | [] => true
  | t :: ts => sml t && smls ts
end
theorem txts_app : ∀ (ts us : List Tr), txts (ts ++ us) = txts ts ++ txts us
  | [], _ => rfl
  | t :: ts, us => by
    show txt t ++ txts (ts ++ us) = (txt t ++ txts ts) ++ txts us
    rw [txts_app ts us, List.append_assoc]
theorem pls_app (n : Nat) : ∀ (ts us : List Tr), pls n (ts ++ us) = (pls n ts && pls n us)
  | [], us => by simp [pls]
  | t :: ts, us => by
    show (pl n t && pls n (ts ++ us)) = ((pl n t && pls n ts) && pls n us)
    rw [pls_app n ts us, Bool.and_assoc]
theorem fits_app : ∀ (ts us : List Tr), fits (ts ++ us) = (fits ts && fits us)
  | [], us => by simp [fits]
  | t :: ts, us => by
    show (fit t && fits (ts ++ us)) = ((fit t && fits ts) && fits us)
    rw [fits_app ts us, Bool.and_assoc]
theorem smls_app : ∀ (ts us : List Tr), smls (ts ++ us) = (smls ts && smls us)
  | [], us => by simp [smls]
  | t :: ts, us => by
    show (sml t && smls (ts ++ us)) = ((sml t && smls ts) && smls us)
    rw [smls_app ts us, Bool.and_assoc]
theorem mem_len : ∀ {t : Tr} {ts : List Tr}, t ∈ ts → (txt t).length ≤ (txts ts).length
  | t, u :: ts, h => by
    show _ ≤ (txt u ++ txts ts).length
    rw [List.length_append]
    rcases List.mem_cons.mp h with rfl | h
    · omega
    · have := mem_len h; omega
mutual
theorem fit_of : ∀ (t : Tr), (txt t).length ≤ 100000 → fit t = true
  | .int _, _ => rfl
  | .str _, _ => rfl
  | .oth _, _ => rfl
  | .tup ts, h => by
    have h : (91 :: (txts ts ++ [93])).length ≤ 100000 := h
    rw [List.length_cons, List.length_append] at h
    have h : (txts ts).length + 1 + 1 ≤ 100000 := h
    show (fits ts && decide ((txts ts).length + 2 ≤ 100000)) = true
    rw [fits_of ts (by omega), decide_eq_true (by omega)]
    rfl
theorem fits_of : ∀ (ts : List Tr), (txts ts).length ≤ 100000 → fits ts = true
  | [], _ => rfl
  | t :: ts, h => by
    have h : (txt t ++ txts ts).length ≤ 100000 := h
    rw [List.length_append] at h
    show (fit t && fits ts) = true
    rw [fit_of t (by omega), fits_of ts (by omega)]
    rfl
end

/-! ### reading -/
def isD (c : Nat) : Bool := decide (48 ≤ c) && decide (c ≤ 57)
def val (l : List Nat) : Nat := NumText.digitsVal l
/-- a number's digits that decode takes -/
def goodD (d : List Nat) : Bool := !d.isEmpty && decide (d.length ≤ 20) && !(d.head? == some 48 && !(d == [48]))
/-- a number or a text at the head of l -/
def leaf (l : List Nat) : Option (Tr × List Nat) :=
  if goodD (l.takeWhile isD) = true then
    match l.dropWhile isD with
    | 46 :: r => some (.int (val (l.takeWhile isD)), r)
    | 58 :: r => if val (l.takeWhile isD) ≤ r.length then some (.str ⟨(r.take (val (l.takeWhile isD))).toArray⟩, r.drop (val (l.takeWhile isD))) else none
    | _ => none
  else none
/-- items up to the closing bracket -/
def items (p : List Nat → Option (Tr × List Nat)) : Nat → List Nat → Option (List Tr × List Nat)
  | 0, _ => none
  | f + 1, l => match l with
    | 93 :: r => some ([], r)
    | l => match p l with
      | none => none
      | some (t, r) => match items p f r with
        | none => none
        | some (ts, r2) => some (t :: ts, r2)
/-- a value at the head of l, tuples nested at most n deep -/
def pval : Nat → List Nat → Option (Tr × List Nat)
  | 0, l => match l with
    | 91 :: _ => none
    | l => leaf l
  | n + 1, l => match l with
    | 91 :: r => match items (pval n) (r.length + 1) r with
      | none => none
      | some (ts, r2) => some (.tup ts, r2)
    | l => leaf l

/-! ### digits -/
theorem isD_iff {c : Nat} : isD c = true ↔ 48 ≤ c ∧ c ≤ 57 := by unfold isD; simp
theorem val_app (l : List Nat) (c : Nat) : val (l ++ [c]) = val l * 10 + (c - 48) := by
  unfold val NumText.digitsVal
  rw [List.foldl_append]
  rfl
theorem dig_isD (n : Nat) : ∀ c ∈ dig n, isD c = true := fun c hc => by
  have := TL.numL_digits n c hc
  exact isD_iff.mpr ⟨by omega, by omega⟩
theorem dig_zero : dig 0 = [48] := TL.numL_lt (by decide)
theorem val_dig (n : Nat) : val (dig n) = n := TL.numL_val n
theorem dig_val : ∀ (k : Nat) (d : List Nat), d.length = k → d ≠ [] → (∀ c ∈ d, isD c = true) → (d.head? ≠ some 48 ∨ d = [48]) → dig (val d) = d
  | 0, d, hk, h, _, _ => absurd (List.length_eq_zero_iff.mp hk) h
  | k + 1, d, hk, h, hd, h0 => by
    obtain ⟨e, c, rfl⟩ : ∃ e c, d = e ++ [c] := ⟨d.dropLast, d.getLast h, (List.dropLast_concat_getLast h).symm⟩
    have hc := isD_iff.mp (hd c (List.mem_append_right _ (List.mem_singleton.mpr rfl)))
    rw [val_app]
    by_cases he : e = []
    · subst he
      show dig (val [] * 10 + (c - 48)) = [c]
      have z : val [] = 0 := rfl
      rw [z, Nat.zero_mul, Nat.zero_add]
      have q := TL.numL_lt (n := c - 48) (by omega)
      rw [show 48 + (c - 48) = c by omega] at q
      exact q
    · have hl : e.length = k := by rw [List.length_append] at hk; simpa using hk
      obtain ⟨a, e', rfl⟩ := List.exists_cons_of_ne_nil he
      have ha : a ≠ 48 := by
        intro z
        subst z
        rcases h0 with q | q
        · exact q rfl
        · have := congrArg List.length q
          simp at this
      have ih := dig_val k (a :: e') hl he (fun c hc => hd c (List.mem_append_left _ hc)) (.inl (by simpa using ha))
      have pos : 1 ≤ val (a :: e') := by
        by_cases q : val (a :: e') = 0
        · rw [q, dig_zero] at ih
          injection ih with z1 _
          exact absurd z1.symm ha
        · omega
      have st := TL.numL_step (n := val (a :: e') * 10 + (c - 48)) (by omega)
      show TL.numL _ = _
      rw [st, show (val (a :: e') * 10 + (c - 48)) / 10 = val (a :: e') by omega, show 48 + (val (a :: e') * 10 + (c - 48)) % 10 = c by omega]
      rw [show TL.numL (val (a :: e')) = a :: e' from ih]
theorem dig_head : ∀ (n : Nat), (dig n).head? = some 48 → dig n = [48] := by
  intro n
  induction n using Nat.strongRecOn with
  | _ n ih =>
    intro h
    by_cases c : n < 10
    · have e := TL.numL_lt c
      have h : (TL.numL n).head? = some 48 := h
      rw [e] at h
      have : 48 + n = 48 := by simpa using h
      have : n = 0 := by omega
      subst this
      exact dig_zero
    · have e := TL.numL_step (n := n) (by omega)
      have h : (TL.numL n).head? = some 48 := h
      rw [e] at h
      have h2 : (dig (n / 10)).head? = some 48 := by
        have ne := TL.numL_ne (n / 10)
        obtain ⟨a, r, q⟩ := List.exists_cons_of_ne_nil ne
        rw [q] at h
        show (TL.numL (n / 10)).head? = _
        rw [q]
        simpa using h
      have z := ih (n / 10) (by omega) h2
      have v := val_dig (n / 10)
      rw [z] at v
      have : n / 10 = 0 := v.symm
      omega
theorem goodD_dig {n : Nat} (h : n < 10 ^ 20) : goodD (dig n) = true := by
  have ne := TL.numL_ne n
  have len : (dig n).length ≤ 20 := TL.numL_len (by decide) h
  unfold goodD
  rw [show (dig n).isEmpty = false by rw [List.isEmpty_eq_false_iff]; exact ne, decide_eq_true len]
  cases e : ((dig n).head? == some 48) with
  | false => rfl
  | true =>
    have := dig_head n (by simpa using e)
    rw [this]
    rfl
theorem take_dig {n c : Nat} (r : List Nat) (hc : isD c = false) : (dig n ++ c :: r).takeWhile isD = dig n ∧ (dig n ++ c :: r).dropWhile isD = c :: r := by
  have key : ∀ (d : List Nat), (∀ x ∈ d, isD x = true) → (d ++ c :: r).takeWhile isD = d ∧ (d ++ c :: r).dropWhile isD = c :: r := by
    intro d
    induction d with
    | nil => intro _; simp [List.takeWhile, List.dropWhile, hc]
    | cons x d ih =>
      intro h
      have hx := h x List.mem_cons_self
      obtain ⟨i1, i2⟩ := ih fun y hy => h y (List.mem_cons_of_mem _ hy)
      simp [List.takeWhile, List.dropWhile, hx, i1, i2]
  exact key _ (dig_isD n)
theorem leaf_int {n : Nat} (h : n < 10 ^ 20) (r : List Nat) : leaf (dig n ++ 46 :: r) = some (.int n, r) := by
  obtain ⟨t1, t2⟩ := take_dig (n := n) (c := 46) r (by decide)
  unfold leaf
  rw [t1, t2, if_pos (goodD_dig h), val_dig]
  rfl
theorem leaf_str {z : Str} (h : z.length < 10 ^ 20) (r : List Nat) : leaf (dig z.length ++ 58 :: (TL.tl z ++ r)) = some (.str z, r) := by
  obtain ⟨t1, t2⟩ := take_dig (n := z.length) (c := 58) (TL.tl z ++ r) (by decide)
  unfold leaf
  have hl : (TL.tl z).length = z.length := (TL.len_tl z).symm
  rw [t1, t2, if_pos (goodD_dig h), val_dig]
  simp only
  rw [if_pos (by rw [List.length_append]; omega), ← hl, List.take_left, List.drop_left, TL.mk_tl]
theorem dig_first (n : Nat) : ∃ a r, dig n = a :: r ∧ 48 ≤ a ∧ a ≤ 57 := by
  obtain ⟨a, r, e⟩ := List.exists_cons_of_ne_nil (TL.numL_ne n)
  have := isD_iff.mp (dig_isD n a (by rw [show dig n = a :: r from e]; exact List.mem_cons_self))
  exact ⟨a, r, e, this.1, this.2⟩
/-- a text's first sign -/
theorem txt_first {n : Nat} : ∀ {t : Tr}, pl n t = true → ∃ a r, txt t = a :: r ∧ (a = 91 ∨ (48 ≤ a ∧ a ≤ 57))
  | .int i, _ => by
    obtain ⟨a, r, e, h1, h2⟩ := dig_first i.toNat
    exact ⟨a, r ++ [46], by show dig i.toNat ++ [46] = _; rw [e]; rfl, .inr ⟨h1, h2⟩⟩
  | .str z, _ => by
    obtain ⟨a, r, e, h1, h2⟩ := dig_first z.length
    exact ⟨a, r ++ 58 :: TL.tl z, by show dig z.length ++ 58 :: TL.tl z = _; rw [e]; rfl, .inr ⟨h1, h2⟩⟩
  | .tup ts, _ => ⟨91, _, rfl, .inl rfl⟩
  | .oth _, h => by cases h
theorem pval_leaf {n : Nat} {l : List Nat} (h : ∀ r, l ≠ 91 :: r) : pval n l = leaf l := by
  cases n with
  | zero =>
    unfold pval
    split
    · rename_i r; exact absurd rfl (h r)
    · rfl
  | succ n =>
    unfold pval
    split
    · rename_i r; exact absurd rfl (h r)
    · rfl
theorem sml_str {z : Str} (h : sml (.str z) = true) : z.length < 10 ^ 20 := by
  have : z.length ≤ 10000000 := of_decide_eq_true h
  omega
mutual
/-- what encode wrote is read back -/
theorem pval_txt : ∀ (n : Nat) (t : Tr) (r : List Nat), pl n t = true → sml t = true → pval n (txt t ++ r) = some (t, r)
  | n, .int i, r, h, _ => by
    have h : (decide (0 ≤ i) && decide (i ≤ 99999999999999999999)) = true := h
    rw [Bool.and_eq_true, decide_eq_true_eq, decide_eq_true_eq] at h
    obtain ⟨a, q, e, h1, h2⟩ := dig_first i.toNat
    have e2 : txt (.int i) ++ r = dig i.toNat ++ 46 :: r := by show (dig i.toNat ++ [46]) ++ r = _; rw [List.append_assoc]; rfl
    rw [e2, pval_leaf (fun r' z => by rw [e] at z; injection z with z _; omega), leaf_int (by omega)]
    rw [show ((i.toNat : Nat) : Int) = i by omega]
  | n, .str z, r, _, hs => by
    obtain ⟨a, q, e, h1, h2⟩ := dig_first z.length
    have e2 : txt (.str z) ++ r = dig z.length ++ 58 :: (TL.tl z ++ r) := by show (dig z.length ++ 58 :: TL.tl z) ++ r = _; rw [List.append_assoc]; rfl
    rw [e2, pval_leaf (fun r' z => by rw [e] at z; injection z with z _; omega), leaf_str (sml_str hs)]
  | 0, .tup ts, _, h, _ => by cases h
  | n + 1, .tup ts, r, h, hs => by
    have h : pls n ts = true := h
    have hs : (smls ts && decide (ts.length ≤ 1000000)) = true := hs
    rw [Bool.and_eq_true] at hs
    have e2 : txt (.tup ts) ++ r = 91 :: (txts ts ++ 93 :: r) := by show 91 :: ((txts ts ++ [93]) ++ r) = _; rw [List.append_assoc]; rfl
    rw [e2]
    unfold pval
    simp only
    rw [items_txts n ts r ((txts ts ++ 93 :: r).length + 1) h hs.1 (by omega)]
  | _, .oth _, _, h, _ => by cases h
theorem items_txts : ∀ (n : Nat) (ts : List Tr) (r : List Nat) (f : Nat), pls n ts = true → smls ts = true → (txts ts ++ 93 :: r).length < f → items (pval n) f (txts ts ++ 93 :: r) = some (ts, r)
  | n, [], r, f, _, _, hf => by
    cases f with
    | zero => omega
    | succ f => rfl
  | n, t :: ts, r, f, h, hs, hf => by
    have h : (pl n t && pls n ts) = true := h
    have hs : (sml t && smls ts) = true := hs
    rw [Bool.and_eq_true] at h hs
    obtain ⟨a, q, e, ha⟩ := txt_first h.1
    have e2 : txts (t :: ts) ++ 93 :: r = txt t ++ (txts ts ++ 93 :: r) := by show (txt t ++ txts ts) ++ _ = _; rw [List.append_assoc]
    rw [e2] at hf ⊢
    rw [List.length_append, e, List.length_cons] at hf
    cases f with
    | zero => omega
    | succ f =>
      have p1 := pval_txt n t (txts ts ++ 93 :: r) h.1 hs.1
      have p2 := items_txts n ts r f h.2 hs.2 (by omega)
      unfold items
      rw [e] at p1 ⊢
      have ne : a ≠ 93 := by omega
      show (match a :: (q ++ (txts ts ++ 93 :: r)) with
        | 93 :: r => some ([], r)
        | l => match pval n l with
          | none => none
          | some (t, r) => match items (pval n) f r with
            | none => none
            | some (ts, r2) => some (t :: ts, r2)) = _
      split
      · rename_i z; injection z with z _; exact absurd z ne
      · have p1 : pval n (a :: (q ++ (txts ts ++ 93 :: r))) = some (t, txts ts ++ 93 :: r) := p1
        rw [p1]
        simp only
        rw [p2]
end

theorem val_lt : ∀ (d : List Nat), (∀ c ∈ d, isD c = true) → val d < 10 ^ d.length := by
  have key : ∀ (k : Nat) (d : List Nat), d.length = k → (∀ c ∈ d, isD c = true) → val d < 10 ^ k := by
    intro k
    induction k with
    | zero => intro d h _; rw [List.length_eq_zero_iff.mp h]; decide
    | succ k ih =>
      intro d h hd
      have ne : d ≠ [] := fun z => by rw [z] at h; cases h
      have e := (List.dropLast_concat_getLast ne).symm
      generalize d.dropLast = a at e
      generalize d.getLast ne = c at e
      subst e
      have hc := isD_iff.mp (hd c (List.mem_append_right _ (List.mem_singleton.mpr rfl)))
      have := ih a (by rw [List.length_append] at h; simpa using h) fun c hc => hd c (List.mem_append_left _ hc)
      rw [val_app, Nat.pow_succ]
      omega
  exact fun d h => key _ d rfl h
theorem goodD_iff {d : List Nat} (h : goodD d = true) : d ≠ [] ∧ d.length ≤ 20 ∧ (d.head? ≠ some 48 ∨ d = [48]) := by
  unfold goodD at h
  rw [Bool.and_eq_true, Bool.and_eq_true, decide_eq_true_eq] at h
  obtain ⟨⟨h1, h2⟩, h3⟩ := h
  refine ⟨fun z => (by rw [z] at h1; cases h1), h2, ?_⟩
  by_cases e : d = [48]
  · exact .inr e
  · left
    intro z
    rw [z] at h3
    have : (d == [48]) = false := by simpa using e
    rw [this] at h3
    cases h3
theorem takeD (l : List Nat) : ∀ c ∈ l.takeWhile isD, isD c = true := by
  induction l with
  | nil => intro c h; cases h
  | cons a l ih =>
    intro c h
    rw [List.takeWhile_cons] at h
    split at h
    · rename_i ha
      rcases List.mem_cons.mp h with rfl | h
      · exact ha
      · exact ih c h
    · cases h
/-- what leaf read, written -/
theorem leaf_back {n : Nat} {l r : List Nat} {t : Tr} (h : leaf l = some (t, r)) : l = txt t ++ r ∧ ((∀ c ∈ l, prc c = true) → pl n t = true) := by
  unfold leaf at h
  by_cases g : goodD (l.takeWhile isD) = true
  · rw [if_pos g] at h
    obtain ⟨g1, g2, g3⟩ := goodD_iff g
    have ad := takeD l
    have dv := dig_val _ _ rfl g1 ad g3
    have lt := val_lt _ ad
    have el : l = l.takeWhile isD ++ l.dropWhile isD := List.takeWhile_append_dropWhile.symm
    generalize hv : val (l.takeWhile isD) = v at h dv lt
    split at h
    · rename_i r' e
      cases h
      have lt2 : v < 10 ^ 20 := Nat.lt_of_lt_of_le lt (Nat.pow_le_pow_right (by decide) g2)
      refine ⟨?_, fun _ => ?_⟩
      · show l = (dig (v : Int).toNat ++ [46]) ++ r
        rw [Int.toNat_natCast, dv, List.append_assoc]
        rw [e] at el
        exact el
      · show (decide (0 ≤ (v : Int)) && decide ((v : Int) ≤ 99999999999999999999)) = true
        rw [decide_eq_true (by omega), decide_eq_true (by omega)]
        rfl
    · rename_i r' e
      split at h
      · rename_i hle
        cases h
        have ez : (⟨(r'.take v).toArray⟩ : Str).length = v := by
          show (r'.take v).toArray.size = v
          rw [List.size_toArray, List.length_take]
          omega
        refine ⟨?_, fun hp => ?_⟩
        · show l = (dig (⟨(r'.take v).toArray⟩ : Str).length ++ 58 :: r'.take v) ++ r'.drop v
          rw [ez, dv, List.append_assoc, List.cons_append, List.take_append_drop]
          rw [e] at el
          exact el
        · show prn ⟨(r'.take v).toArray⟩ = true
          unfold prn
          rw [List.all_eq_true]
          intro c hc
          refine hp c ?_
          rw [el, e]
          exact List.mem_append_right _ (List.mem_cons_of_mem _ (List.mem_of_mem_take hc))
      · cases h
    · cases h
  · rw [if_neg g] at h
    cases h
mutual
/-- what decode read is what encode writes -/
theorem pval_back : ∀ (n : Nat) (l r : List Nat) (t : Tr), pval n l = some (t, r) → l = txt t ++ r ∧ ((∀ c ∈ l, prc c = true) → pl n t = true)
  | 0, l, r, t, h => by
    unfold pval at h
    split at h
    · cases h
    · exact leaf_back h
  | n + 1, l, r, t, h => by
    unfold pval at h
    split at h
    · rename_i r'
      cases e : items (pval n) (r'.length + 1) r' with
      | none => rw [e] at h; cases h
      | some x =>
        obtain ⟨ts, r2⟩ := x
        rw [e] at h
        cases h
        obtain ⟨q1, q2⟩ := items_back n (r'.length + 1) r' r ts e
        refine ⟨?_, fun hp => q2 fun c hc => hp c (List.mem_cons_of_mem _ hc)⟩
        show 91 :: r' = 91 :: (txts ts ++ [93]) ++ r
        rw [q1, List.cons_append, List.append_assoc]
        rfl
    · exact leaf_back h
theorem items_back : ∀ (n f : Nat) (l r : List Nat) (ts : List Tr), items (pval n) f l = some (ts, r) → l = txts ts ++ 93 :: r ∧ ((∀ c ∈ l, prc c = true) → pls n ts = true)
  | _, 0, _, _, _, h => by cases h
  | n, f + 1, l, r, ts, h => by
    unfold items at h
    split at h
    · rename_i r'
      cases h
      exact ⟨rfl, fun _ => rfl⟩
    · cases e : pval n l with
      | none => rw [e] at h; cases h
      | some x =>
        obtain ⟨t, r1⟩ := x
        rw [e] at h
        simp only at h
        cases e2 : items (pval n) f r1 with
        | none => rw [e2] at h; cases h
        | some y =>
          obtain ⟨us, r2⟩ := y
          rw [e2] at h
          cases h
          obtain ⟨p1, p2⟩ := pval_back n l r1 t e
          obtain ⟨q1, q2⟩ := items_back n f r1 r us e2
          refine ⟨?_, fun hp => ?_⟩
          · show l = (txt t ++ txts us) ++ 93 :: r
            rw [p1, q1, List.append_assoc]
          · show (pl n t && pls n us) = true
            rw [p2 hp, q2 fun c hc => hp c (by rw [p1]; exact List.mem_append_right _ hc)]
            rfl
end
end SC

/-! own errors of the text -/
namespace SC
open PySem L2
/-- an own error class over ValueError without an __init__ -/
structure Err (K : PySem.W.Frag) (mg : Str → Option Value) (x : Str) (C : Addr) : Prop where
  g : mg x = some (.ref C)
  e : PySem.W.excIn K C [.type "ValueError", .type "Exception", .type "BaseException", .type "object"] "ValueError.__new__" = true
  k : PySem.W.keepIn K (.ref C) = true
  b : PySem.W.subIn K (.ref C) (.type "BaseException") = some true
  t : PySem.W.typeIn K (.ref C) = some (.type "type")
  i : PySem.W.isClsIn K C = true
  s : PySem.W.subIn K (.ref C) (.ref C) = some true
def tErr (C : Addr) (W : WX) : TS := fun _ σ H => W (.ref C) none σ H
theorem Err.raise {X : Cx} {W : WX} {x m : Str} {C : Addr} {j : Nat} {p p2 pos pos2 : Pos} (T : Err X.K X.mg x C) (tk : Takes X W) (hc : X.calm = true := by rfl) (hg : Gl X x := by rfl) (hdb : (x == ("__debug__" : Str)) = false := by decide) :
    PS X (.Raise (some (.Call (.Name x p) [.Constant (.str m) j p2] [] pos)) none pos2) (tErr C W) :=
  ps_raise hc tk (pmk_own PySem.F.excBase_ValueError T.e T.g T.k (raises_own T.b T.t) hg hdb)
theorem Err.em {K : PySem.W.Frag} {mg : Str → Option Value} {x : Str} {C : Addr} (T : Err K mg x C) : PySem.W.exmOne K (.ref C) (.ref C) = some true := by
  have e1 : (PySem.W.subIn K (.ref C) (.type "BaseException") == some true) = true := by rw [T.b]; rfl
  have e2 : ((PySem.W.clsIn K C).isSome && PySem.W.typeIn K (.ref C) == some (.type "type")) = true := by
    rw [show (PySem.W.clsIn K C).isSome = true from T.i, T.t]; rfl
  have e3 : PySem.W.kitCls K (.ref C) (.ref C) = some true := by
    show (if ((PySem.W.clsIn K C).isSome && PySem.W.typeIn K (.ref C) == some (.type "type")) = true then PySem.W.subIn K (.ref C) (.ref C) else none) = some true
    rw [if_pos e2]; exact T.s
  show (if (PySem.W.subIn K (.ref C) (.type "BaseException") == some true) = true then PySem.W.kitCls K (.ref C) (.ref C) else none) = some true
  rw [if_pos e1]; exact e3
/-- what a raising def's callees let out, handed on -/
theorem passX {X : Cx} {E : XK} {W : WX} (tk : Takes X W) (h : ∀ cls d σ H, E cls d H → W cls d σ H) : Passes (L2.CX X.prog X.w) X E := passes_call tk h
/-- a module's constant int -/
theorem pe_cI {X : Cx} {x : Str} {n : Int} {t : Tok} {p : Pos} (h : X.mg x = some (.int n t)) (hg : Gl X x := by rfl) (hd : (x == ("__debug__" : Str)) = false := by decide) : PE X (.Name x p) (tC (.int n)) :=
  pe_glob (v := .int n) hg h ⟨t, rfl⟩ hd
/-- c * n, c one sign -/
theorem op_mulS {X : Cx} : OpR X (binaryOp .Mult) (fun x y H Q => ∃ (c : Nat) (n : Int), x = .str ⟨#[c]⟩ ∧ y = .int n ∧ (0 ≤ n ∧ n ≤ 16000000) ∧ Q (.str ⟨(List.replicate n.toNat c).toArray⟩) H) := by
  intro pins s σ H x y v u Q I rx ry h
  obtain ⟨c, n, rfl, rfl, ⟨n0, n1⟩, q⟩ := h
  obtain ⟨t, rfl⟩ := rx
  obtain ⟨t', rfl⟩ := ry
  have lim : sizeLine = 16777216 := sizeLine_eq
  have fold : ∀ (k : Nat) (a : Array Nat), ((List.replicate k (#[c] : Array Nat)).foldl (· ++ ·) a).toList = a.toList ++ List.replicate k c := by
    intro k
    induction k with
    | zero => intro a; simp
    | succ k ih => intro a; rw [List.replicate_succ, List.foldl_cons, ih, Array.toList_append, List.replicate_succ]; simp
  have e : Txt.mul (⟨#[c]⟩ : Str) n = ⟨(List.replicate n.toNat c).toArray⟩ := by
    unfold Txt.mul
    by_cases h1 : n < 1
    · rw [if_pos h1]
      have : n.toNat = 0 := by omega
      rw [this]; rfl
    · rw [if_neg h1]
      by_cases h2 : n = 1
      · subst h2; rfl
      · have h3 : (n == 1 || (⟨#[c]⟩ : Str).length == 0) = false := by
          have : (n == 1) = false := by simpa using h2
          rw [this]; rfl
        rw [h3, if_neg Bool.false_ne_true]
        refine TL.ext_tl ?_
        show ((List.replicate n.toNat (#[c] : Array Nat)).foldl (· ++ ·) #[]).toList = _
        rw [fold]
        simp [TL.tl]
  refine PySem.SB.mul ⟨?_, fun h1 h2 => ?_, fun h1 h2 => ?_⟩ fun t' k => ?_
  · rw [decide_eq_false (by omega), decide_eq_false (by omega)]; rfl
  · show ¬ ((1 : Int) > (2 ^ 63 - 1) / n)
    have : (1 : Int) ≤ (2 ^ 63 - 1) / n := by
      rw [Int.le_ediv_iff_mul_le (by omega)]
      omega
    omega
  · show PySem.Builtin.Str.tooLong (1 * n.toNat) = false
    rw [Nat.one_mul]
    unfold PySem.Builtin.Str.tooLong
    simp only [decide_eq_false_iff_not]
    omega
  · rw [e]
    exact ⟨.str _, H, I.tok _, ⟨_, rfl⟩, q⟩
theorem dig_len {n : Nat} (h : n < 10 ^ 20) : (dig n).length ≤ 20 := TL.numL_len (by decide) h
theorem txt_size {n : Nat} : ∀ {t : Tr}, pl n t = true → fit t = true → sml t = true → (txt t).length ≤ 10000100
  | .int i, h, _, _ => by
    have h : (decide (0 ≤ i) && decide (i ≤ 99999999999999999999)) = true := h
    rw [Bool.and_eq_true, decide_eq_true_eq, decide_eq_true_eq] at h
    have := dig_len (n := i.toNat) (by omega)
    show (dig i.toNat ++ [46]).length ≤ _
    rw [List.length_append]
    show _ + 1 ≤ _
    omega
  | .str z, _, _, hs => by
    have h : z.length ≤ 10000000 := of_decide_eq_true hs
    have := dig_len (n := z.length) (by omega)
    show (dig z.length ++ 58 :: TL.tl z).length ≤ _
    rw [List.length_append, List.length_cons, ← TL.len_tl]
    omega
  | .tup ts, _, h, _ => by
    have h : (fits ts && decide ((txts ts).length + 2 ≤ 100000)) = true := h
    rw [Bool.and_eq_true, decide_eq_true_eq] at h
    show (91 :: (txts ts ++ [93])).length ≤ _
    rw [List.length_cons, List.length_append]
    show _ + 1 + 1 ≤ _
    omega
  | .oth _, h, _, _ => by cases h
theorem S_len (l : List Nat) : (⟨l.toArray⟩ : Str).length = l.length := by
  show l.toArray.size = _
  rw [List.size_toArray]
/-- str(n) -/
theorem toString_S (n : Nat) : Str.ofString (toString ((n : Nat) : Int)) = ⟨(dig n).toArray⟩ := TL.ext_tl (TL.tl_num n)
theorem app_S (a b : List Nat) : (⟨a.toArray⟩ : Str) ++ (⟨b.toArray⟩ : Str) = ⟨(a ++ b).toArray⟩ := TL.ext_tl (by rw [TL.tl_append])
theorem S_of (z : Str) : z = ⟨(TL.tl z).toArray⟩ := (TL.mk_tl z).symm
theorem log_small {i : Int} (h0 : 0 ≤ i) (h : i ≤ 99999999999999999999) : i.natAbs.log2 < 1920 := by
  by_cases z : i.natAbs = 0
  · rw [z]; decide
  · have := (Nat.log2_lt (k := 70) z).mpr (by omega)
    omega
theorem pls_mem {n : Nat} {t : Tr} : ∀ {ts : List Tr}, pls n ts = true → t ∈ ts → pl n t = true
  | u :: ts, h, m => by
    have h : (pl n u && pls n ts) = true := h
    rw [Bool.and_eq_true] at h
    rcases List.mem_cons.mp m with rfl | m
    · exact h.1
    · exact pls_mem h.2 m
theorem fits_mem {t : Tr} : ∀ {ts : List Tr}, fits ts = true → t ∈ ts → fit t = true
  | u :: ts, h, m => by
    have h : (fit u && fits ts) = true := h
    rw [Bool.and_eq_true] at h
    rcases List.mem_cons.mp m with rfl | m
    · exact h.1
    · exact fits_mem h.2 m
theorem smls_mem {t : Tr} : ∀ {ts : List Tr}, smls ts = true → t ∈ ts → sml t = true
  | u :: ts, h, m => by
    have h : (sml u && smls ts) = true := h
    rw [Bool.and_eq_true] at h
    rcases List.mem_cons.mp m with rfl | m
    · exact h.1
    · exact smls_mem h.2 m
theorem take_one {α : Type} {l : List α} {i : Nat} {x : α} (h : l[i]? = some x) : l.take (i + 1) = l.take i ++ [x] := by
  rw [List.take_add_one, h]; rfl
/-- the texts of items, as Python's texts -/
def tys (ts : List Tr) : List Str := ts.map fun t => (⟨(txt t).toArray⟩ : Str)
theorem tys_app (ts us : List Tr) : tys (ts ++ us) = tys ts ++ tys us := List.map_append
theorem tl_tys : ∀ ts : List Tr, TL.tl (Txt.join (Str.ofString "") (tys ts)) = txts ts := by
  intro ts
  rw [tl_joinE]
  induction ts with
  | nil => rfl
  | cons t ts ih =>
    show txt t ++ ((tys ts).map TL.tl).flatten = txt t ++ txts ts
    rw [ih]
theorem tys_sum : ∀ ts : List Tr, ((tys ts).map (·.length)).sum = (txts ts).length
  | [] => rfl
  | t :: ts => by
    show (⟨(txt t).toArray⟩ : Str).length + ((tys ts).map (·.length)).sum = (txt t ++ txts ts).length
    rw [tys_sum ts, S_len, List.length_append]
theorem take_le : ∀ (ts : List Tr) (i : Nat), (txts (ts.take i)).length ≤ (txts ts).length
  | [], i => by rw [List.take_nil]; exact Nat.le_refl _
  | t :: ts, 0 => Nat.zero_le _
  | t :: ts, i + 1 => by
    show (txt t ++ txts (ts.take i)).length ≤ (txt t ++ txts ts).length
    have := take_le ts i
    rw [List.length_append, List.length_append]
    omega
theorem TabG.ne_lst {Pt p : Addr} {H : Hp} {xs : List V} (g : GxR.TabG H Pt) (h : H p = some (.lst xs)) : p ≠ Pt := by
  obtain ⟨ps, e, _⟩ := g
  exact ne_of h e (by intro z; cases z)
theorem TabG.upd {Pt p : Addr} {H : Hp} {o : HO} (g : GxR.TabG H Pt) (n : p ≠ Pt) : GxR.TabG (upd H p o) Pt := by
  obtain ⟨ps, e, q⟩ := g
  exact ⟨ps, by rw [upd_ne (Ne.symm n)]; exact e, q⟩
end SC

/-! decode: what its readings want -/
namespace SC
open PySem L2
theorem no_oth : ∀ {n : Nat} {l r : List Nat} {v : V}, pval n l ≠ some (.oth v, r) := by
  have lf : ∀ {l r : List Nat} {v : V}, leaf l ≠ some (.oth v, r) := fun {l r v} h => by
    unfold leaf at h
    split at h
    · split at h
      · cases h
      · split at h <;> cases h
      · cases h
    · cases h
  intro n l r v h
  cases n with
  | zero =>
    unfold pval at h
    split at h
    · cases h
    · exact lf h
  | succ n =>
    unfold pval at h
    split at h
    · split at h <;> cases h
    · exact lf h
theorem pval_dec {n : Nat} {l r : List Nat} {t : Tr} (h : pval n l = some (t, r)) : r.length < l.length := by
  have e := (pval_back n l r t h).1
  have pos : 0 < (txt t).length := by
    cases t with
    | int i => show 0 < (dig i.toNat ++ [46]).length; rw [List.length_append]; show 0 < _ + 1; omega
    | str z => show 0 < (dig z.length ++ 58 :: TL.tl z).length; rw [List.length_append, List.length_cons]; omega
    | tup ts => show 0 < (91 :: (txts ts ++ [93])).length; rw [List.length_cons]; omega
    | oth v => exact absurd h no_oth
  rw [e, List.length_append]
  omega
theorem items_fuel {n : Nat} : ∀ (k : Nat) (l : List Nat) (f g : Nat), l.length = k → l.length < f → l.length < g → items (pval n) f l = items (pval n) g l := by
  intro k
  induction k using Nat.strongRecOn with
  | _ k ih =>
    intro l f g hk hf hg
    cases f with
    | zero => omega
    | succ f =>
      cases g with
      | zero => omega
      | succ g =>
        unfold items
        split
        · rfl
        · cases e : pval n l with
          | none => rfl
          | some x =>
            obtain ⟨t, r⟩ := x
            have := pval_dec e
            simp only
            rw [ih r.length (by omega) r f g rfl (by omega) (by omega)]
def itm (n : Nat) (l : List Nat) : Option (List Tr × List Nat) := items (pval n) (l.length + 1) l
theorem itm_close (n : Nat) (r : List Nat) : itm n (93 :: r) = some ([], r) := rfl
theorem itm_step {n : Nat} {l : List Nat} (h : l.head? ≠ some 93) : itm n l = match pval n l with
    | none => none
    | some (t, r) => (itm n r).map fun x => (t :: x.1, x.2) := by
  unfold itm
  cases l with
  | nil =>
    unfold items
    simp only
    cases e : pval n [] with
    | none => rfl
    | some x => obtain ⟨t, r⟩ := x; exact absurd (pval_dec e) (by simp)
  | cons a l =>
    have ha : a ≠ 93 := fun z => h (by rw [z]; rfl)
    rw [show items (pval n) ((a :: l).length + 1) (a :: l) = match pval n (a :: l) with
      | none => none
      | some (t, r) => match items (pval n) (a :: l).length r with
        | none => none
        | some (ts, r2) => some (t :: ts, r2) from by
      conv => lhs; unfold items
      split
      · rename_i z; injection z with z _; exact absurd z ha
      · rfl]
    cases e : pval n (a :: l) with
    | none => rfl
    | some x =>
      obtain ⟨t, r⟩ := x
      have := pval_dec e
      simp only
      rw [items_fuel r.length r (a :: l).length (r.length + 1) rfl (by omega) (by omega)]
      cases items (pval n) (r.length + 1) r with
      | none => rfl
      | some y => rfl
theorem pval_br (n : Nat) (r : List Nat) : pval (n + 1) (91 :: r) = (itm n r).map fun x => (.tup x.1, x.2) := by
  unfold pval itm
  simp only
  cases items (pval n) (r.length + 1) r with
  | none => rfl
  | some x => rfl
/-- a slice of a text by natural bounds -/
theorem cut_nat (z : Str) {a b : Nat} (h : a ≤ b) : TL.tl (cutS z (some (a : Int)) (some (b : Int))) = ((TL.tl z).drop a).take (b - a) := by
  show (z.cps.toList.drop (HT.sIx z.length 0 (some (a : Int)))).take (HT.sIx z.length z.length (some (b : Int)) - HT.sIx z.length 0 (some (a : Int))) = _
  have sx : ∀ (k d : Nat), HT.sIx z.length d (some (k : Int)) = min k z.length := fun k d => by
    show (if (k : Int) < 0 then ((k : Int) + (z.length : Int)).toNat else min (k : Int).toNat z.length) = _
    rw [if_neg (by omega), Int.toNat_natCast]
  rw [sx, sx]
  have el : z.cps.toList.length = z.length := (TL.len_tl z).symm
  by_cases ha : a ≤ z.length
  · rw [Nat.min_eq_left ha]
    by_cases hb : b ≤ z.length
    · rw [Nat.min_eq_left hb]
    · rw [Nat.min_eq_right (by omega), List.take_of_length_le (by rw [List.length_drop]; omega), List.take_of_length_le (by rw [List.length_drop, show (TL.tl z).length = z.length from el]; omega)]
  · rw [Nat.min_eq_right (by omega), Nat.min_eq_right (by omega), Nat.sub_self, List.take_zero]
    rw [List.drop_eq_nil_of_le (by rw [show (TL.tl z).length = z.length from el]; omega), List.take_nil]
theorem cut_one (z : Str) (a : Nat) : TL.tl (cutS z (some (a : Int)) (some ((a : Int) + 1))) = ((TL.tl z).drop a).take 1 := by
  have h := cut_nat z (a := a) (b := a + 1) (Nat.le_succ a)
  rw [show a + 1 - a = 1 by omega] at h
  exact h
/-- a one-sign slice compared with a sign -/
theorem one_sign_eq {x : Str} {d : List Nat} {c : Nat} (h : TL.tl x = d.take 1) : x = ⟨#[c]⟩ ↔ d.head? = some c := by
  constructor
  · intro e
    have e2 : TL.tl x = [c] := by rw [e]
    rw [h] at e2
    cases d with
    | nil => cases e2
    | cons a d => injection e2 with e2 _; rw [e2]; rfl
  · intro e
    cases d with
    | nil => cases e
    | cons a d =>
      have : a = c := Option.some.inj e
      subst this
      exact TL.ext_tl (by rw [h]; rfl)
section
variable {H H' : Hp}
theorem tyN_kp0 {v : V} {t : String} (k : Kp [] H H') (h : tyN H v = some t) : tyN H' v = some t := by
  cases v with
  | ref p =>
    unfold tyN at h
    simp only at h
    split at h
    · rename_i xs q; cases h; exact tyN_lst (k.keep _ _ (by simp) q)
    · rename_i xs q; cases h; exact tyN_tup (k.keep _ _ (by simp) q)
    · rename_i xs q; cases h; exact tyN_dK (k.keep _ _ (by simp) q)
    · cases h
  | _ => exact h
mutual
theorem Rep.kp0 (k : Kp [] H H') : ∀ {v : V} {t : Tr}, Rep H v t → Rep H' v t
  | _, _, .int i => .int i
  | _, _, .str z => .str z
  | _, _, .tup e h => .tup (k.tup _ _ e) (h.kp0 k)
  | _, _, .oth e a b c => .oth (tyN_kp0 k e) a b c
theorem RepAll.kp0 (k : Kp [] H H') : ∀ {vs : List V} {ts : List Tr}, RepAll H vs ts → RepAll H' vs ts
  | _, _, .nil => .nil
  | _, _, .cons a b => .cons (a.kp0 k) (b.kp0 k)
end
end
theorem takeWhile_take (l : List Nat) : l.take (l.takeWhile isD).length = l.takeWhile isD ∧ l.drop (l.takeWhile isD).length = l.dropWhile isD := by
  induction l with
  | nil => exact ⟨rfl, rfl⟩
  | cons a l ih =>
    cases h : isD a with
    | true => simp [List.takeWhile, List.dropWhile, h, ih.1, ih.2]
    | false => simp [List.takeWhile, List.dropWhile, h]
theorem tw_next : ∀ (D : List Nat) (k : Nat), k ≤ (D.takeWhile isD).length → (∃ c r, D.drop k = c :: r ∧ isD c = true ∧ k < (D.takeWhile isD).length) ∨ (k = (D.takeWhile isD).length ∧ (D.drop k = [] ∨ ∃ c r, D.drop k = c :: r ∧ isD c = false))
  | [], k, h => by
    have : k = 0 := Nat.le_zero.mp h
    subst this
    exact .inr ⟨rfl, .inl rfl⟩
  | a :: D, 0, h => by
    cases ha : isD a with
    | true => exact .inl ⟨a, D, rfl, ha, by simp [List.takeWhile, ha]⟩
    | false => exact .inr ⟨by simp [List.takeWhile, ha], .inr ⟨a, D, rfl, ha⟩⟩
  | a :: D, k + 1, h => by
    cases ha : isD a with
    | true =>
      have e : (a :: D).takeWhile isD = a :: D.takeWhile isD := by simp [List.takeWhile, ha]
      rw [e] at h ⊢
      have h : k + 1 ≤ (D.takeWhile isD).length + 1 := h
      rcases tw_next D k (by omega) with ⟨c, r, q1, q2, q3⟩ | ⟨q1, q2⟩
      · exact .inl ⟨c, r, q1, q2, by show k + 1 < _ + 1; omega⟩
      · exact .inr ⟨by show k + 1 = _ + 1; omega, q2⟩
    | false =>
      have e : (a :: D).takeWhile isD = [] := by simp [List.takeWhile, ha]
      rw [e] at h
      exact absurd h (by simp)
theorem lt48 {x : Str} {d : List Nat} (h : TL.tl x = d.take 1) : (x.cps.toList < (Str.ofString "0").cps.toList) ↔ (d = [] ∨ ∃ c r, d = c :: r ∧ c < 48) := by
  have e : (Str.ofString "0").cps.toList = [48] := by decide +kernel
  rw [e, show x.cps.toList = d.take 1 from h]
  cases d with
  | nil => exact ⟨fun _ => .inl rfl, fun _ => List.Lex.nil⟩
  | cons c r =>
    show ([c] < [48]) ↔ _
    rw [one_lt]
    constructor
    · intro q; exact .inr ⟨c, r, rfl, q⟩
    · rintro (q | ⟨c', r', q, q2⟩)
      · cases q
      · injection q with q _; rw [q]; exact q2
theorem lt57 {x : Str} {c : Nat} {r : List Nat} (h : TL.tl x = (c :: r).take 1) : ((Str.ofString "9").cps.toList < x.cps.toList) ↔ 57 < c := by
  have e : (Str.ofString "9").cps.toList = [57] := by decide +kernel
  rw [e, show x.cps.toList = [c] from h]
  exact one_lt
section
variable {H : Hp} {p : Addr} {xs ys : List V}
theorem tyN_updL (h : H p = some (.lst xs)) {v : V} {t : String} (e : tyN H v = some t) : tyN (upd H p (.lst ys)) v = some t := by
  cases v with
  | ref a =>
    by_cases c : a = p
    · subst c
      rw [tyN_lst h] at e
      rw [tyN_lst upd_same]
      exact e
    · unfold tyN at e ⊢
      simp only at e ⊢
      rw [upd_ne c]
      exact e
  | _ => exact e
mutual
theorem Rep.updL (h : H p = some (.lst xs)) : ∀ {v : V} {t : Tr}, Rep H v t → Rep (upd H p (.lst ys)) v t
  | _, _, .int i => .int i
  | _, _, .str z => .str z
  | _, _, .tup e q => .tup (by rw [upd_ne (ne_of e h (by intro z; cases z))]; exact e) (q.updL h)
  | _, _, .oth e a b c => .oth (tyN_updL h e) a b c
theorem RepAll.updL (h : H p = some (.lst xs)) : ∀ {vs : List V} {ts : List Tr}, RepAll H vs ts → RepAll (upd H p (.lst ys)) vs ts
  | _, _, .nil => .nil
  | _, _, .cons a b => .cons (a.updL h) (b.updL h)
end
end
end SC

/-! values that a law draws: their bounds -/
namespace SC
open PySem L2
theorem ok_never {P : Program} {w : World} {K : PySem.W.Frag} {mg : Str → Option Value} {base : Heap} {CX : CXT} {k : Nat} {f : Addr} {fd : FuncData} {ps : List Str} : FnOk P w K mg base CX k f fd ps (fun _ _ _ _ => False) :=
  ⟨fun _ _ _ _ h => h.elim, fun _ _ _ _ _ _ _ _ _ _ _ _ _ h => h.elim⟩
mutual
/-- how many tuples -/
def nT : Tr → Nat
  | .tup ts => 1 + nTs ts
  | _ => 0
def nTs : List Tr → Nat
  | [] => 0
  | t :: ts => nT t + nTs ts
end
mutual
/-- drawn: small leaves, at most three items, at most n deep -/
def gd (n : Nat) : Tr → Bool
  | .int i => decide (0 ≤ i) && decide (i ≤ 99999999999999999999)
  | .str z => decide (z.length ≤ 105) && prn z
  | .tup ts => match n with
    | 0 => false
    | m + 1 => decide (ts.length ≤ 3) && gds m ts
  | .oth _ => false
def gds (n : Nat) : List Tr → Bool
  | [] => true
  | t :: ts => gd n t && gds n ts
end
theorem gds_app (n : Nat) : ∀ (ts us : List Tr), gds n (ts ++ us) = (gds n ts && gds n us)
  | [], us => by simp [gds]
  | t :: ts, us => by
    show (gd n t && gds n (ts ++ us)) = ((gd n t && gds n ts) && gds n us)
    rw [gds_app n ts us, Bool.and_assoc]
theorem nTs_app : ∀ (ts us : List Tr), nTs (ts ++ us) = nTs ts + nTs us
  | [], us => by simp [nTs]
  | t :: ts, us => by
    show nT t + nTs (ts ++ us) = (nT t + nTs ts) + nTs us
    rw [nTs_app ts us, Nat.add_assoc]
mutual
theorem gd_pl : ∀ (n : Nat) (t : Tr), gd n t = true → pl n t = true ∧ sml t = true
  | n, .int i, h => ⟨h, rfl⟩
  | n, .str z, h => by
    have h : (decide (z.length ≤ 105) && prn z) = true := h
    rw [Bool.and_eq_true, decide_eq_true_eq] at h
    exact ⟨h.2, by show decide (z.length ≤ 10000000) = true; rw [decide_eq_true (by omega)]⟩
  | 0, .tup ts, h => by cases h
  | n + 1, .tup ts, h => by
    have h : (decide (ts.length ≤ 3) && gds n ts) = true := h
    rw [Bool.and_eq_true, decide_eq_true_eq] at h
    obtain ⟨q1, q2⟩ := gds_pl n ts h.2
    exact ⟨q1, by show (smls ts && decide (ts.length ≤ 1000000)) = true; rw [q2, decide_eq_true (by omega)]; rfl⟩
  | _, .oth _, h => by cases h
theorem gds_pl : ∀ (n : Nat) (ts : List Tr), gds n ts = true → pls n ts = true ∧ smls ts = true
  | _, [], _ => ⟨rfl, rfl⟩
  | n, t :: ts, h => by
    have h : (gd n t && gds n ts) = true := h
    rw [Bool.and_eq_true] at h
    obtain ⟨a1, a2⟩ := gd_pl n t h.1
    obtain ⟨b1, b2⟩ := gds_pl n ts h.2
    exact ⟨by show (pl n t && pls n ts) = true; rw [a1, b1]; rfl, by show (sml t && smls ts) = true; rw [a2, b2]; rfl⟩
end
mutual
theorem gd_len : ∀ (n : Nat) (t : Tr), gd n t = true → (txt t).length ≤ 130 + 400 * nT t
  | n, .int i, h => by
    have h : (decide (0 ≤ i) && decide (i ≤ 99999999999999999999)) = true := h
    rw [Bool.and_eq_true, decide_eq_true_eq, decide_eq_true_eq] at h
    have := dig_len (n := i.toNat) (by omega)
    show (dig i.toNat ++ [46]).length ≤ _
    rw [List.length_append]
    show _ + 1 ≤ _
    omega
  | n, .str z, h => by
    have h : (decide (z.length ≤ 105) && prn z) = true := h
    rw [Bool.and_eq_true, decide_eq_true_eq] at h
    have := dig_len (n := z.length) (by omega)
    show (dig z.length ++ 58 :: TL.tl z).length ≤ _
    rw [List.length_append, List.length_cons, ← TL.len_tl]
    omega
  | 0, .tup ts, h => by cases h
  | n + 1, .tup ts, h => by
    have h : (decide (ts.length ≤ 3) && gds n ts) = true := h
    rw [Bool.and_eq_true, decide_eq_true_eq] at h
    have := gds_len n ts h.2
    show (91 :: (txts ts ++ [93])).length ≤ 130 + 400 * (1 + nTs ts)
    rw [List.length_cons, List.length_append]
    show _ + 1 + 1 ≤ _
    omega
  | _, .oth _, h => by cases h
theorem gds_len : ∀ (n : Nat) (ts : List Tr), gds n ts = true → (txts ts).length ≤ 130 * ts.length + 400 * nTs ts
  | _, [], _ => Nat.zero_le _
  | n, t :: ts, h => by
    have h : (gd n t && gds n ts) = true := h
    rw [Bool.and_eq_true] at h
    have a := gd_len n t h.1
    have b := gds_len n ts h.2
    show (txt t ++ txts ts).length ≤ 130 * (ts.length + 1) + 400 * (nT t + nTs ts)
    rw [List.length_append]
    omega
end
mutual
theorem pl_mono : ∀ (n m : Nat) (t : Tr), n ≤ m → pl n t = true → pl m t = true
  | _, _, .int _, _, h => h
  | _, _, .str _, _, h => h
  | 0, _, .tup _, _, h => by cases h
  | n + 1, 0, .tup _, q, _ => by omega
  | n + 1, m + 1, .tup ts, q, h => pls_mono n m ts (by omega) h
  | _, _, .oth _, _, h => h
theorem pls_mono : ∀ (n m : Nat) (ts : List Tr), n ≤ m → pls n ts = true → pls m ts = true
  | _, _, [], _, _ => rfl
  | n, m, t :: ts, q, h => by
    have h : (pl n t && pls n ts) = true := h
    rw [Bool.and_eq_true] at h
    show (pl m t && pls m ts) = true
    rw [pl_mono n m t q h.1, pls_mono n m ts q h.2]
    rfl
end
mutual
/-- no other kind within: such values stand whatever lists change -/
def pure_ : Tr → Bool
  | .oth _ => false
  | .tup ts => pures ts
  | _ => true
def pures : List Tr → Bool
  | [] => true
  | t :: ts => pure_ t && pures ts
end
mutual
theorem pl_pure : ∀ (n : Nat) (t : Tr), pl n t = true → pure_ t = true
  | _, .int _, _ => rfl
  | _, .str _, _ => rfl
  | 0, .tup _, h => by cases h
  | n + 1, .tup ts, h => pls_pure n ts h
  | _, .oth _, h => by cases h
theorem pls_pure : ∀ (n : Nat) (ts : List Tr), pls n ts = true → pures ts = true
  | _, [], _ => rfl
  | n, t :: ts, h => by
    have h : (pl n t && pls n ts) = true := h
    rw [Bool.and_eq_true] at h
    show (pure_ t && pures ts) = true
    rw [pl_pure n t h.1, pls_pure n ts h.2]
    rfl
end
mutual
theorem Rep.any {S : List Addr} {H H' : Hp} (k : Kp S H H') : ∀ {v : V} {t : Tr}, Rep H v t → pure_ t = true → Rep H' v t
  | _, _, .int i, _ => .int i
  | _, _, .str z, _ => .str z
  | _, _, .tup e q, h => .tup (k.tup _ _ e) (q.any k h)
  | _, _, .oth _ _ _ _, h => by cases h
theorem RepAll.any {S : List Addr} {H H' : Hp} (k : Kp S H H') : ∀ {vs : List V} {ts : List Tr}, RepAll H vs ts → pures ts = true → RepAll H' vs ts
  | _, _, .nil, _ => .nil
  | _, t :: ts, .cons a b, h => by
    have h : (pure_ t && pures ts) = true := h
    rw [Bool.and_eq_true] at h
    exact .cons (a.any k h.1) (b.any k h.2)
end
mutual
/-- the law's own comparison -/
def same : Tr → Tr → Bool
  | .tup us, .tup ts => sames us ts
  | .str a, .str b => decide (a = b)
  | .int a, .int b => decide (a = b)
  | _, _ => false
def sames : List Tr → List Tr → Bool
  | [], [] => true
  | u :: us, t :: ts => same u t && sames us ts
  | _, _ => false
end
mutual
theorem same_refl : ∀ (n : Nat) (t : Tr), pl n t = true → same t t = true
  | _, .int _, _ => by show decide _ = true; exact decide_eq_true rfl
  | _, .str _, _ => by show decide _ = true; exact decide_eq_true rfl
  | 0, .tup _, h => by cases h
  | n + 1, .tup ts, h => sames_refl n ts h
  | _, .oth _, h => by cases h
theorem sames_refl : ∀ (n : Nat) (ts : List Tr), pls n ts = true → sames ts ts = true
  | _, [], _ => rfl
  | n, t :: ts, h => by
    have h : (pl n t && pls n ts) = true := h
    rw [Bool.and_eq_true] at h
    show (same t t && sames ts ts) = true
    rw [same_refl n t h.1, sames_refl n ts h.2]
    rfl
end
mutual
theorem same_eq : ∀ (a b : Tr), same a b = true → a = b
  | .tup us, .tup ts, h => by rw [sames_eq us ts h]
  | .str a, .str b, h => by rw [of_decide_eq_true (show decide (a = b) = true from h)]
  | .int a, .int b, h => by rw [of_decide_eq_true (show decide (a = b) = true from h)]
  | .oth _, .oth _, h => by cases h
  | .oth _, .int _, h => by cases h
  | .oth _, .str _, h => by cases h
  | .oth _, .tup _, h => by cases h
  | .int _, .oth _, h => by cases h
  | .int _, .str _, h => by cases h
  | .int _, .tup _, h => by cases h
  | .str _, .oth _, h => by cases h
  | .str _, .int _, h => by cases h
  | .str _, .tup _, h => by cases h
  | .tup _, .oth _, h => by cases h
  | .tup _, .int _, h => by cases h
  | .tup _, .str _, h => by cases h
theorem sames_eq : ∀ (us ts : List Tr), sames us ts = true → us = ts
  | [], [], _ => rfl
  | u :: us, t :: ts, h => by
    have h : (same u t && sames us ts) = true := h
    rw [Bool.and_eq_true] at h
    rw [same_eq u t h.1, sames_eq us ts h.2]
  | [], _ :: _, h => by cases h
  | _ :: _, [], h => by cases h
end
theorem sames_len : ∀ {us ts : List Tr}, sames us ts = true → us.length = ts.length := fun h => by rw [sames_eq _ _ h]
/-- one promise for all depths up to a bound -/
theorem fnok_ex {P : Program} {w : World} {K : PySem.W.Frag} {mg : Str → Option Value} {base : Heap} {CX : CXT} {k : Nat} {f : Addr} {fd : FuncData} {ps : List Str} {sp : Nat → Sp} {N : Nat} (h : ∀ n, n ≤ N → FnOk P w K mg base CX k f fd ps (sp n)) :
    FnOk P w K mg base CX k f fd ps (fun vs H Q E => ∃ n, n ≤ N ∧ sp n vs H Q E) :=
  ⟨fun vs H Q E ⟨n, hn, q⟩ => (h n hn).len vs H Q E q, fun A outer s H args us vs Q E hr he hb hv ⟨n, hn, q⟩ => (h n hn).run A outer s H args us vs Q E hr he hb hv q⟩
theorem strT {z : Str} (hz : z.length ≤ 10000000) : z.length ≤ sizeLine ∧ (z.length : Int).natAbs.log2 < 1920 ∧ (Str.ofString (toString (z.length : Int))).length + (Str.ofString ":").length ≤ sizeLine ∧
    (Str.ofString (toString (z.length : Int)) ++ Str.ofString ":").length + z.length ≤ sizeLine ∧ Str.ofString (toString (z.length : Int)) ++ Str.ofString ":" ++ z = ⟨(txt (.str z)).toArray⟩ := by
  have lim : sizeLine = 16777216 := sizeLine_eq
  have dl := dig_len (n := z.length) (by omega)
  have e1 : (Str.ofString (toString (z.length : Int))).length ≤ 20 := by rw [toString_S, S_len]; exact dl
  have e2 : (Str.ofString ":").length = 1 := by decide +kernel
  have e3 : (Str.ofString (toString (z.length : Int)) ++ Str.ofString ":").length ≤ 21 := by
    rw [TL.len_tl, TL.tl_append, List.length_append, ← TL.len_tl, ← TL.len_tl]; omega
  refine ⟨by omega, log_small (by omega) (by omega), by omega, by omega, TL.ext_tl ?_⟩
  rw [TL.tl_append, TL.tl_append, TL.tl_num]
  show (dig z.length ++ [58]) ++ TL.tl z = dig z.length ++ 58 :: TL.tl z
  rw [List.append_assoc]; rfl
theorem intT {i : Int} (h0 : 0 ≤ i) (h1 : i ≤ 99999999999999999999) : i.natAbs.log2 < 1920 ∧ (Str.ofString (toString i)).length + (Str.ofString ".").length ≤ sizeLine ∧ Str.ofString (toString i) ++ Str.ofString "." = ⟨(txt (.int i)).toArray⟩ := by
  have lim : sizeLine = 16777216 := sizeLine_eq
  have ei : i = ((i.toNat : Nat) : Int) := by omega
  have dl := dig_len (n := i.toNat) (by omega)
  have e2 : (Str.ofString ".").length = 1 := by decide +kernel
  have e1 : (Str.ofString (toString i)).length ≤ 20 := by rw [ei, toString_S, S_len]; exact dl
  refine ⟨log_small h0 h1, by omega, TL.ext_tl ?_⟩
  rw [TL.tl_append]
  show TL.tl (Str.ofString (toString i)) ++ [46] = dig i.toNat ++ [46]
  rw [show TL.tl (Str.ofString (toString i)) = dig i.toNat by rw [ei]; exact TL.tl_num _]
theorem tupT (ts : List Tr) (h : (txts ts).length ≤ 16000000) : ((tys ts).map (·.length)).sum + (tys ts).length * (Str.ofString "").length ≤ 16777216 ∧ (Str.ofString "[").length + (Txt.join (Str.ofString "") (tys ts)).length ≤ sizeLine ∧
    (Str.ofString "[" ++ Txt.join (Str.ofString "") (tys ts)).length + (Str.ofString "]").length ≤ sizeLine ∧ Str.ofString "[" ++ Txt.join (Str.ofString "") (tys ts) ++ Str.ofString "]" = ⟨(txt (.tup ts)).toArray⟩ := by
  have lim : sizeLine = 16777216 := sizeLine_eq
  have h2 : (Str.ofString "]").length = 1 := by decide +kernel
  have h1 : (Str.ofString "[").length = 1 := by decide +kernel
  refine ⟨?_, ?_, ?_, TL.ext_tl ?_⟩
  · rw [tys_sum]
    show _ + (tys ts).length * 0 ≤ _
    omega
  · rw [h1, TL.len_tl, tl_tys]; omega
  · rw [TL.len_tl, TL.tl_append, List.length_append, ← TL.len_tl, h1, tl_tys, h2]; omega
  · rw [TL.tl_append, TL.tl_append, tl_tys]
    rfl
theorem sames_cat {u t : Tr} (h : same u t = true) : ∀ (us ts : List Tr), sames us ts = true → sames (us ++ [u]) (ts ++ [t]) = true
  | [], [], _ => by show (same u t && true) = true; rw [h]; rfl
  | a :: us, b :: ts, q => by
    have q : (same a b && sames us ts) = true := q
    rw [Bool.and_eq_true] at q
    show (same a b && sames (us ++ [u]) (ts ++ [t])) = true
    rw [q.1, sames_cat h us ts q.2]; rfl
  | [], _ :: _, q => by cases q
  | _ :: _, [], q => by cases q
theorem dig_prc (n : Nat) : ∀ c ∈ dig n, prc c = true := fun c hc => by
  obtain ⟨h1, h2⟩ := isD_iff.mp (dig_isD n c hc)
  unfold prc
  rw [decide_eq_true (by omega), decide_eq_true (by omega), decide_eq_false (by omega)]
  rfl
mutual
theorem txt_prc : ∀ (n : Nat) (t : Tr), pl n t = true → ∀ c ∈ txt t, prc c = true
  | n, .int i, _, c, h => by
    rcases List.mem_append.mp (show c ∈ dig i.toNat ++ [46] from h) with h | h
    · exact dig_prc _ c h
    · rw [List.mem_singleton.mp h]; decide
  | n, .str z, hp, c, h => by
    rcases List.mem_append.mp (show c ∈ dig z.length ++ 58 :: TL.tl z from h) with h | h
    · exact dig_prc _ c h
    · rcases List.mem_cons.mp h with h | h
      · rw [h]; decide
      · have hp : prn z = true := hp
        unfold prn at hp
        exact List.all_eq_true.mp hp c h
  | 0, .tup ts, hp, c, h => by cases hp
  | n + 1, .tup ts, hp, c, h => by
    rcases List.mem_cons.mp (show c ∈ 91 :: (txts ts ++ [93]) from h) with h | h
    · rw [h]; decide
    · rcases List.mem_append.mp h with h | h
      · exact txts_prc n ts hp c h
      · rw [List.mem_singleton.mp h]; decide
  | _, .oth _, hp, _, _ => by cases hp
theorem txts_prc : ∀ (n : Nat) (ts : List Tr), pls n ts = true → ∀ c ∈ txts ts, prc c = true
  | _, [], _, c, h => by cases h
  | n, t :: ts, hp, c, h => by
    have hp : (pl n t && pls n ts) = true := hp
    rw [Bool.and_eq_true] at hp
    rcases List.mem_append.mp (show c ∈ txt t ++ txts ts from h) with h | h
    · exact txt_prc n t hp.1 c h
    · exact txts_prc n ts hp.2 c h
end
theorem txt_prn {n : Nat} {t : Tr} (h : pl n t = true) : prn ⟨(txt t).toArray⟩ = true := by
  unfold prn
  exact List.all_eq_true.mpr fun c hc => txt_prc n t h c (by simpa using hc)
end SC

namespace SC
open PySem L2 PyProof.Rows
theorem hexF (n : Nat) : PyProof.Rows.intField' { align := 62, type := some 120 } false [] ((Nat.toDigits 16 n).map fun c => (if (120 : Nat) == 88 then c.toUpper else c).toNat) [] 4 = ⟨((Nat.toDigits 16 n).map Char.toNat).toArray⟩ := by
  have e : ((Nat.toDigits 16 n).map fun c => (if (120 : Nat) == 88 then c.toUpper else c).toNat) = (Nat.toDigits 16 n).map Char.toNat := by
    apply List.map_congr_left
    intro c _
    rw [if_neg (by decide)]
  rw [e]
  unfold PyProof.Rows.intField'
  have hd : ((Nat.toDigits 16 n).map Char.toNat).isEmpty = false := by
    have := tDigits_len_ge 16 n
    cases h : Nat.toDigits 16 n with
    | nil => rw [h] at this; simp at this
    | cons _ _ => rfl
  generalize (Nat.toDigits 16 n).map Char.toNat = ds at hd ⊢
  simp [hd]
open PySem.W PySem.Calls Builtin Builtin.Str Builtin.Int Builtin.Float in
theorem fld_hex {prog : Program} {w : World} {A : Around} {E : Value → Shared → Prop} {s : Shared} {t : Tok} {n : Nat} {Q : Value → Shared → Prop} (hn : (Nat.toDigits 16 n).length ≤ 1000)
    (h : ∀ t' k, Q (.str ⟨((Nat.toDigits 16 n).map Char.toNat).toArray⟩ t') { s with toks := k }) : wpAny (model prog w) A (formatField (.int (n : Int) t) (PySem.Str.ofString "x")) Q E s := by
  refine PySem.W.KXf.field_int rfl (by decide) (by decide) ?_ h
  intro u
  apply PySem.W.KPc.meets_of
  intro p1 w1 A1 s1 Q1 E1 h1
  unfold Builtin.«int.__format__»
  have hne : ((Str.ofString "x").length == 0) = false := by decide
  have hasc : (((Str.ofString "x").cps.toList.drop 1).any (· ≥ 128) || ((Str.ofString "x").cps.getD 0 0 ≥ 128 && !([60, 62, 61, 94] : List Nat).contains ((Str.ofString "x").cps.getD 1 0))) = false := by decide
  simp only [selfAndOne, noKeywords, Int.intOfSelf, asInt?, asStr?, List.isEmpty_nil, if_true, pure_bind, bind_pure, bind_assoc, hne, hasc, Bool.false_eq_true, if_false,
    show (Value.str (Str.ofString "x") u == Value.none) = false from rfl]
  refine wpAny_bind (wpAny_typeNameOf (T := "str") (typeIs_str _ _ _) (by decide) fun _ => ?_)
  refine wpAny_bind (wpAny_typeNameOfCut_int ?_)
  have hp : parseFormatSpec (Str.ofString "x").cps.toList "int" 62 = .ok { align := 62, type := some 120 } := by rfl
  simp only [hp]
  rw [if_pos (show _ = true by decide)]
  conv => arg 3; whnf
  refine PySem.W.KXf.ret_text (T := ⟨((Nat.toDigits 16 n).map Char.toNat).toArray⟩) ?_ ?_ h1
  · show PyProof.Rows.intField' { align := 62, type := some 120 } (decide ((n : Int) < 0)) [] ((Nat.toDigits 16 ((n : Int)).natAbs).map fun c => (if (120 : Nat) == 88 then c.toUpper else c).toNat) [] 4 = _
    rw [decide_eq_false (by omega), Int.natAbs_natCast]
    exact hexF n
  · show (PyProof.Rows.intField' { align := 62, type := some 120 } (decide ((n : Int) < 0)) [] ((Nat.toDigits 16 ((n : Int)).natAbs).map fun c => (if (120 : Nat) == 88 then c.toUpper else c).toNat) [] 4).length ≤ sizeLine
    rw [decide_eq_false (by omega), Int.natAbs_natCast, hexF n]
    show ((Nat.toDigits 16 n).map Char.toNat).toArray.size ≤ _
    rw [List.size_toArray, List.length_map, sizeLine_eq]
    omega
section
variable {X : Cx}
/-- {n:x} of an int from 0 on -/
def tFmtX (te : TE) : TE := fun σ H Q => te σ H fun x H1 => ∃ n : Nat, x = .int (n : Int) ∧ (Nat.toDigits 16 n).length ≤ 1000 ∧ Q (.str ⟨((Nat.toDigits 16 n).map Char.toNat).toArray⟩) H1
theorem pe_fmtX {e : Expr} {te : TE} {j : Nat} {p1 p2 p3 : Pos} (he : PE X e te) : PE X (.FormattedValue e (-1) (some (.JoinedStr [.Constant (.str "x") j p1] p2)) p3) (tFmtX te) := by
  refine ⟨fun pins s σ H Q I h => ?_⟩
  refine wpAny_FormattedValue_spec (thn (he.run pins s σ H _ I h) fun v s1 hv => ?_)
  obtain ⟨x, H1, I1, r1, n, rfl, hz, q⟩ := hv
  obtain ⟨t, rfl⟩ := r1
  refine thn ((pe_joined1 pe_str).run pins s1 σ H1 (fun y H2 => H2 = H1 ∧ y = .str "x") I1 ⟨rfl, rfl⟩) fun r s2 hr => ?_
  obtain ⟨y, H2, I2, r2, rfl, rfl⟩ := hr
  obtain ⟨t2, rfl⟩ := r2
  exact ⟨_, t2, rfl, fld_hex hz fun t' k => ⟨.str _, H2, I2.tok _, ⟨_, rfl⟩, q⟩⟩
end
/-- a module's constant, its token left open -/
theorem pe_cE {X : Cx} {x : Str} {n : Int} {p : Pos} (h : ∃ t, X.mg x = some (.int n t)) (hg : Gl X x := by rfl) (hd : (x == ("__debug__" : Str)) = false := by decide) : PE X (.Name x p) (tC (.int n)) :=
  let ⟨t, h⟩ := h
  pe_glob (v := .int n) hg h ⟨t, rfl⟩ hd
theorem pe_cSE {X : Cx} {x : Str} {n : Str} {p : Pos} (h : ∃ t, X.mg x = some (.str n t)) (hg : Gl X x := by rfl) (hd : (x == ("__debug__" : Str)) = false := by decide) : PE X (.Name x p) (tC (.str n)) :=
  let ⟨t, h⟩ := h
  pe_glob (v := .str n) hg h ⟨t, rfl⟩ hd

/-! the digest: a number, its 18 hexadecimal signs -/
def dgD : Nat := 2361183241434822606617
def dgF (n c : Nat) : Nat := (n * 65599 + c) % dgD
def rawF (n c : Nat) : Nat := n * 65599 + c
def dgN (cs : List Nat) : Nat := cs.foldl dgF (cs.length + 1)
def rawN (cs : List Nat) : Nat := cs.foldl rawF (cs.length + 1)
theorem fold_mod : ∀ (cs : List Nat) (a b : Nat), a % dgD = b % dgD → (cs.foldl dgF a) % dgD = (cs.foldl rawF b) % dgD
  | [], a, b, h => h
  | c :: cs, a, b, h => by
    rw [List.foldl_cons, List.foldl_cons]
    refine fold_mod cs _ _ ?_
    unfold dgF rawF
    rw [Nat.mod_mod, Nat.add_mod, Nat.mul_mod, h, ← Nat.mul_mod, ← Nat.add_mod]
theorem fold_lt : ∀ (cs : List Nat) (a : Nat), a < dgD → cs.foldl dgF a < dgD
  | [], a, h => h
  | c :: cs, a, h => by
    rw [List.foldl_cons]
    exact fold_lt cs _ (Nat.mod_lt _ (by decide))
theorem dgN_lt (cs : List Nat) : dgN cs < dgD := by
  cases cs with
  | nil => decide
  | cons c cs => exact fold_lt cs _ (Nat.mod_lt _ (by decide))
theorem dgN_raw (cs : List Nat) : rawN cs % dgD = dgN cs := by
  have h := fold_mod cs (cs.length + 1) (cs.length + 1) rfl
  rw [show (cs.foldl dgF (cs.length + 1)) % dgD = cs.foldl dgF (cs.length + 1) from Nat.mod_eq_of_lt (dgN_lt cs)] at h
  exact h.symm
/-- the place of a sign among the sixteen -/
def hxI (c : Nat) : Nat := if c ≤ 57 then c - 48 else c - 87
def hxs : List Nat := [48, 49, 50, 51, 52, 53, 54, 55, 56, 57, 97, 98, 99, 100, 101, 102]
def hxV (l : List Nat) : Nat := l.foldl (fun a c => a * 16 + hxI c) 0
def hxT (n : Nat) : List Nat := (Nat.toDigits 16 n).map Char.toNat
def hx18 (n : Nat) : List Nat := List.replicate (18 - (hxT n).length) 48 ++ hxT n
theorem hx_digit : ∀ d : Nat, d < 16 → hxI (Nat.digitChar d).toNat = d ∧ (Nat.digitChar d).toNat ∈ hxs := by decide
theorem hxT_snoc {m : Nat} (h : ¬ m < 16) : hxT m = hxT (m / 16) ++ [(Nat.digitChar (m % 16)).toNat] := by
  have hm : m % 16 < 16 := Nat.mod_lt m (by decide)
  have t : Nat.toDigits 16 (m / 16) ++ Nat.toDigits 16 (m % 16) = Nat.toDigits 16 (16 * (m / 16) + m % 16) := Nat.toDigits_append_toDigits (by decide) (by omega) hm
  rw [Nat.div_add_mod] at t
  unfold hxT
  rw [← t, List.map_append, Nat.toDigits_of_lt_base hm]
  rfl
theorem hxT_one {m : Nat} (h : m < 16) : hxT m = [(Nat.digitChar m).toNat] := by
  unfold hxT
  rw [Nat.toDigits_of_lt_base h]; rfl
theorem hxV_snoc (l : List Nat) (c : Nat) : hxV (l ++ [c]) = hxV l * 16 + hxI c := by unfold hxV; rw [List.foldl_append]; rfl
theorem hxT_val (m : Nat) : hxV (hxT m) = m := by
  induction m using Nat.strongRecOn with
  | _ m ih =>
    by_cases h : m < 16
    · rw [hxT_one h]
      have e := (hx_digit m h).1
      show 0 * 16 + hxI _ = m
      omega
    · rw [hxT_snoc h, hxV_snoc, ih (m / 16) (by omega), (hx_digit (m % 16) (Nat.mod_lt m (by decide))).1]
      omega
theorem hxT_in (m : Nat) : ∀ c ∈ hxT m, c ∈ hxs := by
  induction m using Nat.strongRecOn with
  | _ m ih =>
    by_cases h : m < 16
    · rw [hxT_one h]
      intro c hc
      rw [List.mem_singleton.mp hc]
      exact (hx_digit m h).2
    · rw [hxT_snoc h]
      intro c hc
      rcases List.mem_append.mp hc with hc | hc
      · exact ih (m / 16) (by omega) c hc
      · rw [List.mem_singleton.mp hc]
        exact (hx_digit (m % 16) (Nat.mod_lt m (by decide))).2
theorem hxT_len {n : Nat} (h : n < dgD) : (hxT n).length ≤ 18 := by
  unfold hxT
  rw [List.length_map]
  exact PySem.StrLaws.toDigits_len (by decide) (Nat.lt_trans h (by decide))
theorem hx18_len {n : Nat} (h : n < dgD) : (hx18 n).length = 18 := by
  unfold hx18
  rw [List.length_append, List.length_replicate]
  have := hxT_len h
  omega
theorem hx18_in (n : Nat) : ∀ c ∈ hx18 n, c ∈ hxs := by
  intro c hc
  rcases List.mem_append.mp hc with hc | hc
  · rw [List.eq_of_mem_replicate hc]; decide
  · exact hxT_in n c hc
theorem hxV_rep : ∀ (k : Nat) (l : List Nat), (List.replicate k 48 ++ l).foldl (fun a c => a * 16 + hxI c) 0 = l.foldl (fun a c => a * 16 + hxI c) 0
  | 0, l => rfl
  | k + 1, l => by rw [List.replicate_succ, List.cons_append, List.foldl_cons]; exact hxV_rep k l
theorem hx18_val (n : Nat) : hxV (hx18 n) = n := by
  unfold hx18 hxV
  rw [hxV_rep]
  exact hxT_val n
theorem hx18_inj {a b : Nat} (h : hx18 a = hx18 b) : a = b := by rw [← hx18_val a, ← hx18_val b, h]
/-- the digest of a text -/
def dgs (z : Str) : Str := ⟨(hx18 (dgN z.cps.toList)).toArray⟩
theorem dgs_len (z : Str) : (dgs z).length = 18 := by
  show (hx18 _).toArray.size = 18
  rw [List.size_toArray]
  exact hx18_len (dgN_lt _)
theorem dgs_inj {x y : Str} (h : dgs x = dgs y) : dgN x.cps.toList = dgN y.cps.toList := hx18_inj (by
  have := congrArg (fun z : Str => z.cps.toList) h
  simpa [dgs] using this)
theorem zfill_hx {n : Nat} (h : n < dgD) : PySem.Txt.zfill ⟨(hxT n).toArray⟩ 18 = ⟨(hx18 n).toArray⟩ := by
  have hl := hxT_len h
  unfold PySem.Txt.zfill
  have el : (⟨(hxT n).toArray⟩ : Str).length = (hxT n).length := by show (hxT n).toArray.size = _; rw [List.size_toArray]
  rw [el]
  split
  · have e : (hxT n).length = 18 := by omega
    unfold hx18
    rw [e]; rfl
  · have ne : ∀ c ∈ hxT n, c ≠ 43 ∧ c ≠ 45 := fun c hc => by
      have := hxT_in n c hc
      simp only [hxs, List.mem_cons, List.not_mem_nil, or_false] at this
      omega
    have e1 : zfilled ⟨(hxT n).toArray⟩ ((18 : Int).toNat - (hxT n).length) = Builtin.Str.padded ⟨(hxT n).toArray⟩ ((18 : Int).toNat - (hxT n).length) 0 48 := by
      unfold zfilled
      split
      · rename_i q; rw [List.getElem?_toArray] at q; exact absurd rfl (ne _ (List.mem_of_getElem? q)).1
      · rename_i q; rw [List.getElem?_toArray] at q; exact absurd rfl (ne _ (List.mem_of_getElem? q)).2
      · rfl
    rw [e1]
    unfold Builtin.Str.padded hx18
    simp [List.toArray_replicate]
end SC

/-! z[::-1] of a text -/
namespace SC
open PySem PySem.Spec PyProof.Rows L2
def revS (z : Str) : Str := ⟨z.cps.toList.reverse.toArray⟩
def tRevS (te : TE) : TE := fun σ H Q => te σ H fun x H1 => ∃ z, x = .str z ∧ z.length ≤ sizeLine ∧ Q (.str (revS z)) H1
theorem revS_pick (z : Str) : (⟨((Builtin.Str.strSliceIndices none none (-1) z.length).filterMap (z.cps[·]?)).toArray⟩ : Str) = revS z := by
  have e : Builtin.Str.strSliceIndices none none (-1) z.length = sliceRange ((z.length : Int) - 1) (-1) (-1) := by
    unfold Builtin.Str.strSliceIndices
    simp
  unfold revS
  rw [e, PySem.W.krv_sliceRange, PySem.W.krv_range, List.filterMap_reverse]
  congr 2
  congr 1
  exact PySem.W.krv_all z.cps
theorem pe_revS {X : Cx} {e : Expr} {te : TE} {k : Nat} {p1 p2 p3 pos : Pos} (he : PE X e te) : PE X (.Subscript e (.Slice none none (some (.UnaryOp .USub (.Constant (.int 1) k p1) p2)) p3) pos) (tRevS te) := by
  refine ⟨fun pins s σ H Q I h => ?_⟩
  refine Subscript_ (thn (he.run pins s σ H _ I h) fun v s1 ⟨x, H1, I1, r1, q1⟩ => ?_)
  obtain ⟨z, ex, hz, q⟩ := q1
  subst ex
  obtain ⟨t, rfl⟩ := r1
  have hst : PO X (some (.UnaryOp .USub (.Constant (.int 1) k p1) p2)) (tPart (tUn (rU fun i => .int (-i)) (tC (.int 1)))) := po_some (pe_un un_neg pe_int)
  refine wpAny_Slice (thn (po_none.run pins s1 σ H1 (fun o H2 => o = none ∧ H2 = H1) I1 ⟨rfl, rfl⟩) fun vl s2 ⟨l, H2, I2, pl, el, e2⟩ => ?_)
  subst el e2
  refine thn (po_none.run pins s2 σ H2 (fun o H3 => o = none ∧ H3 = H2) I2 ⟨rfl, rfl⟩) fun vu s3 ⟨u, H3, I3, pu, eu, e3⟩ => ?_
  subst eu e3
  refine thn (hst.run pins s3 σ H3 (fun o H4 => o = some (-1) ∧ H4 = H3) I3 ⟨1, rfl, -1, rfl, rfl, rfl⟩) fun vs s4 ⟨o, H4, I4, ps, eo, e4⟩ => ?_
  subst eo e4
  have I5 : Inv X pins σ H4 { s4 with heap := s4.heap.push { cls := .type "slice", data := .fields #[vl, vu, vs] } } := I4.kept (t' := s4.toks) fun b ob q => Heap.get?_push_of_some _ q
  obtain ⟨os, hos, hcs, hds⟩ := Heap.IsSliceOf.new s4.heap vl vu vs
  obtain ⟨l1, rfl, hl1⟩ := IsPart.raw pl
  obtain ⟨u1, rfl, hu1⟩ := IsPart.raw pu
  obtain ⟨w1, rfl, hw1⟩ := IsPart.raw ps
  show wpAny (model X.prog X.w) X.A (subscriptTail e (.Slice none none (some (.UnaryOp .USub (.Constant (.int 1) k p1) p2)) p3) (.str z t) (.ref s4.heap.objs.size)) (EP X pins σ Q) X.xe { s4 with heap := s4.heap.push { cls := .type "slice", data := .fields #[partValue l1, partValue u1, partValue w1] } }
  refine tail_any (ops := [.ref s4.heap.objs.size, .str z t]) (typeIs_str _ _ _) F.slot_str_getitem.lookup ?_ (by with_unfolding_all rfl)
  refine wpAny_getItem_str_slice (l := l1) (u := u1) (st := w1) ⟨os, hos, hcs, hds⟩ (by rw [hw1]; decide) ?_
  unfold sliceMade slicePicked
  rw [hl1, hu1, hw1]
  show Made.post (Made.str ⟨((Builtin.Str.strSliceIndices none none (-1) z.length).filterMap (z.cps[·]?)).toArray⟩) (EP X pins σ Q) _
  rw [revS_pick]
  refine ⟨?_, .str _, H4, I5.tok _, ⟨_, rfl⟩, q⟩
  show (z.cps.toList.reverse.toArray).size ≤ sizeLine
  rw [List.size_toArray, List.length_reverse, Array.length_toList]
  exact hz
theorem Blt.range2 {X : Cx} {t : TA} {p pos : Pos} {e e2 : Expr} (B : Blt X.mg) {tg : Expr} (ha : PA X [e, e2] t) (hg : Gl X "range" := by rfl) (hs : starEach [e, e2] X.env = [(false, eval e X.env), (false, eval e2 X.env)] := by rfl) (hs2 : starEach [e2] X.env = [(false, eval e2 X.env)] := by rfl) :
    PI X tg (.Call (.Name "range" p) [e, e2] [] pos) (iRng2 t) := pi_range2 hg B.range ha hs hs2
theorem cut_to (z : Str) (k : Nat) : TL.tl (cutS z none (some (k : Int))) = (TL.tl z).take k := by
  show (z.cps.toList.drop (HT.sIx z.length 0 none)).take (HT.sIx z.length z.length (some (k : Int)) - HT.sIx z.length 0 none) = _
  rw [HT.sIx_nat, HT.sIx_none, List.drop_zero, Nat.sub_zero]
  have : z.cps.toList.length = z.length := Array.length_toList
  show z.cps.toList.take (min k z.length) = z.cps.toList.take k
  rw [← this, ← List.take_eq_take_min]
theorem cut_from (z : Str) (k : Nat) : TL.tl (cutS z (some (k : Int)) none) = (TL.tl z).drop k := by
  show (z.cps.toList.drop (HT.sIx z.length 0 (some (k : Int)))).take (HT.sIx z.length z.length none - HT.sIx z.length 0 (some (k : Int))) = _
  rw [HT.sIx_nat, HT.sIx_none]
  have e : z.cps.toList.length = z.length := Array.length_toList
  rw [List.take_of_length_le (by rw [List.length_drop, e]; omega)]
  show z.cps.toList.drop (min k z.length) = z.cps.toList.drop k
  by_cases h : k ≤ z.length
  · rw [Nat.min_eq_left h]
  · rw [Nat.min_eq_right (by omega), List.drop_eq_nil_of_le (by omega), List.drop_eq_nil_of_le (by omega)]
end SC

/-! all(test for mark in text), the test one that reads a captured text of the def around -/
namespace SC
open PySem PySem.Spec PyProof.Rows L2
open GxR (TabB TabG Tabbed Ready GenS keeps_tok trF trF_some all_signs inv_tab sh_eta)
/-- the element: a test of the sign c and of the text z that the def around keeps in a cell under the name y -/
def EltC (prog : Program) (w : World) (mg : Str → Option Value) (scope : Scope) (x y : Str) (elt : Expr) (pf : Str → Nat → Bool) : Prop :=
  ∀ (ce : Env) (A' : Around) (E' : Value → Shared → Prop) (c : Nat) (t : Tok) (s2 : Shared) (m2 : Str → Option Value) (z : Str) (tz : Tok) (cy : Addr), ce.scope = scope → ce.globals = mainGlobals → ce.builtins = builtinsNs → Names2 s2.heap mg →
    s2.heap.Ns ce.locals m2 → m2 x = some (.str ⟨#[c]⟩ t) → ce.cells.lookup y = some cy → s2.heap.IsCell cy (some (.str z tz)) → wpAny (model prog w) A' (eval elt ce) (fun v s3 => v = .bool (pf z c) ∧ Keeps s2 s3) E' s2
/-- the generator's scope: what can be read off it -/
structure GenS0 (scope : Scope) (x : Str) : Prop where
  kind : scope.kind = .function
  co : scope.isCoroutine = false
  cell : ∀ y ∈ scope.names, y.2 ≠ .cell
  dot : scope.names.lookup (".0" : Str) = some NameKind.local
  loc : scope.names.lookup x = some .local
theorem gs0Of {scope : Scope} {x : Str} (h : (match scope.kind with | .function => true | _ => false) && !scope.isCoroutine && (scope.names.all fun y => match y.2 with | .cell => false | _ => true) && (match scope.names.lookup (".0" : Str) with | some .local => true | _ => false) = true)
    (hx : (match scope.names.lookup x with | some .local => true | _ => false) = true) : GenS0 scope x := by
  simp only [Bool.and_eq_true, List.all_eq_true] at h
  obtain ⟨⟨⟨h1, h2⟩, h3⟩, h4⟩ := h
  refine ⟨?_, by simpa using h2, fun y hy e => ?_, ?_, ?_⟩
  · split at h1
    · assumption
    · cases h1
  · have := h3 y hy; rw [e] at this; cases this
  · split at h4
    · assumption
    · cases h4
  · split at hx
    · assumption
    · cases hx
/-- what the generator captures, the def around has -/
def freeOk (scope sc : Scope) : Bool := scope.names.all fun y => match y.2 with
  | .free => (match sc.names.lookup y.1 with | some .cell => true | some .free => true | _ => false)
  | _ => true
theorem GenS0.all {X : Cx} {scope : Scope} {x : Str} (S : GenS0 scope x) (ok : X.Ok) (h : freeOk scope X.env.scope = true) : GenS X.env scope x := by
  refine ⟨S.kind, S.co, S.cell, S.dot, S.loc, fun y hy hf => ok.has y.1 ?_⟩
  unfold freeOk at h
  rw [List.all_eq_true] at h
  have := h y hy
  rw [hf] at this
  simp only at this
  split at this
  · rename_i e; exact .inl e
  · rename_i e; exact .inr e
  · cases this
section
variable {X : Cx} {pins : List (Addr × Obj)} {σ : L2.St} {H : Hp} {s : Shared}
theorem gen_mkC {y : Str} {iy : Nat} {z : Str} {c P : Addr} {elt iter : Expr} {x : Str} {px gpos : Pos} {scope : Scope} {pf : Str → Nat → Bool} {te : TE} {k : Nat} {Q' : Value → Shared → Prop} {R : Str → Hp → Prop}
    (hr : Room k X.A) (TB : TabB X.base X.mg c P) (hcode : X.env.code = .ref c) (S : GenS X.env scope x) (hi : PE X iter te) (hel : EltC X.prog X.w X.mg scope x y elt pf)
    (hN : X.N[iy]? = some y) (hky : X.env.kindOf y = some .cell) (hcl : ∀ cs : List (Str × Addr), (cloFrom cs scope.names []).lookup y = some ((cs.lookup y).getD 0)) (hσ : σ[iy]? = some (some (.str z)))
    (hs : ∀ v, genFold iter X.env v = pure v) (I : Inv X pins σ H s) (h : te σ H fun v H1 => ∃ a : Str, v = .str a ∧ TabG H1 P ∧ R a H1)
    (hQ : ∀ a H1 g s5, R a H1 → Ready X pins σ H1 P a (pf z) g s5 → Q' (.ref g) s5) :
    wpAny (model X.prog X.w) X.A (eval (.GeneratorExp elt [⟨.Name x px, iter, [], 0⟩] scope gpos) X.env) Q' X.xe s := by
  refine wpAny_GeneratorExp_walksQ hr.hd S.co (closure_ok S.free) S.cell S.dot S.loc S.kind (by have := hr.dp; omega) ?_ hs
  refine thn (hi.run pins s σ H _ I h) fun xv t1 ⟨v, H1, J, rv, a, ev, ⟨ps, hP, htr⟩, hR⟩ => ?_
  subst ev
  obtain ⟨tk1, rfl⟩ := rv
  obtain ⟨ml, hnl, hll⟩ := J.loc
  obtain ⟨uy, ruy, lky⟩ := hll iy y (.str z) hN hσ (.inr (.inl hky))
  obtain ⟨tz, rfl⟩ := ruy
  obtain ⟨cy, hcy, hic⟩ : ∃ cy, X.env.cells.lookup y = some cy ∧ t1.heap.IsCell cy (some (.str z tz)) := by
    rcases lky with ⟨hk2, _⟩ | ⟨_, cy, h1, h2⟩
    · rw [hky] at hk2; cases hk2
    · exact ⟨cy, h1, h2⟩
  refine wpAny_pyIter_str fun o St W hst => ?_
  have hPs : t1.heap.get? P = some { cls := .none, data := .fields ps } := J.hok P _ hP
  have hPlt := Heap.lt_size hPs
  have up : ∀ b u, t1.heap.get? b = some u → (t1.heap.push o).get? b = some u := fun b u e => Heap.get?_push_of_some _ e
  have cd : PySem.W.CodeHd (t1.heap.push o) c P := TB.code.keeps fun b u e => up b u (J.bk b u e)
  have lim : (t1.heap.push o).NoLimit := J.nolimit.push o
  have hclt : cStatics < t1.heap.objs.size := let ⟨_, hn, _⟩ := J.nolimit; hn.lt
  have hsz1 : (t1.heap.push o).objs.size = t1.heap.objs.size + 1 := Heap.size_push ..
  refine ⟨lim, ?_⟩
  have go : ∀ (code : Value) (h3 : Heap) (tk : Nat) (qs : Array Value), Heap.ExtBut P (t1.heap.push o) h3 → (t1.heap.push o).objs.size ≤ h3.objs.size → h3.get? P = some { cls := .none, data := .fields qs } →
      (∃ more, qs = ps ++ more) → TriplesOk qs.toList →
      wpAny (model X.prog X.w) X.A (builtinsFor X.env.globals X.env.builtins) (fun bi s4 =>
        ∃ Ia fp wr n0 Pf St0 pz F, Value.ref t1.heap.objs.size = .ref Ia ∧ (∀ A' : Around, A'.handled = none → Walks X.prog X.w A' Ia fp wr n0 Pf St0) ∧ St0 0 s4.heap ∧ (∀ b ∈ fp, b < s4.heap.objs.size) ∧ s4.heap.NoLimit ∧ cStatics ∉ wr ∧
          (∀ href : Heap, (∀ b o, s4.heap.get? b = some o → href.get? b = some o) →
            QuietGen X.prog X.w (genEnv scope (cloFrom X.env.cells scope.names []) s4.heap.objs.size code bi X.env) x [] elt (List.range s4.heap.objs.size) wr Pf pz F href) ∧
          (∀ g h5 tk5 gs, gs.bare = true → s4.heap.objs.size < g → h5.objs.size = g + 1 → (∀ b o, s4.heap.get? b = some o → h5.get? b = some o) →
            WalksS X.prog X.w X.A.in4 g (g :: s4.heap.objs.size :: List.range s4.heap.objs.size) (s4.heap.objs.size :: wr) (GenOnlyQ s4.gens.size) (passing pz n0 0).length
              (fun j y => ∃ i, (passing pz n0 0)[j]? = some i ∧ F i y) (GenAt X.prog X.w X.A.in4 g s4.gens.size s4.heap.objs.size (List.range s4.heap.objs.size) wr pz n0 F) →
            GenAt X.prog X.w X.A.in4 g s4.gens.size s4.heap.objs.size (List.range s4.heap.objs.size) wr pz n0 F 0 { s4 with gens := s4.gens.push gs, toks := tk5, heap := h5 } →
            Q' (.ref g) { s4 with gens := s4.gens.push gs, toks := tk5, heap := h5 })) X.xe { t1 with heap := h3, toks := tk } := by
    intro code h3 tk qs hx hsz hP3 hmore htq
    obtain ⟨bm, ob, e1, e2, e3, e4, e5, e6, e7, e8⟩ := TB.bm
    have ncP : cStatics ≠ P := fun e => by
      obtain ⟨_, hns, _⟩ := J.nolimit
      obtain ⟨o', es, ep, ho, hd, _⟩ := hns
      rw [e, hPs] at ho
      cases ho; cases hd
    have nbP : (builtinsNs : Addr) ≠ P := fun e => by
      obtain ⟨mb, hns, _⟩ := J.mod.blt
      obtain ⟨o', es, ep, ho, hd, _⟩ := hns
      have ho := J.bk _ _ ho
      rw [e, hPs] at ho
      cases ho; cases hd
    have k3 : ∀ b u, b ≠ P → t1.heap.get? b = some u → h3.get? b = some u := fun b u hb e => hx b u hb (up b u e)
    refine wpAny_builtinsFor (m := X.mg) (by rw [J.ok.glob]; exact ((J.mod.glob.keeps J.bk).push o).extBut hx TB.gP) e1 e2 (k3 _ _ e4 (J.bk _ _ e5)) e6 e7 e8 ?_
    refine ⟨t1.heap.objs.size, [t1.heap.objs.size], [t1.heap.objs.size], a.cps.size, SignAt a, St, (fun _ => true), (fun i v => ∃ cc, a.cps[i]? = some cc ∧ v = .bool (pf z cc)), rfl, W, ?_, ?_, lim.extBut hx ncP, ?_, ?_, ?_⟩
    · refine (W X.A hr.hd).frame _ _ _ hst fun b hb u e => hx b u (fun z => ?_) e
      rcases List.mem_cons.mp hb with y | y
      · exact Nat.ne_of_lt hPlt (z.symm.trans y)
      · cases y
    · intro b hb
      rcases List.mem_cons.mp hb with z | z
      · rw [z]
        show t1.heap.objs.size < h3.objs.size
        omega
      · cases z
    · intro z
      rcases List.mem_cons.mp z with z | z
      · exact Nat.ne_of_lt hclt z
      · cases z
    · intro href hh
      refine ⟨fun A' E' i v s2 m2 hA hv hn hm hk => ?_, fun A' E' i v s2 m2 hA hv hp hn hm hk => ?_⟩
      · simp only [List.forIn_nil]
        exact wpAny_pure ⟨rfl, GxR.keeps_refl _⟩
      · obtain ⟨cc, u, hcc, rfl⟩ := hv
        have old : ∀ L, L ≠ P → ∀ q, X.base.get? L = some q → s2.heap.get? L = some q := fun L nL q e => by
          have e1 := J.bk _ _ e
          have l1 := Heap.lt_size e1
          have e2 := k3 L q nL e1
          refine hk L (List.mem_range.mpr (Heap.lt_size e2)) (fun z => ?_) q (hh L q e2)
          rcases List.mem_cons.mp z with z | z
          · rw [z] at l1; exact Nat.lt_irrefl _ l1
          · cases z
        have nm : Names2 s2.heap X.mg := ⟨J.mod.glob.at (old mainGlobals TB.gP), let ⟨mb, q1, q2⟩ := J.mod.blt; ⟨mb, q1.at (old builtinsNs nbP), q2⟩⟩
        have ncyP : cy ≠ P := fun e => by
          obtain ⟨oc, ho, hd⟩ := hic
          rw [e, hPs] at ho
          cases ho; cases hd
        have cy2 : s2.heap.IsCell cy (some (.str z tz)) := by
          obtain ⟨oc, ho, hd⟩ := hic
          have l1 := Heap.lt_size ho
          have e2 := k3 cy oc ncyP ho
          refine ⟨oc, hk cy (List.mem_range.mpr (Heap.lt_size e2)) (fun z => ?_) oc (hh cy oc e2), hd⟩
          rcases List.mem_cons.mp z with z | z
          · rw [z] at l1; exact Nat.lt_irrefl _ l1
          · cases z
        have hcy2 : (cloFrom X.env.cells scope.names []).lookup y = some cy := by rw [hcl, hcy]; rfl
        exact wpAny_mono (hel (genEnv scope (cloFrom X.env.cells scope.names []) h3.objs.size code builtinsNs X.env) A' E' cc u s2 m2 z tz cy rfl J.ok.glob rfl nm hn hm hcy2 cy2) (fun y s3 r => ⟨⟨cc, hcc, r.1⟩, r.2⟩) fun _ _ e => e
    · intro g h5 tk5 gs hgb hag hsz5 hk5 W5 hat
      simp only [GxR.passing_true, List.length_range] at W5
      refine hQ a H1 g _ hR ⟨_, _, _, _, _, W5.in4_1, hat, ?_, fun s' hm => ?_⟩
      · intro j y sj Qj Ej hy hQj
        obtain ⟨i, hij, cc, hcc, rfl⟩ := hy
        obtain ⟨hj, ej⟩ := List.getElem?_eq_some_iff.mp hij
        rw [List.getElem_range] at ej
        subst ej
        have e9 : a.cps.toList[j]? = some cc := by rw [Array.getElem?_toList]; exact hcc
        have hQ2 : Qj (trF (pf z) a.cps.toList j) sj := hQj
        rw [trF_some e9] at hQ2
        exact wpAny_truthy_bool hQ2
      · obtain ⟨more, em⟩ := hmore
        have nwr : ∀ b u, t1.heap.get? b = some u → b ∉ h3.objs.size :: [t1.heap.objs.size] := fun b u e hb => by
          have hl : b < t1.heap.objs.size := Heap.lt_size e
          rcases List.mem_cons.mp hb with z | z
          · rw [z] at hl
            exact absurd hl (Nat.not_lt.mpr (show t1.heap.objs.size ≤ h3.objs.size by omega))
          · rcases List.mem_cons.mp z with z | z
            · rw [z] at hl
              exact Nat.lt_irrefl _ hl
            · cases z
        have J2 := inv_tab (more := more) (h' := s'.heap) (g' := s'.gens) (d' := s'.drawn) (t' := s'.toks) J hP (fun b u hb e => hm.heap b u (nwr b u e) (hk5 b u (k3 b u hb e)))
          (by rw [← em]; exact hm.heap P _ (nwr P _ hPs) (hk5 P _ hP3)) (AllBare.movedS (J.bare.push hgb) hm)
        rw [sh_eta t1 s' hm.os] at J2
        refine ⟨upd H1 P (.tbl (ps ++ more)), ⟨⟨ps ++ more, upd_same, by rw [← em]; exact htq⟩, fun b hb => upd_ne hb⟩, J2⟩
  cases hf : codeAmong gpos ps.toList with
  | none =>
    refine wpAny_genexprCodeX hcode (cd.code (up _ _ hPs) htr) (cd.tab (up _ _ hPs)) hf fun c' h' tk hx hge hlt hco' _ htab' _ => ?_
    obtain ⟨o1, vs, f1, tf, fl, tg, inF, tx, tt, op, _, _, _, _, _, _, _, _, _, hz, _⟩ := hco'
    exact go _ h' tk _ hx (Nat.le_trans hge (Nat.le_of_lt hlt)) htab'.2 ⟨_, rfl⟩ hz
  | some cv =>
    refine wpAny_genexprCode_hit hcode (cd.code (up _ _ hPs) htr) hf ?_
    exact go cv (t1.heap.push o) t1.toks ps (Heap.ExtBut.refl _ _) (Nat.le_refl _) (up _ _ hPs) ⟨#[], by simp⟩ htr

/-- all(test for x in e), the test one of the sign and of the text at the slot iy -/
def tAllC (P : Addr) (iy : Nat) (pf : Str → Nat → Bool) (te : TE) : TE := fun σ H Q => ∃ z, σ[iy]? = some (some (.str z)) ∧ te σ H fun v H1 => ∃ a : Str, v = .str a ∧ TabG H1 P ∧ ∀ H2, Tabbed P H1 H2 → Q (.bl (a.cps.toList.all (pf z))) H2
theorem pe_allC {y : Str} {iy : Nat} {c P : Addr} {elt iter : Expr} {x : Str} {px p pos gpos : Pos} {scope : Scope} {pf : Str → Nat → Bool} {te : TE} {k : Nat}
    (hr : Room k X.A) (B : Blt X.mg) (TB : TabB X.base X.mg c P) (hcode : X.env.code = .ref c) (S : GenS0 scope x) (hfr : freeOk scope X.env.scope = true) (hi : PE X iter te) (hel : EltC X.prog X.w X.mg scope x y elt pf)
    (hN : X.N[iy]? = some y) (hky : X.env.kindOf y = some .cell) (hcl : ∀ cs : List (Str × Addr), (cloFrom cs scope.names []).lookup y = some ((cs.lookup y).getD 0))
    (hs : ∀ v, genFold iter X.env v = pure v) (hg : Gl X "all" := by rfl)
    (he : starEach [.GeneratorExp elt [⟨.Name x px, iter, [], 0⟩] scope gpos] X.env = (false, eval (.GeneratorExp elt [⟨.Name x px, iter, [], 0⟩] scope gpos) X.env) :: starEach [] X.env := by rfl) :
    PE X (.Call (.Name "all" p) [.GeneratorExp elt [⟨.Name x px, iter, [], 0⟩] scope gpos] [] pos) (tAllC P iy pf te) := by
  refine ⟨fun pins s σ H Q I h => ?_⟩
  obtain ⟨z, hσ, h⟩ := h
  refine wpAny_Call_Name_kw (ld_blt I hg B.all (show bootBuiltins "all" = some (.builtin "all") by decide +kernel) ?_)
  refine PyProof.Rows.callWith_builtin1 ?_ he (by rfl)
  rw [he]
  show wpAny _ _ (spliced ((false, eval (.GeneratorExp elt [⟨.Name x px, iter, [], 0⟩] scope gpos) X.env) :: backTo pos (starEach [] X.env))) _ _ s
  refine Calls.spliced_cons (gen_mkC (R := fun a H1 => ∀ H2, Tabbed P H1 H2 → Q (.bl (a.cps.toList.all (pf z))) H2) hr TB hcode (S.all I.ok hfr) hi hel hN hky hcl hσ hs I h fun a H1 g t5 hR hG => ?_)
  obtain ⟨fp, wr, G, F, St, W, hst, htr, hI⟩ := hG
  refine Calls.spliced_nil (call_all_walkS (W.self 0 _ _ _ hst ⟨g, fp, wr, G, _, F, St, _, rfl, W, hst, htr, fun s' hmv => ?_⟩))
  obtain ⟨H2, hT, J⟩ := hI s' hmv
  refine ⟨.bl _, H2, J, rfl, ?_⟩
  rw [all_signs a (pf z)]
  exact hR H2 hT
end

/-- mark in marks -/
theorem elt_in {prog : Program} {w : World} {mg : Str → Option Value} {scope : Scope} {x y : Str} {q1 q2 q3 : Pos}
    (hk : scope.kind = .function) (hl : scope.names.lookup x = some .local) (hy : scope.names.lookup y = some .free) (hd : (x == ("__debug__" : Str)) = false := by decide) (hd2 : (y == ("__debug__" : Str)) = false := by decide) (hcd : (y == ("__classdict__" : Str)) = false := by decide) :
    EltC prog w mg scope x y (.Compare (.Name x q1) [.In] [.Name y q2] q3) (fun z c => decide (c ∈ z.cps.toList)) := by
  intro ce A' E' c t s2 m2 z tz cy hs hg hb nm hn hm hcy hic
  refine wpAny_Compare1 ?_
  refine wpAny_Name (wpAny_loadName_local (by rw [hs]; exact hk) (show ce.scope.names.lookup x = some .local by rw [hs]; exact hl) hn hm ?_) hd
  refine wpAny_Name (wpAny_loadName_free (by rw [hs]; exact hk) (show ce.scope.names.lookup y = some .free by rw [hs]; exact hy) hcy hic ?_ hcd) hd2
  exact PyProof.Rows.in_str ⟨by rw [PySem.StrLaws.found_one z c], keeps_tok _ _⟩
end SC

/-! what a part of a pattern matches (code 42: the star), and the search that takes the first place for each piece -/
namespace SC
open PySem L2
/-- some way to begin later -/
def mtS (f : List Nat → Bool) : List Nat → Bool
  | [] => f []
  | c :: s => f (c :: s) || mtS f s
def mt : List Nat → List Nat → Bool
  | [], s => s.isEmpty
  | c :: p, s => if c = 42 then mtS (mt p) s else match s with
    | [] => false
    | d :: s' => (c == d) && mt p s'
theorem mtS_iff (f : List Nat → Bool) : ∀ s : List Nat, mtS f s = true ↔ ∃ i, i ≤ s.length ∧ f (s.drop i) = true
  | [] => ⟨fun h => ⟨0, Nat.le_refl _, h⟩, fun ⟨i, hi, h⟩ => by
    have : i = 0 := by simpa using hi
    subst this; exact h⟩
  | c :: s => by
    show (f (c :: s) || mtS f s) = true ↔ _
    rw [Bool.or_eq_true, mtS_iff f s]
    constructor
    · rintro (h | ⟨i, hi, h⟩)
      · exact ⟨0, Nat.zero_le _, h⟩
      · exact ⟨i + 1, by simpa using hi, by simpa using h⟩
    · rintro ⟨i, hi, h⟩
      cases i with
      | zero => exact .inl h
      | succ i => exact .inr ⟨i, by simpa using hi, by simpa using h⟩
/-- b is a beginning of s -/
def pfx (b s : List Nat) : Bool := s.take b.length == b
theorem pfx_iff {b s : List Nat} : pfx b s = true ↔ ∃ r, s = b ++ r := by
  unfold pfx
  rw [beq_iff_eq]
  constructor
  · intro h
    exact ⟨s.drop b.length, by rw [← h]; rw [List.length_take]; rw [show min b.length s.length = b.length by
      have := congrArg List.length h; rw [List.length_take] at this; exact this]; exact (List.take_append_drop _ _).symm⟩
  · rintro ⟨r, rfl⟩
    exact List.take_left
theorem pfx_nil (s : List Nat) : pfx [] s = true := rfl
theorem pfx_cons (c d : Nat) (b s : List Nat) : pfx (c :: b) (d :: s) = ((c == d) && pfx b s) := by
  rw [Bool.eq_iff_iff, Bool.and_eq_true, pfx_iff, pfx_iff, beq_iff_eq]
  constructor
  · rintro ⟨r, h⟩
    obtain ⟨h1, h2⟩ := List.cons.inj h
    exact ⟨h1.symm, r, h2⟩
  · rintro ⟨rfl, r, rfl⟩
    exact ⟨r, rfl⟩
theorem pfx_len {b s : List Nat} (h : pfx b s = true) : b.length ≤ s.length := by
  obtain ⟨r, rfl⟩ := pfx_iff.mp h
  rw [List.length_append]; omega
theorem mt_lit : ∀ (b p s : List Nat), 42 ∉ b → mt (b ++ p) s = (pfx b s && mt p (s.drop b.length))
  | [], p, s, _ => by rw [pfx_nil, Bool.true_and]; rfl
  | c :: b, p, s, h => by
    have hc : ¬ c = 42 := fun e => h (by rw [e]; exact List.mem_cons_self)
    have hb : 42 ∉ b := fun e => h (List.mem_cons_of_mem _ e)
    show (if c = 42 then mtS (mt (b ++ p)) s else match s with | [] => false | d :: s' => (c == d) && mt (b ++ p) s') = _
    rw [if_neg hc]
    cases s with
    | nil => rfl
    | cons d s =>
      rw [pfx_cons]
      show ((c == d) && mt (b ++ p) s) = _
      rw [mt_lit b p s hb, Bool.and_assoc]
      rfl
theorem mt_plain {l s : List Nat} (h : 42 ∉ l) : mt l s = decide (s = l) := by
  have e := mt_lit l [] s h
  rw [List.append_nil] at e
  rw [e, Bool.eq_iff_iff, Bool.and_eq_true, pfx_iff, decide_eq_true_eq]
  constructor
  · rintro ⟨⟨r, rfl⟩, h2⟩
    have h2 : ((l ++ r).drop l.length).isEmpty = true := h2
    rw [List.drop_left] at h2
    have : r = [] := by simpa using h2
    rw [this, List.append_nil]
  · rintro rfl
    refine ⟨⟨[], by simp⟩, ?_⟩
    show (s.drop s.length).isEmpty = true
    simp
theorem mt_star (p s : List Nat) : mt (42 :: p) s = true ↔ ∃ i, i ≤ s.length ∧ mt p (s.drop i) = true := by
  show (if (42 : Nat) = 42 then mtS (mt p) s else _) = true ↔ _
  rw [if_pos rfl]
  exact mtS_iff _ s
theorem mt_mono {p s : List Nat} {a b : Nat} (hab : a ≤ b) (hb : b ≤ s.length) (h : mt (42 :: p) (s.drop b) = true) : mt (42 :: p) (s.drop a) = true := by
  rw [mt_star] at h ⊢
  obtain ⟨i, hi, h⟩ := h
  rw [List.length_drop] at hi
  refine ⟨(b - a) + i, by rw [List.length_drop]; omega, ?_⟩
  rw [List.drop_drop] at h ⊢
  rw [show a + ((b - a) + i) = b + i by omega]
  exact h
/-- the first place of b -/
def fnd (b : List Nat) : List Nat → Option Nat
  | [] => if pfx b [] then some 0 else none
  | c :: t => if pfx b (c :: t) then some 0 else (fnd b t).map (· + 1)
theorem fnd_some {b : List Nat} : ∀ {t : List Nat} {i : Nat}, fnd b t = some i → i ≤ t.length ∧ pfx b (t.drop i) = true ∧ ∀ j, j < i → pfx b (t.drop j) = false
  | [], i, h => by
    unfold fnd at h
    split at h
    · rename_i q; cases h; exact ⟨Nat.le_refl _, q, fun j hj => absurd hj (Nat.not_lt_zero _)⟩
    · cases h
  | c :: t, i, h => by
    unfold fnd at h
    split at h
    · rename_i q; cases h; exact ⟨Nat.zero_le _, q, fun j hj => absurd hj (Nat.not_lt_zero _)⟩
    · rename_i q
      cases e : fnd b t with
      | none => rw [e] at h; cases h
      | some k =>
        rw [e] at h
        cases h
        obtain ⟨h1, h2, h3⟩ := fnd_some e
        refine ⟨by simpa using h1, by simpa using h2, fun j hj => ?_⟩
        cases j with
        | zero => simpa using q
        | succ j =>
          have hj : j + 1 < k + 1 := hj
          simpa using h3 j (by omega)
theorem fnd_none {b : List Nat} : ∀ {t : List Nat}, fnd b t = none → ∀ j, j ≤ t.length → pfx b (t.drop j) = false
  | [], h, j, hj => by
    unfold fnd at h
    split at h
    · cases h
    · rename_i q
      have : j = 0 := by simpa using hj
      subst this; simpa using q
  | c :: t, h, j, hj => by
    unfold fnd at h
    split at h
    · cases h
    · rename_i q
      cases e : fnd b t with
      | some k => rw [e] at h; cases h
      | none =>
        cases j with
        | zero => simpa using q
        | succ j => simpa using fnd_none e j (by simpa using hj)
theorem fnd_first {b t : List Nat} {i : Nat} (h1 : i ≤ t.length) (h2 : pfx b (t.drop i) = true) (h3 : ∀ j, j < i → pfx b (t.drop j) = false) : fnd b t = some i := by
  cases e : fnd b t with
  | none => rw [fnd_none e i h1] at h2; cases h2
  | some k =>
    obtain ⟨_, q2, q3⟩ := fnd_some e
    rcases Nat.lt_trichotomy k i with h | h | h
    · rw [h3 k h] at q2; cases q2
    · rw [h]
    · rw [q3 i h] at h2; cases h2
/-- the pieces one behind the other, each at its first place -/
def gr : List (List Nat) → List Nat → Bool
  | [], _ => true
  | b :: bs, t => match fnd b t with
    | none => false
    | some i => gr bs (t.drop (i + b.length))
/-- l is an end of s -/
def sfx (l s : List Nat) : Bool := decide (l.length ≤ s.length) && (s.drop (s.length - l.length) == l)
theorem sfx_drop {l s : List Nat} {k : Nat} (hk : k ≤ s.length) (h : k + l.length ≤ s.length) : sfx l (s.drop k) = sfx l s := by
  unfold sfx
  rw [List.length_drop, decide_eq_true (show l.length ≤ s.length - k by omega), decide_eq_true (show l.length ≤ s.length by omega), List.drop_drop]
  rw [show k + (s.length - k - l.length) = s.length - l.length by omega]
theorem sfx_short {l s : List Nat} (h : s.length < l.length) : sfx l s = false := by
  unfold sfx
  rw [decide_eq_false (by omega), Bool.false_and]
theorem pfx_take {b s : List Nat} {m j : Nat} (hm : m ≤ s.length) : pfx b ((s.take m).drop j) = (decide (b.length ≤ m - j) && pfx b (s.drop j)) := by
  rw [List.drop_take]
  by_cases h : b.length ≤ m - j
  · rw [decide_eq_true h, Bool.true_and]
    unfold pfx
    rw [List.take_take, Nat.min_eq_left h]
  · rw [decide_eq_false h, Bool.false_and]
    cases e : pfx b ((s.drop j).take (m - j)) with
    | false => rfl
    | true =>
      have := pfx_len e
      rw [List.length_take] at this
      omega
theorem aft : ∀ (bs : List (List Nat)) (l s : List Nat), (∀ b ∈ bs, 42 ∉ b) → 42 ∉ l →
    mt (42 :: TL.joinL [42] (bs ++ [l])) s = (sfx l s && gr bs (s.take (s.length - l.length)))
  | [], l, s, _, hl => by
    show mt (42 :: l) s = (sfx l s && true)
    rw [Bool.and_true, Bool.eq_iff_iff, mt_star]
    unfold sfx
    rw [Bool.and_eq_true, decide_eq_true_eq, beq_iff_eq]
    constructor
    · rintro ⟨i, hi, h⟩
      rw [mt_plain hl, decide_eq_true_eq] at h
      have e := congrArg List.length h
      rw [List.length_drop] at e
      exact ⟨by omega, by rw [show s.length - l.length = i by omega]; exact h⟩
    · rintro ⟨h1, h2⟩
      exact ⟨s.length - l.length, by omega, by rw [mt_plain hl, decide_eq_true_eq]; exact h2⟩
  | b :: bs, l, s, hb, hl => by
    have hb0 : 42 ∉ b := hb b List.mem_cons_self
    have hbs : ∀ c ∈ bs, 42 ∉ c := fun c hc => hb c (List.mem_cons_of_mem _ hc)
    have ej : TL.joinL [42] ((b :: bs) ++ [l]) = b ++ (42 :: TL.joinL [42] (bs ++ [l])) := by
      cases bs with
      | nil => rfl
      | cons c r => rfl
    rw [ej]
    have ih := fun s => aft bs l s hbs hl
    have lhs : mt (42 :: (b ++ (42 :: TL.joinL [42] (bs ++ [l])))) s = true ↔ ∃ i, i ≤ s.length ∧ pfx b (s.drop i) = true ∧ mt (42 :: TL.joinL [42] (bs ++ [l])) (s.drop (i + b.length)) = true := by
      rw [mt_star]
      constructor
      · rintro ⟨i, hi, h⟩
        rw [mt_lit _ _ _ hb0, Bool.and_eq_true, List.drop_drop] at h
        exact ⟨i, hi, h.1, h.2⟩
      · rintro ⟨i, hi, h1, h2⟩
        refine ⟨i, hi, ?_⟩
        rw [mt_lit _ _ _ hb0, Bool.and_eq_true, List.drop_drop]
        exact ⟨h1, h2⟩
    rw [Bool.eq_iff_iff, lhs]
    cases e : fnd b s with
    | none =>
      have hn := fnd_none e
      refine ⟨fun ⟨i, hi, h1, _⟩ => (by rw [hn i hi] at h1; cases h1), fun h => ?_⟩
      rw [Bool.and_eq_true] at h
      have hg : (match fnd b (s.take (s.length - l.length)) with | none => false | some i => gr bs ((s.take (s.length - l.length)).drop (i + b.length))) = true := h.2
      cases e2 : fnd b (s.take (s.length - l.length)) with
      | none => rw [e2] at hg; cases hg
      | some i =>
        obtain ⟨q1, q2, _⟩ := fnd_some e2
        rw [pfx_take (by omega), Bool.and_eq_true] at q2
        rw [List.length_take] at q1
        rw [hn i (by omega)] at q2
        cases q2.2
    | some i0 =>
      obtain ⟨p1, p2, p3⟩ := fnd_some e
      have pl := pfx_len p2
      rw [List.length_drop] at pl
      have lhs2 : (∃ i, i ≤ s.length ∧ pfx b (s.drop i) = true ∧ mt (42 :: TL.joinL [42] (bs ++ [l])) (s.drop (i + b.length)) = true) ↔ mt (42 :: TL.joinL [42] (bs ++ [l])) (s.drop (i0 + b.length)) = true := by
        refine ⟨fun ⟨i, hi, h1, h2⟩ => ?_, fun h => ⟨i0, p1, p2, h⟩⟩
        have hle : i0 ≤ i := by
          rcases Nat.lt_or_ge i i0 with h | h
          · rw [p3 i h] at h1; cases h1
          · exact h
        have q := pfx_len h1
        rw [List.length_drop] at q
        exact mt_mono (by omega) (by omega) h2
      rw [lhs2, ih]
      by_cases hfit : i0 + b.length + l.length ≤ s.length
      · rw [sfx_drop (by omega) (by omega)]
        have e2 : fnd b (s.take (s.length - l.length)) = some i0 := by
          refine fnd_first (by rw [List.length_take]; omega) ?_ fun j hj => ?_
          · rw [pfx_take (by omega), decide_eq_true (by omega), Bool.true_and]; exact p2
          · rw [pfx_take (by omega), p3 j hj, Bool.and_false]
        show _ ↔ (sfx l s && (match fnd b (s.take (s.length - l.length)) with | none => false | some i => gr bs ((s.take (s.length - l.length)).drop (i + b.length)))) = true
        rw [e2]
        show _ ↔ (sfx l s && gr bs ((s.take (s.length - l.length)).drop (i0 + b.length))) = true
        rw [List.drop_take, List.length_drop, show s.length - (i0 + b.length) - l.length = s.length - l.length - (i0 + b.length) by omega]
      · rw [sfx_short (by rw [List.length_drop]; omega), Bool.false_and]
        refine ⟨fun h => (by cases h), fun h => ?_⟩
        rw [Bool.and_eq_true] at h
        have hg : (match fnd b (s.take (s.length - l.length)) with | none => false | some i => gr bs ((s.take (s.length - l.length)).drop (i + b.length))) = true := h.2
        cases e2 : fnd b (s.take (s.length - l.length)) with
        | none => rw [e2] at hg; cases hg
        | some i =>
          obtain ⟨q1, q2, _⟩ := fnd_some e2
          rw [pfx_take (by omega), Bool.and_eq_true, decide_eq_true_eq] at q2
          rw [List.length_take] at q1
          have hle : i0 ≤ i := by
            rcases Nat.lt_or_ge i i0 with h | h
            · rw [p3 i h] at q2; cases q2.2
            · exact h
          have hs : l.length ≤ s.length := by
            have := h.1
            unfold sfx at this
            rw [Bool.and_eq_true, decide_eq_true_eq] at this
            exact this.1
          omega
/-- the whole: a first piece, pieces between, a last one -/
theorem mt_parts {f l s : List Nat} {bs : List (List Nat)} (hf : 42 ∉ f) (hb : ∀ b ∈ bs, 42 ∉ b) (hl : 42 ∉ l) :
    mt (TL.joinL [42] (f :: (bs ++ [l]))) s = (decide (f.length + l.length ≤ s.length) && pfx f s && sfx l s && gr bs ((s.drop f.length).take (s.length - l.length - f.length))) := by
  have ej : TL.joinL [42] (f :: (bs ++ [l])) = f ++ (42 :: TL.joinL [42] (bs ++ [l])) := by
    cases bs with
    | nil => rfl
    | cons c r => rfl
  rw [ej, mt_lit _ _ _ hf, aft bs l _ hb hl]
  by_cases h : f.length + l.length ≤ s.length
  · rw [decide_eq_true h, Bool.true_and, sfx_drop (by omega) (by omega), List.length_drop, show s.length - f.length - l.length = s.length - l.length - f.length by omega, Bool.and_assoc]
  · rw [decide_eq_false h, Bool.false_and, Bool.false_and, Bool.false_and]
    cases e : pfx f s with
    | false => rfl
    | true =>
      have := pfx_len e
      rw [sfx_short (by rw [List.length_drop]; omega), Bool.false_and, Bool.and_false]
end SC

/-! the texts' own search, cut and ends, said over lists of codes; a, *b, c = a list -/
namespace SC
open PySem L2 PySem.StrLaws
theorem at_pfx (x y : Str) (i : Nat) : At x y x.length i ↔ (i ≤ x.length ∧ pfx (TL.tl y) ((TL.tl x).drop i) = true) := by
  have hx : x.length = (TL.tl x).length := TL.len_tl x
  have hy : y.length = (TL.tl y).length := TL.len_tl y
  unfold At
  rw [subAt_eq]
  show _ ∧ (((TL.tl x).drop i).take y.length == TL.tl y) = true ↔ _
  unfold pfx
  rw [hy]
  constructor
  · rintro ⟨h1, h2⟩
    exact ⟨by omega, h2⟩
  · rintro ⟨h1, h2⟩
    have e := congrArg List.length (beq_iff_eq.mp h2)
    rw [List.length_take, List.length_drop] at e
    exact ⟨by omega, h2⟩
theorem find_fnd (x y : Str) : Txt.find x y = match fnd (TL.tl y) (TL.tl x) with | some i => ((i : Nat) : Int) | none => -1 := by
  have hx : x.length = (TL.tl x).length := TL.len_tl x
  unfold Txt.find
  rcases occ_head x y 1 (Nat.le_refl _) with ⟨h, hn⟩ | ⟨i, r, h, ha, hn⟩
  · rw [h]
    have e : fnd (TL.tl y) (TL.tl x) = none := by
      cases e : fnd (TL.tl y) (TL.tl x) with
      | none => rfl
      | some k =>
        obtain ⟨h1, h2, _⟩ := fnd_some e
        exact absurd ((at_pfx x y k).mpr ⟨by omega, h2⟩) (hn k)
    rw [e]
  · rw [h]
    obtain ⟨h1, h2⟩ := (at_pfx x y i).mp ha
    have e : fnd (TL.tl y) (TL.tl x) = some i := fnd_first (by omega) h2 fun j hj => by
      cases q : pfx (TL.tl y) ((TL.tl x).drop j) with
      | false => rfl
      | true => exact absurd ((at_pfx x y j).mpr ⟨by omega, q⟩) (hn j hj)
    rw [e]
theorem starts_pfx (x y : Str) : Txt.startswith x y = pfx (TL.tl y) (TL.tl x) := by
  have hx : x.length = (TL.tl x).length := TL.len_tl x
  have hy : y.length = (TL.tl y).length := TL.len_tl y
  unfold Txt.startswith
  rw [subAt_eq, List.drop_zero]
  show (decide (0 + y.length ≤ x.length) && ((TL.tl x).take y.length == TL.tl y)) = _
  unfold pfx
  rw [hy]
  cases q : ((TL.tl x).take (TL.tl y).length == TL.tl y) with
  | false => rw [Bool.and_false]
  | true =>
    have e := congrArg List.length (beq_iff_eq.mp q)
    rw [List.length_take] at e
    rw [decide_eq_true (by omega)]; rfl
theorem ends_sfx (x y : Str) : Txt.endswith x y = sfx (TL.tl y) (TL.tl x) := by
  have hx : x.length = (TL.tl x).length := TL.len_tl x
  have hy : y.length = (TL.tl y).length := TL.len_tl y
  unfold Txt.endswith
  rw [subAt_eq]
  show (decide (0 + y.length ≤ x.length) && (((TL.tl x).drop (x.length - y.length)).take y.length == TL.tl y)) = _
  unfold sfx
  rw [hy, hx, Nat.zero_add]
  by_cases h : (TL.tl y).length ≤ (TL.tl x).length
  · rw [List.take_of_length_le (by rw [List.length_drop]; omega)]
  · rw [decide_eq_false h, Bool.false_and, Bool.false_and]
/-- cut at one sign -/
theorem spl_one (s : Nat) : ∀ (l acc : List Nat), s ∉ acc → ∃ p ps, TL.spl [s] 0 acc l = p :: ps ∧ TL.joinL [s] (p :: ps) = acc ++ l ∧ (∀ q ∈ p :: ps, s ∉ q) ∧ ps.length = l.count s
  | [], acc, h => ⟨acc, [], TL.spl_nil _ _ _, by simp [TL.joinL], fun q hq => by rw [List.mem_singleton.mp hq]; exact h, by simp⟩
  | c :: r, acc, h => by
    by_cases hc : c = s
    · subst hc
      have hp : TL.pre [c] (c :: r) = true := by show ((c :: r).take 1 == [c]) = true; simp
      obtain ⟨p, ps, e1, e2, e3, e4⟩ := spl_one c r [] (by simp)
      refine ⟨acc, p :: ps, by rw [TL.spl_hit hp]; show acc :: TL.spl [c] 0 [] r = _; rw [e1], ?_, fun q hq => ?_, ?_⟩
      · show acc ++ ([c] ++ TL.joinL [c] (p :: ps)) = _
        rw [e2]; simp
      · rcases List.mem_cons.mp hq with rfl | hq
        · exact h
        · exact e3 q hq
      · rw [List.length_cons, e4, List.count_cons_self]
    · have hp : TL.pre [s] (c :: r) = false := by
        show ((c :: r).take 1 == [s]) = false
        rw [beq_eq_false_iff_ne]
        intro e
        have e : [c] = [s] := e
        exact hc (List.cons.inj e).1
      obtain ⟨p, ps, e1, e2, e3, e4⟩ := spl_one s r (acc ++ [c]) (fun hm => by
        rcases List.mem_append.mp hm with hm | hm
        · exact h hm
        · exact hc (List.mem_singleton.mp hm).symm)
      refine ⟨p, ps, by rw [TL.spl_miss hp]; exact e1, by rw [e2, List.append_assoc]; rfl, e3, ?_⟩
      rw [e4, List.count_cons_of_ne (fun z => hc z)]
/-- cut at the sign c: the parts, joined, are the text again; no part has the sign -/
theorem split_one (x : Str) (c : Nat) (hc : c < 256) : ∃ p ps, (Txt.split x ⟨#[c]⟩).map TL.tl = p :: ps ∧ TL.joinL [c] (p :: ps) = TL.tl x ∧ (∀ q ∈ p :: ps, c ∉ q) ∧ ps.length = (TL.tl x).count c := by
  have e := TL.split_spl x ⟨#[c]⟩ (by show [c] ≠ []; simp) (TL.kind_ok (by simp [hc]))
  obtain ⟨p, ps, e1, e2, e3, e4⟩ := spl_one c (TL.tl x) [] (by simp)
  exact ⟨p, ps, by rw [e]; exact e1, by rw [e2, List.nil_append], e3, e4⟩
section
variable {X : Cx}
/-- f, *m, l = a list of at least two -/
def gStar (K : PySem.W.Frag) (t : TGs) : TG := fun v σ H Q => ∃ (a : Addr) (f l : V) (ms : List V), v = .ref a ∧ SqL K H a (f :: (ms ++ [l])) ∧ ms.length ≤ 10000 ∧ ∀ D, H D = none → t [f, .ref D, l] σ (upd H D (.lst ms)) Q
theorem pgs_star {e : Expr} {p : Pos} {es : List Expr} {t : TG} {u : TGs} (h1 : PG X e t) (h2 : PGs X es u) : PGs X (.Starred e p :: es) (gCons t u) := by
  refine ⟨fun pins s σ H vs us Q I r h => ?_⟩
  obtain ⟨v, vr, rfl, h⟩ := h
  cases r with
  | cons r rr =>
    refine PyProof.Rows.assignInOrder_cons (thn (h1.run pins s σ H _ _ _ I r h) fun _ s1 hq => ?_)
    obtain ⟨σ1, H1, I1, q1⟩ := hq
    exact h2.run pins s1 σ1 H1 _ _ Q I1 rr q1
theorem pg_star {e1 e2 e3 : Expr} {p2 pos : Pos} {k : Nat} {t : TGs} (hc : X.calm = true) (h : PGs X [e1, .Starred e2 p2, e3] t)
    (hn : (assignEach [e1, .Starred e2 p2, e3] X.env).length = 3 := by rfl) (hst : (assignEach [e1, .Starred e2 p2, e3] X.env).findIdx? (·.1) = some 1 := by rfl) : PG X (.Tuple [e1, .Starred e2 p2, e3] k pos) (gStar X.K t) := by
  refine ⟨fun pins s σ H v u Q I r hw => ?_⟩
  obtain ⟨a, f, l, ms, rfl, hq, hms, hw⟩ := hw
  cases r
  obtain ⟨its, rv, ht, hz⟩ := I.list hq
  have hl : s.heap.IsList a its.toArray := ht.isList
  have lim : sizeLine = 16777216 := sizeLine_eq
  cases rv with
  | cons rf rest =>
  rename_i uf ur
  obtain ⟨um, ul, hur, rm, rl⟩ : ∃ (um : List Value) (ul : Value), ur = um ++ [ul] ∧ Vals ms um ∧ RelV l ul := by
    clear hq hz ht hl hw hms
    induction ms generalizing ur with
    | nil =>
      cases rest with
      | cons r1 r2 =>
        cases r2
        exact ⟨[], _, rfl, .nil, r1⟩
    | cons m ms ih =>
      cases rest with
      | cons r1 r2 =>
        obtain ⟨um, ul, rfl, h1, h2⟩ := ih r2
        exact ⟨_ :: um, ul, rfl, .cons r1 h1, h2⟩
  subst hur
  have hml : um.length = ms.length := rm.length.symm
  have hne : a ≠ s.heap.objs.size := by obtain ⟨o, ho, _⟩ := hl; exact Nat.ne_of_lt (Heap.lt_size ho)
  rw [PyProof.Rows.assign_Tuple]
  refine wpAny_bind (wpAny_standAt ?_)
  unfold unpack
  rw [hn, hst]
  refine wpAny_bind (wpAny_holding ?_)
  unfold unpackItems
  refine wpAny_bind ?_
  unfold notIterableAtAll
  refine wpAny_bind (wpAny_specialOf hl.typeIs slot_list_iter.lookup (wpAny_pure ?_))
  simp only [Bool.false_eq_true, if_false]
  refine wpAny_bind (wpAny_holding (wpAny_pyIter_list hl ?_))
  refine wpAny_bind (wpAny_holding (PySem.W.kun_draw hne 1 0 _ _ ⟨_, Heap.get?_push_size _ rfl, rfl, rfl⟩ (hl.push _) (by simp) fun g1 hit same => ?_))
  have hl1 : g1.IsList a (uf :: (um ++ [ul])).toArray := (hl.push _).extBut same.extBut hne
  obtain ⟨oi, hoi, _⟩ := id hit
  obtain ⟨ol, hol, _⟩ := id hl1
  show wpAny _ _ (if ([uf] : List Value).length < 1 then _ else _) _ _ _
  rw [if_neg (by simp)]
  refine wpAny_bind (wpAny_holding (PySem.W.kun_collect (s := { s with heap := g1 }) (T := "list_iterator") (.inr (.inr (.inl rfl))) (Walks.list (A := X.A.in1) (I.ok.hd hc) s.heap.objs.size a hne (uf :: (um ++ [ul])).toArray) (fun j u st => st.1.typeIs) (k := 1) (by simp) ⟨hit, hl1⟩ (Heap.lt_size hoi) (Heap.lt_size hol) (fun g2 tk kp => ?_) (by simp; omega)))
  show wpAny _ _ (if (um ++ [ul]).length < 3 - 1 - 1 then _ else _) _ _ _
  rw [if_neg (by simp)]
  have kept : ∀ b o, s.heap.get? b = some o → g2.get? b = some o := fun b o e => kp b o (Nat.ne_of_lt (Heap.lt_size e)) (same.extBut b o (Nat.ne_of_lt (Heap.lt_size e)) (Heap.get?_push_of_some _ e))
  show wpAny _ _ (newList ((um ++ [ul]).take ((um ++ [ul]).length - (3 - 1 - 1))) >>= fun d => pure ([uf] ++ [d] ++ (um ++ [ul]).drop ((um ++ [ul]).length - (3 - 1 - 1)))) _ _ _
  rw [show (um ++ [ul]).length - (3 - 1 - 1) = um.length by simp, List.take_left, List.drop_left]
  have I1 : Inv X pins σ H { s with heap := g2, toks := tk } := I.kept (t' := tk) kept
  refine wpAny_bind (wpAny_newList (wpAny_pure ?_) (by omega))
  have hfree : H g2.objs.size = none := I1.hok.fresh (Nat.le_refl _)
  have J : Inv X pins σ (upd H g2.objs.size (.lst ms)) { s with heap := g2.push { cls := .type "list", data := .seq um.toArray }, toks := tk } :=
    I1.laid (t' := tk) (o := .lst ms) (fun b o q => Heap.get?_push_of_some _ q) (Nat.le_refl _) ⟨by omega, um, 0, rm, Heap.get?_push_size _ rfl⟩
  exact h.run pins _ σ _ [f, .ref g2.objs.size, l] _ Q J (.cons rf (.cons rfl (.cons rl .nil))) (hw _ hfree)
end
end SC

namespace SC
open PySem L2
def top (i : Nat) : Stmt := PySem.Challenge.pw_sealchart_k06_matches_by_a_table.main.body.getD i (.Pass ⟨0, 0, 0, 0⟩)
local macro_rules | `(tactic| walk_at "wp") => `(tactic| simp (config := { decide := false }) only [tFmtX, gCons, gNil, tSeq, tAsg, tIfS, tRet, tTest, tOp, tUn, tVar, tC, tCB, tCall, tCons, tNil, tLst, tTup, tAnd, tOr, tNot, tAndV, tOrV, tNotV, tB, tChain, tIf, tIsT, tSl, rSlS, tNoPart, tPart, tErr, tAug, ipI, tDrop, tM1, tBM, rAppend, gSub, gName, tNext, rI, rI0, rU, rEq, rNe, scal, rSetL, L2.start, List.map_cons, List.map_nil, List.length_cons, List.length_nil, List.replicate, List.cons_append, List.nil_append, List.append_nil, List.getElem?_cons_zero, List.getElem?_cons_succ, List.set_cons_zero, List.set_cons_succ, cxOf,
    Option.some.injEq, V.int.injEq, V.ref.injEq, V.str.injEq, V.bl.injEq, V.ty.injEq, HO.lst.injEq, HO.tup.injEq, List.cons.injEq, exists_eq_left, exists_eq_left', exists_eq_right, exists_and_left, exists_eq, and_true, true_and, and_assoc, reduceCtorEq, false_and, and_false, exists_false, or_false, false_or, decide_eq_true_eq, Bool.not_eq_true', decide_eq_false_iff_not, decide_true, decide_false, Bool.false_eq_true, upd_same, at0, at1, ixN_20, ixN_21, ixN_10, if_true, if_false, ite_true, ite_false, Nat.reduceAdd, Nat.reduceSub, tyN_non, tyN_bl, tyN_int, tyN_str, isaB_all])
local macro_rules | `(tactic| walk_at "wt") => `(tactic| simp (config := { decide := false }) only [tTest, tOp, tVar, tC, tCB, tCons, tNil, tSl, rSlS, tNoPart, tPart, tB, tAnd, tOr, tNot, tAndV, tOrV, tNotV, tChain, tIsT, rI, rI0, rU, rEq, rNe, scal, List.getElem?_cons_zero, List.getElem?_cons_succ,
    Option.some.injEq, V.int.injEq, V.ref.injEq, V.str.injEq, V.bl.injEq, V.ty.injEq, HO.lst.injEq, HO.tup.injEq, List.cons.injEq, exists_eq_left, exists_eq_left', exists_eq_right, exists_and_left, exists_eq, and_true, true_and, and_assoc, reduceCtorEq, false_and, and_false, exists_false, or_false, false_or, decide_eq_true_eq, Bool.not_eq_true', decide_eq_false_iff_not, decide_true, decide_false, Bool.false_eq_true, upd_same, at0, at1, ixN_20, ixN_21, ixN_10, if_true, if_false, ite_true, ite_false, Nat.reduceAdd, Nat.reduceSub, tyN_non, tyN_bl, tyN_int, tyN_str, isaB_all])
/-! the law's own helpers: cell, stream, take, char, string -/
abbrev s_law_cell : Stmt := top 5
abbrev N_law_cell : List Str := ["script", "k"]
theorem sc_law_cell : FnScope N_law_cell ["script", "k"] (defScope s_law_cell) := ⟨rfl, rfl, rfl, by decide +kernel, rfl, by decide +kernel, by decide +kernel⟩
abbrev s_law_stream : Stmt := top 6
abbrev N_law_stream : List Str := ["cell"]
theorem sc_law_stream : FnScope N_law_stream ["cell"] (defScope s_law_stream) := ⟨rfl, rfl, rfl, by decide +kernel, rfl, by decide +kernel, by decide +kernel⟩
abbrev s_law_take : Stmt := top 7
abbrev N_law_take : List Str := ["stream", "many", "worth"]
theorem sc_law_take : FnScope N_law_take ["stream", "many"] (defScope s_law_take) := ⟨rfl, rfl, rfl, by decide +kernel, rfl, by decide +kernel, by decide +kernel⟩
def spCell (K : PySem.W.Frag) : Sp := fun vs H Q _ => ∃ (a : Addr) (ns : List Int) (k : Nat), vs = [.ref a, .int k] ∧ SqL K H a (ns.map V.int) ∧ Q (.int (ns.getD k 0)) H
def spStream : Sp := fun vs H Q _ => ∃ z : Int, vs = [.int z] ∧ ∀ s, H s = none → ∀ a b : Int, Q (.ref s) (upd H s (.lst [.int a, .int b]))
def spTake : Sp := fun vs H Q _ => ∃ (s : Addr) (m : Int), vs = [.ref s, .int m] ∧ Strm H s ∧ (0 < m ∧ m < 2 ^ 200) ∧
  ∀ (w : Int) (H' : Hp), 0 ≤ w → w < m → Kp [s] H H' → Strm H' s → Q (.int w) H'
/-- the 94 signs of the law's alphabet -/
def abc : List Nat := (List.range 95).map (· + 32) |>.filter (· != 37)
def spChar : Sp := fun vs H Q _ => ∃ k : Int, vs = [.int k] ∧ 0 ≤ k ∧ k < 94 ∧ Q (.str ⟨#[abc.getD k.toNat 0]⟩) H
def spString : Sp := fun vs H Q _ => ∃ (s : Addr) (m : Int), vs = [.ref s, .int m] ∧ Strm H s ∧ 0 ≤ m ∧ m < 1000 ∧
  ∀ (z : Str) (H' : Hp), z.length ≤ m.toNat → (∀ c ∈ z.cps.toList, c ∈ abc) → Kp [s] H H' → Strm H' s → Q (.str z) H'
section
variable {P : Program} {w : World} {K : PySem.W.Frag} {mg : Str → Option Value} {base : Heap} {f : Addr} {fd : FuncData}
theorem two200 {m : Int} (h0 : 0 < m) (h : m < 2 ^ 200) : CDivW a m := by
  refine wide_div (b := 200) h0 ?_ (by decide) (by decide)
  have : (2 : Int) ^ 200 = ((2 ^ 200 : Nat) : Int) := by decide +kernel
  rw [this] at h
  omega
theorem ok_cell (F : Fun K "_law_cell" "_law_cell" s_law_cell f fd) (B : Blt mg) : FnOk P w K mg base CX0 1 f fd ["script", "k"] (spCell K) := by
  refine F.ok sc_law_cell (fun vs H Q E h => ?_) (fun cdv A outer s H vs Q E hr h => ?_)
  · obtain ⟨a, ns, k, rfl, _⟩ := h; rfl
  obtain ⟨a, ns, k, rfl, hS, q⟩ := h
  refine ⟨_, (pss_cons (ps_if (pt_cmpR op_lt (pv 1) (B.len_q (pa_cons (pv 0) pa_nil)) (nomark _)) (pss_one (ps_ret (pe_ix ix_list (pv 0) (pv 1) (fun _ _ => rfl)))) pss_nil)
    (pss_one (ps_ret pe_int))), ?_⟩
  walk_at "wp"
  refine ⟨_, Or.inl hS, ?_⟩
  rw [List.length_map]
  by_cases c : k < ns.length
  · rw [if_pos (by omega)]
    rw [List.getD_eq_getElem?_getD, List.getElem?_eq_getElem c] at q
    exact ⟨a, _, (k : Int), V.int ns[k], rfl, rfl, hS, atI_nat (j := k) (by rw [List.getElem?_map, List.getElem?_eq_getElem c] <;> rfl), q⟩
  · rw [if_neg (by omega)]
    rw [List.getD_eq_getElem?_getD, List.getElem?_eq_none (by omega)] at q
    exact q
theorem ok_stream (F : Fun K "_law_stream" "_law_stream" s_law_stream f fd) (B : Blt mg) : FnOk P w K mg base CX0 1 f fd ["cell"] spStream := by
  refine F.ok sc_law_stream (fun vs H Q E h => ?_) (fun cdv A outer s H vs Q E hr h => ?_)
  · obtain ⟨z, rfl, _⟩ := h; rfl
  obtain ⟨z, rfl, q⟩ := h
  refine ⟨_, (pss_cons (ps_if (pt_cmpR op_ge (pv 0) (pe_op op_pow pe_int pe_int) (nomark _)) (pss_one (ps_ret (pe_lst (pa_cons (pv 0) (pa_cons pe_int pa_nil))))) pss_nil)
    (pss_one (ps_ret (pe_lst (pa_cons pe_int (pa_cons (pv 0) pa_nil)))))), ?_⟩
  walk_at "wp"
  have e2 : (2 : Nat) ≤ sizeLine := by decide
  refine ⟨by refine ⟨?_, ?_, ?_⟩ <;> decide, ?_⟩
  split
  · exact ⟨e2, fun p hp => q p hp _ _⟩
  · exact ⟨e2, fun p hp => q p hp _ _⟩
theorem ok_take (F : Fun K "_law_take" "_law_take" s_law_take f fd) (B : Blt mg) : FnOk P w K mg base CX0 1 f fd ["stream", "many"] spTake := by
  refine F.ok sc_law_take (fun vs H Q E h => ?_) (fun cdv A outer s H vs Q E hr h => ?_)
  · obtain ⟨s, m, rfl, _⟩ := h; rfl
  obtain ⟨p, m, rfl, ⟨a, b, hp⟩, ⟨m0, m1⟩, q⟩ := h
  refine ⟨_, (pss_cons (ps_if (pt_cmpR op_gt (pe_ix ix_lM (pv 0) pe_int (fun _ _ => rfl)) pe_int (nomark _)) (pss_cons (ps_set (i := 2) sc_law_take.nd rfl (Or.inl rfl) (pe_op op_mod (B.int_i (pa_cons (pe_ix ix_lM (pv 0) pe_int (fun _ _ => rfl)) pa_nil)) (pv 1)))
    (pss_cons (ps_asg (pe_op op_fdivW (pe_ix ix_lM (pv 0) pe_int (fun _ _ => rfl)) (pv 1)) (pg_sub (pv 0) pe_int set_list))
    (pss_one (ps_ret (pv 2))))) pss_nil)
    (pss_cons (ps_asg (pe_op op_mod (B.int_i (pa_cons (pe_op op_add (pe_op op_mul (pe_ix ix_lM (pv 0) pe_int (fun _ _ => rfl)) pe_int) pe_int) pa_nil)) pe_int) (pg_sub (pv 0) pe_int set_list))
    (pss_one (ps_ret (pe_op op_mod (B.int_i (pa_cons (pe_op op_add (pe_op op_fdivW (pe_op op_mul (pe_ix ix_lM (pv 0) pe_int (fun _ _ => rfl)) (pe_ix ix_lM (pv 0) pe_int (fun _ _ => rfl))) pe_int) (pe_op op_fdivW (pe_ix ix_lM (pv 0) pe_int (fun _ _ => rfl)) pe_int)) pa_nil)) (pv 1)))))), ?_⟩
  walk_at "wp"
  simp only [hp, Option.some.injEq, HO.lst.injEq, exists_eq_left', at0, at1, V.int.injEq, List.length_cons, List.length_nil, Nat.reduceAdd, ixN_20, ixN_21, List.set_cons_zero, List.set_cons_succ, upd_same]
  have kp : ∀ x y : Int, Kp [p] H (upd H p (.lst [.int x, .int y])) := fun x y => Kp.lst hp (List.mem_singleton.mpr rfl)
  split
  · exact ⟨m0, two200 m0 m1, q _ _ (Int.emod_nonneg _ (by omega)) (Int.emod_lt_of_pos _ m0) (kp _ _) Strm.mk⟩
  · have n0 := Int.emod_nonneg (b * 48271 + 69621) (show (2147483647 : Int) ≠ 0 by decide)
    have n1 := Int.emod_lt_of_pos (b * 48271 + 69621) (show (0 : Int) < 2147483647 by decide)
    have lit : ∀ {j : Int} {i : Int}, 0 < j → j < 2 ^ 200 → CDivW i j := fun h0 h1 => two200 h0 h1
    refine ⟨.inr (by decide), by decide, .inl ⟨by omega, by omega⟩, lit (by decide) (by decide), lit (by decide) (by decide), m0, ?_⟩
    exact q _ _ (Int.emod_nonneg _ (by omega)) (Int.emod_lt_of_pos _ m0) (kp _ _) Strm.mk
theorem abc_get : ∀ k : Nat, k < 94 → abc.getD k 0 ∈ abc := by decide +kernel
end

/-! ''.join([S[_law_take(stream, m)] for k in range(n)]) -/
section
variable {K : PySem.W.Frag}
theorem cps_lenP (z : Str) : z.cps.toList.length = z.length := by
  show _ = z.cps.size
  exact Array.length_toList
/-- the new list of one-sign texts -/
structure Picked (S : Str) (n : Nat) (st : Addr) (H : Hp) (D : Addr) (cs : List Nat) (H' : Hp) : Prop where
  at_ : H' D = some (.lst ((sgs cs).map V.str))
  len : cs.length = n
  mem : ∀ c ∈ cs, c ∈ S.cps.toList
  kp : Kp [st] H H'
  st : Strm H' st
theorem Picked.sum {S : Str} {n : Nat} {st : Addr} {H : Hp} {D : Addr} {cs : List Nat} {H' : Hp} (p : Picked S n st H D cs H') (hn : n ≤ 16000000) : (List.map (fun x => x.length) (sgs cs)).sum + (sgs cs).length * (Str.ofString "").length ≤ 16777216 := by
  rw [sgs_sum, sgs_len, p.len]
  show n + n * 0 ≤ _
  omega
theorem join_len (cs : List Nat) : (Txt.join (Str.ofString "") (sgs cs)).length = cs.length := by rw [TL.len_tl, tl_sgs]
theorem join_cps (cs : List Nat) : (Txt.join (Str.ofString "") (sgs cs)).cps.toList = cs := tl_sgs cs
theorem pick_lst {σ : St} {H : Hp} {R : VK} {ta : TA} {tm : TE} {ks is js : Nat} {S : Str} {m n : Int} {st : Addr}
    (ha : ∀ R, R [V.int n] H → ta σ H R) (n0 : 0 ≤ n) (n1 : n ≤ 1000) (hst : Strm H st)
    (hS : ∀ x, ((wipe σ [ks]).set ks (some x))[is]? = some (some (.str S))) (hj : ∀ x, ((wipe σ [ks]).set ks (some x))[js]? = some (some (.ref st)))
    (hw : ∀ x : V, wipe ((wipe σ [ks]).set ks (some x)) [ks] = wipe σ [ks])
    (hm : ∀ x H2 R, R (V.int m) H2 → tm ((wipe σ [ks]).set ks (some x)) H2 R) (m0 : 0 < m) (m1 : m ≤ S.length) (hSl : S.length ≤ 1000)
    (q : ∀ (D : Addr) (cs : List Nat) (H' : Hp), Picked S n.toNat st H D cs H' → R (.ref D) H') :
    tLc (iRng1 ta) (gName ks) tYes (tOp rIxS (tVar is) (tCall spTake [] E0 (tCons (tVar js) (tCons tm tNil)))) [ks] σ H R := by
  refine ha _ ⟨n, rfl, by omega, by omega, fun D hD => ?_⟩
  have lim : sizeLine = 16777216 := sizeLine_eq
  have nD : D ≠ st := by obtain ⟨a, b, e⟩ := hst; exact (ne_of_none e hD).symm
  refine lc_range (lo := 0) (n := n.toNat) (fun i H' => ∃ cs : List Nat, H' D = some (.lst ((sgs cs).map V.str)) ∧ cs.length = i ∧ (∀ c ∈ cs, c ∈ S.cps.toList) ∧ Kp [st] H H' ∧ Strm H' st)
    ⟨[], upd_same, rfl, fun c h => absurd h (by simp), Kp.new hD _, hst.kp (Kp.new hD _ : Kp [] _ _) (by simp)⟩ (fun i H2 hi ⟨cs, hcD, hcl, hca, k2, s2⟩ => ?_) (fun H2 ⟨cs, hcD, hcl, hca, k2, s2⟩ => ?_)
  · refine ⟨hw _, ?_⟩
    simp only [tYes, if_true]
    refine ⟨_, hS _, _, hj _, hm _ _ _ ⟨st, m, rfl, s2, ⟨m0, by omega⟩, fun v H3 v0 v1 k3 s3 => ?_⟩⟩
    obtain ⟨c, hc⟩ : ∃ c, S.cps.toList[v.toNat]? = some c := ⟨_, List.getElem?_eq_getElem (by rw [cps_lenP]; omega)⟩
    have hcD3 := k3.keep D _ (by simpa using nD) hcD
    refine ⟨S, v, c, rfl, rfl, by omega, ?_, _, hcD3, by rw [List.length_map, sgs_len]; omega, cs ++ [c], by rw [upd_same, sgs_add], by rw [List.length_append, hcl]; rfl, fun d h => ?_, (k2.trans k3).upd hD hcD3, ?_⟩
    · have ev : v = ((v.toNat : Nat) : Int) := by omega
      rw [ev]
      exact atI_nat hc
    · rcases List.mem_append.mp h with h | h
      · exact hca d h
      · rw [List.mem_singleton.mp h]; exact List.mem_of_getElem? hc
    · obtain ⟨a, b, e⟩ := s3
      exact ⟨a, b, by rw [upd_ne (Ne.symm nD)]; exact e⟩
  · exact q D cs H2 ⟨hcD, hcl, hca, k2, s2⟩
end

/-! matches -/
abbrev s_matches : Stmt := top 1
abbrev N_matches : List Str := ["pattern", "path", "wanted", "parts", "piece", "part"]
theorem sc_matches : FnScope N_matches ["pattern", "path"] (defScope s_matches) := ⟨rfl, rfl, rfl, by decide +kernel, rfl, by decide +kernel, by decide +kernel⟩
abbrev s_part_matches : Stmt := top 2
abbrev N_part_matches : List Str := ["pattern", "part", "first", "between", "last"]
theorem sc_part_matches : FnScope N_part_matches ["pattern", "part"] (defScope s_part_matches) := ⟨rfl, rfl, rfl, by decide +kernel, rfl, by decide +kernel, by decide +kernel⟩
abbrev s_stand_in_order : Stmt := top 3
abbrev N_stand_in_order : List Str := ["pieces", "text", "rest", "piece", "at"]
theorem sc_stand_in_order : FnScope N_stand_in_order ["pieces", "text"] (defScope s_stand_in_order) := ⟨rfl, rfl, rfl, by decide +kernel, rfl, by decide +kernel, by decide +kernel⟩
def spStand (K : PySem.W.Frag) : Sp := fun vs H Q _ => ∃ (a : Addr) (bs : List Str) (t : Str), vs = [.ref a, .str t] ∧ SqL K H a (bs.map V.str) ∧ (∀ b ∈ bs, b.length ≤ 9000) ∧ t.length ≤ 9000 ∧ Q (.bl (gr (bs.map TL.tl) (TL.tl t))) H
def spPartM : Sp := fun vs H Q _ => ∃ p s : Str, vs = [.str p, .str s] ∧ p.length ≤ 9000 ∧ s.length ≤ 9000 ∧ ∀ H', Kp [] H H' → Q (.bl (mt (TL.tl p) (TL.tl s))) H'
def mtW (p s : Str) : Bool := decide ((Txt.split p (Str.ofString "/")).length = (Txt.split s (Str.ofString "/")).length) && ((Txt.split p (Str.ofString "/")).zip (Txt.split s (Str.ofString "/"))).all fun x => mt (TL.tl x.1) (TL.tl x.2)
def spMatches : Sp := fun vs H Q _ => ∃ p s : Str, vs = [.str p, .str s] ∧ p.length ≤ 9000 ∧ s.length ≤ 9000 ∧ ∀ H', Kp [] H H' → Q (.bl (mtW p s)) H'
section
variable {P : Program} {w : World} {K : PySem.W.Frag} {mg : Str → Option Value} {base : Heap} {f : Addr} {fd : FuncData}
theorem ok_stand (F : Fun K "_stand_in_order" "_stand_in_order" s_stand_in_order f fd) (B : Blt mg) : FnOk P w K mg base CX0 1 f fd ["pieces", "text"] (spStand K) := by
  refine F.ok sc_stand_in_order (fun vs H Q E h => ?_) (fun cdv A outer s H vs Q E hr h => ?_)
  · obtain ⟨_, _, _, rfl, _⟩ := h; rfl
  obtain ⟨a, bs, t, rfl, hS, hb, ht, q⟩ := h
  refine ⟨_, (pss_cons (ps_set (i := 2) sc_stand_in_order.nd rfl (Or.inl rfl) (pv 1))
    (pss_cons (ps_for PassesOwn.never rfl (pi_list (pv 0)) (pg_name (i := 3) sc_stand_in_order.nd rfl (Or.inl rfl)) (pss_cons (ps_set (i := 4) sc_stand_in_order.nd rfl (Or.inl rfl) (pe_m1 PySem.F.slot_str_find PySem.F.type_str_find mt_find (pv 2) (pv 3)))
    (pss_cons (ps_if (pt_cmpR op_lt (pv 4) pe_int (nomark _)) (pss_one (ps_ret pe_bl)) pss_nil)
    (pss_one (ps_set (i := 2) sc_stand_in_order.nd rfl (Or.inl rfl) (pe_slice sl_str (pv 2) (po_some (pe_op op_add (pv 4) (B.len_s (pa_cons (pv 3) pa_nil)))) po_none))))))
    (pss_one (ps_ret pe_bl)))), ?_⟩
  walk_at "wp"
  have lim : sizeLine = 16777216 := sizeLine_eq
  refine ⟨_, rfl, a, rfl, ⟨_, hS⟩, ?_⟩
  refine for_list (K := K) (a := a) (xs := bs.map V.str) (fun i σ H' => H' = H ∧ ∃ (r : Str) (o1 o2 : Option V), σ = [some (.ref a), some (.str t), some (.str r), o1, o2] ∧ r.length ≤ 9000 ∧ gr (bs.map TL.tl) (TL.tl t) = gr ((bs.drop i).map TL.tl) (TL.tl r))
    ⟨rfl, t, _, _, rfl, ht, rfl⟩ (fun i σ H' _ ⟨e, _⟩ => e ▸ hS) (fun i x σ H' hx ⟨hH, r, o1, o2, hσ, hr, hg⟩ => ?_) (fun σ H' ⟨hH, r, o1, o2, hσ, hr, hg⟩ => ?_)
  · subst hσ
    subst hH
    rw [List.getElem?_map] at hx
    cases hbi : bs[i]? with
    | none => rw [hbi] at hx; cases hx
    | some b =>
    rw [hbi] at hx
    obtain rfl : V.str b = x := by simpa using hx
    have hbl := hb b (List.mem_of_getElem? hbi)
    have hlt : i < bs.length := by
      rcases Nat.lt_or_ge i bs.length with h | h
      · exact h
      · rw [List.getElem?_eq_none h] at hbi; cases hbi
    have ed : bs.drop i = b :: bs.drop (i + 1) := by
      rw [List.drop_eq_getElem_cons hlt]
      rw [List.getElem?_eq_getElem hlt] at hbi
      rw [Option.some.inj hbi]
    have eg : gr ((bs.drop i).map TL.tl) (TL.tl r) = match fnd (TL.tl b) (TL.tl r) with | none => false | some k => gr ((bs.drop (i + 1)).map TL.tl) ((TL.tl r).drop (k + (TL.tl b).length)) := by rw [ed]; rfl
    walk_at "wp"
    refine ⟨⟨_, rfl⟩, ?_⟩
    have ef := find_fnd r b
    cases e : fnd (TL.tl b) (TL.tl r) with
    | none =>
      rw [e] at ef eg
      rw [ef, if_pos (by decide)]
      rw [hg, eg] at q
      exact q
    | some k =>
      rw [e] at ef eg
      have ef : Txt.find r b = ((k : Nat) : Int) := ef
      rw [ef, if_neg (by omega)]
      refine ⟨by omega, by omega, ?_, ?_⟩
      · exact Nat.le_trans (cutS_length r _ _) hr
      · rw [show ((k : Int) + (b.length : Int)) = ((k + b.length : Nat) : Int) from rfl, cut_from, hg, eg, TL.len_tl b]
  · subst hσ
    subst hH
    walk_at "wp"
    rw [List.length_map, List.drop_length] at hg
    rw [hg] at q
    exact q
theorem join_mem (S : List Nat) : ∀ (ps : List (List Nat)), ∀ q ∈ ps, q.length ≤ (TL.joinL S ps).length
  | [], q, h => absurd h (by simp)
  | [p], q, h => by rw [List.mem_singleton.mp h]; exact Nat.le_refl _
  | p :: p2 :: r, q, h => by
    show q.length ≤ (p ++ (S ++ TL.joinL S (p2 :: r))).length
    rw [List.length_append, List.length_append]
    rcases List.mem_cons.mp h with rfl | h
    · omega
    · have := join_mem S (p2 :: r) q h
      omega
theorem ok_part (F : Fun K "_part_matches" "_part_matches" s_part_matches f fd) (B : Blt mg) (c_stand_in_order : Cal P w K mg base CX0 1 "_stand_in_order" (spStand K)) : FnOk P w K mg base CX0 2 f fd ["pattern", "part"] spPartM := by
  refine F.ok sc_part_matches (fun vs H Q E h => ?_) (fun cdv A outer s H vs Q E hr h => ?_)
  · obtain ⟨_, _, rfl, _⟩ := h; rfl
  obtain ⟨p, s, rfl, hp, hs, q⟩ := h
  refine ⟨_, (pss_cons (ps_if (pt_cmpR op_notIn_sign pe_str (pv 0) (by rfl)) (pss_one (ps_ret (pe_cmpR op_eq (pv 0) (pv 1) (nomark _)))) pss_nil)
    (pss_cons (ps_asg (pe_m1 PySem.F.slot_str_split PySem.F.type_str_split mt_split (pv 0) pe_str) (pg_star rfl (pgs_cons (pg_name (i := 2) sc_part_matches.nd rfl (Or.inl rfl)) (pgs_star (pg_name (i := 3) sc_part_matches.nd rfl (Or.inl rfl)) (pgs_cons (pg_name (i := 4) sc_part_matches.nd rfl (Or.inl rfl)) pgs_nil)))))
    (pss_cons (ps_if (pt_cmpR op_lt (B.len_s (pa_cons (pv 1) pa_nil)) (pe_op op_add (B.len_s (pa_cons (pv 2) pa_nil)) (B.len_s (pa_cons (pv 4) pa_nil))) (nomark _)) (pss_one (ps_ret pe_bl)) pss_nil)
    (pss_cons (ps_if (PW.pt (pw_or (pt_not (pt_val (pe_m1 PySem.F.slot_str_startswith PySem.F.type_str_startswith mt_startswith (pv 1) (pv 2)))) (pw_or1 (pt_not (pt_val (pe_m1 PySem.F.slot_str_endswith PySem.F.type_str_endswith mt_endswith (pv 1) (pv 4))))))) (pss_one (ps_ret pe_bl)) pss_nil)
    (pss_one (ps_ret (c_stand_in_order.pe hr (pa_cons (pv 3) (pa_cons (pe_slice sl_str (pv 1) (po_some (B.len_s (pa_cons (pv 2) pa_nil))) (po_some (pe_op op_sub (B.len_s (pa_cons (pv 1) pa_nil)) (B.len_s (pa_cons (pv 4) pa_nil))))) pa_nil))))))))), ?_⟩
  walk_at "wp"
  have lim : sizeLine = 16777216 := sizeLine_eq
  refine ⟨42, rfl, ?_⟩
  by_cases hc : 42 ∈ p.cps.toList
  · rw [if_neg (fun h => h hc)]
    refine ⟨⟨_, rfl⟩, by decide, by omega, fun a ha => ?_⟩
    obtain ⟨p0, ps, eS, e2, e3, e4⟩ := split_one p 42 (by decide)
    have eM : (Txt.split p (Str.ofString "*")).map TL.tl = p0 :: ps := eS
    clear eS
    have hcnt : 1 ≤ (TL.tl p).count 42 := List.count_pos_iff.mpr hc
    have hcl : (TL.tl p).count 42 ≤ (TL.tl p).length := List.count_le_length
    rw [← TL.len_tl] at hcl
    generalize Txt.split p (Str.ofString "*") = L at eM ⊢
    cases L with
    | nil => cases eM
    | cons f R =>
    obtain ⟨e0, e1⟩ : TL.tl f = p0 ∧ R.map TL.tl = ps := List.cons.inj eM
    clear eM
    subst e0
    have hRl : R.length = (TL.tl p).count 42 := by rw [← e4, ← e1, List.length_map]
    have hR : R ≠ [] := fun h => by rw [h] at hRl; simp only [List.length_nil] at hRl; omega
    obtain ⟨ms, l, rfl⟩ : ∃ ms l, R = ms ++ [l] := ⟨R.dropLast, R.getLast hR, (List.dropLast_concat_getLast hR).symm⟩
    rw [List.map_append] at e1
    have e1 : ms.map TL.tl ++ [TL.tl l] = ps := e1
    subst e1
    have hf : 42 ∉ TL.tl f := e3 _ List.mem_cons_self
    have hl : 42 ∉ TL.tl l := e3 _ (by simp)
    have hm : ∀ b ∈ ms.map TL.tl, 42 ∉ b := fun b hb => e3 b (by simp [List.mem_map] at hb ⊢; exact .inr (.inl hb))
    have len : ∀ b : Str, TL.tl b ∈ TL.tl f :: (ms.map TL.tl ++ [TL.tl l]) → b.length ≤ 9000 := fun b hb => by
      have := join_mem [42] _ _ hb
      rw [e2, ← TL.len_tl, ← TL.len_tl] at this
      omega
    have fl := len f List.mem_cons_self
    have ll := len l (by simp)
    have mm := mt_parts (s := TL.tl s) hf hm hl
    rw [e2] at mm
    have k1 : Kp [] H (upd H a (.lst ((f :: (ms ++ [l])).map V.str))) := Kp.new ha _
    refine ⟨a, .str f, .str l, ms.map V.str, rfl, .inl (.inl (by rw [upd_same]; simp)), ?_, fun D hD => ?_⟩
    · rw [List.length_append, List.length_singleton] at hRl
      rw [List.length_map]
      omega
    have k2 := k1.trans (Kp.new hD (.lst (ms.map V.str)) : Kp [] _ _)
    have kQ : ∀ b, b = mt (TL.tl p) (TL.tl s) → Q (.bl b) (upd (upd H a (.lst (V.str f :: (ms ++ [l]).map V.str))) D (.lst (ms.map V.str))) := fun b hb => by
      have := q _ k2
      rw [← hb] at this
      exact this
    have sf := starts_pfx s f
    have se := ends_sfx s l
    have sl := TL.len_tl s
    have fl2 := TL.len_tl f
    have ll2 := TL.len_tl l
    walk_at "wp"
    refine ⟨by omega, by omega, by omega, ?_⟩
    split
    · rename_i h
      refine kQ _ ?_
      rw [mm, decide_eq_false (by omega), Bool.false_and, Bool.false_and, Bool.false_and]
    · rename_i h
      rw [decide_eq_true (show (TL.tl f).length + (TL.tl l).length ≤ (TL.tl s).length by omega), Bool.true_and, ← sf, ← se] at mm
      refine ⟨⟨_, rfl⟩, ?_⟩
      cases h1 : Txt.startswith s f with
      | false =>
        rw [if_pos rfl]
        exact kQ _ (by rw [mm, h1, Bool.false_and, Bool.false_and])
      | true =>
        rw [if_neg (by decide)]
        refine ⟨⟨_, rfl⟩, ?_⟩
        cases h2 : Txt.endswith s l with
        | false =>
          rw [if_pos rfl]
          exact kQ _ (by rw [mm, h2, Bool.and_false, Bool.false_and])
        | true =>
          rw [if_neg (by decide)]
          rw [h1, h2, Bool.true_and, Bool.true_and] at mm
          refine ⟨by omega, by omega, by omega, by omega, D, ms, _, rfl, SqL.of upd_same, fun b hb => len b (List.mem_cons_of_mem _ (List.mem_append_left _ (List.mem_map_of_mem hb))), Nat.le_trans (cutS_length s _ _) hs, kQ _ ?_⟩
          rw [mm, show ((s.length : Int) - (l.length : Int)) = ((s.length - l.length : Nat) : Int) by omega, cut_nat _ (by omega), ← fl2, ← ll2, ← sl]
  · rw [if_pos hc]
    have e := q H (Kp.refl _ _)
    rw [mt_plain hc, show decide (TL.tl s = TL.tl p) = decide (p = s) from decide_eq_decide.mpr ⟨fun h => TL.ext_tl h.symm, fun h => by rw [h]⟩] at e
    exact e
theorem nw_oldM {H : Hp} {p r : Addr} {o2 : HO} (h : H p = some o2) (hn : H r = none) (o : HO) : upd H r o p = some o2 := by
  rw [upd_ne (ne_of_none h hn)]; exact h
theorem ok_matches (F : Fun K "matches" "matches" s_matches f fd) (B : Blt mg) (hzip : mg "zip" = none) (c_part_matches : Cal P w K mg base CX0 2 "_part_matches" spPartM) : FnOk P w K mg base CX0 3 f fd ["pattern", "path"] spMatches := by
  refine F.ok sc_matches (fun vs H Q E h => ?_) (fun cdv A outer s H vs Q E hr h => ?_)
  · obtain ⟨_, _, rfl, _⟩ := h; rfl
  obtain ⟨p, s, rfl, hp, hs, q⟩ := h
  refine ⟨_, (pss_cons (ps_set (i := 2) sc_matches.nd rfl (Or.inl rfl) (pe_m1 PySem.F.slot_str_split PySem.F.type_str_split mt_split (pv 0) pe_str))
    (pss_cons (ps_set (i := 3) sc_matches.nd rfl (Or.inl rfl) (pe_m1 PySem.F.slot_str_split PySem.F.type_str_split mt_split (pv 1) pe_str))
    (pss_cons (ps_if (pt_cmpR op_ne (B.len_q (pa_cons (pv 2) pa_nil)) (B.len_q (pa_cons (pv 3) pa_nil)) (nomark _)) (pss_one (ps_ret pe_bl)) pss_nil)
    (pss_cons (ps_for PassesOwn.never rfl (pi_zip (by rfl) hzip (pa_cons (pv 2) (pa_cons (pv 3) pa_nil))) (pg_tup rfl (pgs_cons (pg_name (i := 4) sc_matches.nd rfl (Or.inl rfl)) (pgs_cons (pg_name (i := 5) sc_matches.nd rfl (Or.inl rfl)) pgs_nil))) (pss_one (ps_if (pt_not (pt_val (c_part_matches.pe hr (pa_cons (pv 4) (pa_cons (pv 5) pa_nil))))) (pss_one (ps_ret pe_bl)) pss_nil)))
    (pss_one (ps_ret pe_bl)))))), ?_⟩
  walk_at "wp"
  have lim : sizeLine = 16777216 := sizeLine_eq
  have pc : ∀ (x : Str), x.length ≤ 9000 → ∀ y ∈ Txt.split x (Str.ofString "/"), y.length ≤ 9000 := fun x hx y hy => by
    obtain ⟨p0, ps, e1, e2, e3, e4⟩ := split_one x 47 (by decide)
    have hm : TL.tl y ∈ p0 :: ps := by rw [← e1]; exact List.mem_map_of_mem hy
    have := join_mem [47] _ _ hm
    rw [e2, ← TL.len_tl, ← TL.len_tl] at this
    omega
  refine ⟨⟨_, rfl⟩, by decide, by omega, fun a ha => ⟨⟨_, rfl⟩, by decide, by omega, fun b hb => ?_⟩⟩
  have e0 : mtW p s = (decide ((Txt.split p (Str.ofString "/")).length = (Txt.split s (Str.ofString "/")).length) && ((Txt.split p (Str.ofString "/")).zip (Txt.split s (Str.ofString "/"))).all fun x => mt (TL.tl x.1) (TL.tl x.2)) := rfl
  have pp := pc p hp
  have ps := pc s hs
  generalize Txt.split p (Str.ofString "/") = L at e0 pp ha hb ⊢
  generalize Txt.split s (Str.ofString "/") = M at e0 ps hb ⊢
  have k1 : Kp [] H (upd H a (.lst (L.map V.str))) := Kp.new ha _
  have k2 := k1.trans (Kp.new hb (.lst (M.map V.str)) : Kp [] _ _)
  have fa : upd (upd H a (.lst (L.map V.str))) b (.lst (M.map V.str)) a = some (.lst (L.map V.str)) := by rw [upd_ne (ne_of_none upd_same hb)]; exact upd_same
  have fb : upd (upd H a (.lst (L.map V.str))) b (.lst (M.map V.str)) b = some (.lst (M.map V.str)) := upd_same
  refine ⟨a, rfl, _, .inl (SqL.of fa), b, rfl, _, .inl (SqL.of fb), ?_⟩
  generalize upd (upd H a (.lst (L.map V.str))) b (.lst (M.map V.str)) = H2 at k2 fa fb ⊢
  rw [List.length_map, List.length_map]
  split
  · rename_i h
    have := q H2 k2
    rw [e0, decide_eq_false (fun e => h (by rw [e])), Bool.false_and] at this
    exact this
  · rename_i h
    have hl : L.length = M.length := by
      have h := Decidable.not_not.mp h
      exact Int.ofNat.inj h
    rw [decide_eq_true hl, Bool.true_and] at e0
    refine ⟨_, rfl, _, rfl, a, b, _, _, rfl, SqL.of fa, SqL.of fb, ?_⟩
    refine RZ.for_zipL (K := K) (a := a) (b := b) (xs := L.map V.str) (ys := M.map V.str) (by rw [List.length_map, List.length_map, hl])
      (fun i σ H' => ∃ o1 o2 : Option V, σ = [some (.str p), some (.str s), some (.ref a), some (.ref b), o1, o2] ∧ Kp [] H H' ∧ H' a = some (.lst (L.map V.str)) ∧ H' b = some (.lst (M.map V.str)) ∧ (((L.zip M).take i).all fun x => mt (TL.tl x.1) (TL.tl x.2)) = true)
      ⟨_, _, rfl, k2, fa, fb, rfl⟩ (fun i σ H' ⟨_, _, _, _, ga, gb, _⟩ => ⟨SqL.of ga, SqL.of gb⟩) (fun i x y T σ H' hx hy ⟨o1, o2, hσ, k3, ga, gb, hall⟩ hT => ?_) (fun σ H' ⟨o1, o2, hσ, k3, ga, gb, hall⟩ => ?_)
    · subst hσ
      rw [List.getElem?_map] at hx hy
      cases hLi : L[i]? with
      | none => rw [hLi] at hx; cases hx
      | some u =>
      cases hMi : M[i]? with
      | none => rw [hMi] at hy; cases hy
      | some v =>
      rw [hLi] at hx
      rw [hMi] at hy
      obtain rfl : V.str u = x := by simpa using hx
      obtain rfl : V.str v = y := by simpa using hy
      have hz : (L.zip M)[i]? = some (u, v) := by rw [List.getElem?_zip_eq_some]; exact ⟨hLi, hMi⟩
      refine ⟨T, _, rfl, SqT.of upd_same, rfl, ?_⟩
      walk_at "wp"
      have k4 := k3.trans (Kp.new hT (.tup [.str u, .str v]) : Kp [] _ _)
      refine ⟨u, v, rfl, pp u (List.mem_of_getElem? hLi), ps v (List.mem_of_getElem? hMi), fun H5 k5 => ⟨_, rfl, ?_⟩⟩
      cases hm : mt (TL.tl u) (TL.tl v) with
      | false =>
        rw [if_pos rfl]
        have := q H5 (k4.trans k5)
        rw [e0, show ((L.zip M).all fun x => mt (TL.tl x.1) (TL.tl x.2)) = false by
          rw [List.all_eq_false]
          exact ⟨(u, v), List.mem_of_getElem? hz, by rw [hm]; decide⟩] at this
        exact this
      | true =>
        rw [if_neg (by decide)]
        have nw : ∀ {c : Addr} {o : HO}, H' c = some o → H5 c = some o := fun h => k5.keep _ _ (by simp) (nw_oldM h hT _)
        refine ⟨k4.trans k5, nw ga, nw gb, ?_⟩
        rw [List.take_add_one, hz, List.all_append, hall]
        simp [hm]
    · subst hσ
      walk_at "wp"
      have := q H' k3
      rw [List.length_map, List.take_of_length_le (by rw [List.length_zip]; omega)] at hall
      rw [e0, hall] at this
      exact this
end

/-! joined parts, matched -/
theorem join_le (m : Nat) : ∀ (ps : List (List Nat)), (∀ p ∈ ps, p.length ≤ m) → (TL.joinL [47] ps).length ≤ ps.length * (m + 1)
  | [], _ => by simp [TL.joinL]
  | [p], h => by
    have := h p List.mem_cons_self
    show p.length ≤ 1 * (m + 1)
    omega
  | p :: p2 :: r, h => by
    have h1 := h p List.mem_cons_self
    have h2 := join_le m (p2 :: r) (fun q hq => h q (List.mem_cons_of_mem _ hq))
    show (p ++ ([47] ++ TL.joinL [47] (p2 :: r))).length ≤ (r.length + 1 + 1) * (m + 1)
    rw [List.length_append, List.length_append, Nat.succ_mul]
    have h2 : (TL.joinL [47] (p2 :: r)).length ≤ (r.length + 1) * (m + 1) := h2
    show p.length + (1 + _) ≤ _
    omega
theorem join_snoc (S x : List Nat) : ∀ (ps : List (List Nat)), ps ≠ [] → TL.joinL S (ps ++ [x]) = TL.joinL S ps ++ (S ++ x)
  | [], h => absurd rfl h
  | [p], _ => rfl
  | p :: p2 :: r, _ => by
    show p ++ (S ++ TL.joinL S (p2 :: r ++ [x])) = (p ++ (S ++ TL.joinL S (p2 :: r))) ++ (S ++ x)
    rw [join_snoc S x (p2 :: r) (by simp)]
    simp
theorem jlen {m : Nat} {ps : List Str} (h : ∀ p ∈ ps, p.length ≤ m) : (Txt.join (Str.ofString "/") ps).length ≤ ps.length * (m + 1) := by
  rw [TL.len_tl, TL.join_eq, TL.tl_join]
  have := join_le m (ps.map TL.tl) (fun q hq => by
    obtain ⟨z, hz, rfl⟩ := List.mem_map.mp hq
    rw [← TL.len_tl]; exact h z hz)
  rw [List.length_map] at this
  exact this
theorem jsnoc {ps : List Str} (h : ps ≠ []) (x : Str) : Txt.join (Str.ofString "/") ps ++ (Str.ofString "/" ++ x) = Txt.join (Str.ofString "/") (ps ++ [x]) := by
  refine TL.ext_tl ?_
  rw [TL.tl_append, TL.tl_append, TL.join_eq, TL.join_eq, TL.tl_join, TL.tl_join, List.map_append]
  exact (join_snoc _ _ _ (fun e => h (List.map_eq_nil_iff.mp e))).symm
theorem mtW_join {ws ps : List Str} (hw : ws ≠ []) (hp : ps ≠ []) (nw : ∀ w ∈ ws, 47 ∉ TL.tl w) (np : ∀ p ∈ ps, 47 ∉ TL.tl p) :
    mtW (Txt.join (Str.ofString "/") ws) (Txt.join (Str.ofString "/") ps) = (decide (ws.length = ps.length) && (ws.zip ps).all fun x => mt (TL.tl x.1) (TL.tl x.2)) := by
  have e1 : Txt.split (Txt.join (Str.ofString "/") ws) (Str.ofString "/") = ws := TL.split_join (y := Str.ofString "/") (s := 47) (S := []) rfl (by decide +kernel) hw nw
  have e2 : Txt.split (Txt.join (Str.ofString "/") ps) (Str.ofString "/") = ps := TL.split_join (y := Str.ofString "/") (s := 47) (S := []) rfl (by decide +kernel) hp np
  show (decide ((Txt.split (Txt.join (Str.ofString "/") ws) (Str.ofString "/")).length = (Txt.split (Txt.join (Str.ofString "/") ps) (Str.ofString "/")).length) && ((Txt.split (Txt.join (Str.ofString "/") ws) (Str.ofString "/")).zip (Txt.split (Txt.join (Str.ofString "/") ps) (Str.ofString "/"))).all fun x => mt (TL.tl x.1) (TL.tl x.2)) = _
  rw [e1, e2]

abbrev s_law_says : Stmt := top 8
abbrev N_law_says : List Str := ["actual", "expected"]
theorem sc_law_says : FnScope N_law_says ["actual", "expected"] (defScope s_law_says) := ⟨rfl, rfl, rfl, by decide +kernel, rfl, by decide +kernel, by decide +kernel⟩
abbrev s_law_part_matches : Stmt := top 9
abbrev N_law_part_matches : List Str := ["wanted", "part", "row", "back", "char", "fresh", "step", "k"]
theorem sc_law_part_matches : FnScope N_law_part_matches ["wanted", "part"] (defScope s_law_part_matches) := ⟨rfl, rfl, rfl, by decide +kernel, rfl, by decide +kernel, by decide +kernel⟩
abbrev s_law_part : Stmt := top 10
abbrev N_law_part : List Str := ["stream", "most", "chars", "size", "k"]
theorem sc_law_part : FnScope N_law_part ["stream", "most", "chars"] (defScope s_law_part) := ⟨rfl, rfl, rfl, by decide +kernel, rfl, by decide +kernel, by decide +kernel⟩
abbrev s_law_like : Stmt := top 11
abbrev N_law_like : List Str := ["stream", "part", "chars", "text", "char", "place"]
theorem sc_law_like : FnScope N_law_like ["stream", "part", "chars"] (defScope s_law_like) := ⟨rfl, rfl, rfl, by decide +kernel, rfl, by decide +kernel, by decide +kernel⟩
abbrev s_law : Stmt := top 12
abbrev N_law : List Str := ["script", "stream", "chars", "wanted", "k", "due", "parts", "part"]
theorem sc_law : FnScope N_law ["script"] (defScope s_law) := ⟨rfl, rfl, rfl, by decide +kernel, rfl, by decide +kernel, by decide +kernel⟩
def spSays : Sp := fun vs H Q _ => ∃ a b : Bool, vs = [.bl a, .bl b] ∧ Q (.bl (a == b)) H
def spLPM : Sp := fun vs H Q _ => ∃ p s : Str, vs = [.str p, .str s] ∧ p.length ≤ 100 ∧ s.length ≤ 100 ∧ ∀ H', Kp [] H H' → Q (.bl (mt (TL.tl p) (TL.tl s))) H'
def spLPart : Sp := fun vs H Q _ => ∃ (s : Addr) (m : Int) (S : Str), vs = [.ref s, .int m, .str S] ∧ Strm H s ∧ 1 ≤ m ∧ m ≤ 20 ∧ 1 ≤ S.length ∧ S.length ≤ 100 ∧
  ∀ (z : Str) (H' : Hp), z.length ≤ m.toNat → 1 ≤ z.length → (∀ c ∈ z.cps.toList, c ∈ S.cps.toList) → Kp [s] H H' → Strm H' s → Q (.str z) H'
def spLike : Sp := fun vs H Q _ => ∃ (s : Addr) (p S : Str), vs = [.ref s, .str p, .str S] ∧ Strm H s ∧ p.length ≤ 40 ∧ 1 ≤ S.length ∧ S.length ≤ 100 ∧ 47 ∉ TL.tl p ∧ 47 ∉ TL.tl S ∧
  ∀ (z : Str) (H' : Hp), z.length ≤ 60 → 47 ∉ TL.tl z → Kp [s] H H' → Strm H' s → Q (.str z) H'
def spLaw (K : PySem.W.Frag) : Sp := fun vs H Q _ => ∃ (a : Addr) (ns : List Int), vs = [.ref a] ∧ SqL K H a (ns.map V.int) ∧ ∀ H', Q (.bl true) H'
section
variable {P : Program} {w : World} {K : PySem.W.Frag} {mg : Str → Option Value} {base : Heap} {f : Addr} {fd : FuncData}
theorem ok_says (F : Fun K "_law_says" "_law_says" s_law_says f fd) (B : Blt mg) : FnOk P w K mg base CX0 1 f fd ["actual", "expected"] spSays := by
  refine F.ok sc_law_says (fun vs H Q E h => ?_) (fun cdv A outer s H vs Q E hr h => ?_)
  · obtain ⟨a, b, rfl, _⟩ := h; rfl
  obtain ⟨a, b, rfl, q⟩ := h
  refine ⟨_, (pss_one (ps_ret (pe_and (B.isT (pv 0) B.v_bool) (pe_one (pe_cmpR op_eq (pv 0) (pv 1) (nomark _)))))), ?_⟩
  walk_at "wp"
  have e : decide (a = b) = (a == b) := by cases a <;> cases b <;> rfl
  rw [e]; exact q
theorem ok_lpart (F : Fun K "_law_part" "_law_part" s_law_part f fd) (B : Blt mg) (c_law_take : Cal P w K mg base CX0 1 "_law_take" spTake) : FnOk P w K mg base CX0 2 f fd ["stream", "most", "chars"] spLPart := by
  refine F.ok sc_law_part (fun vs H Q E h => ?_) (fun cdv A outer s H vs Q E hr h => ?_)
  · obtain ⟨_, _, _, rfl, _⟩ := h; rfl
  obtain ⟨p, m, S, rfl, hs, m0, m1, S1, S2, q⟩ := h
  refine ⟨_, (pss_cons (ps_set (i := 3) sc_law_part.nd rfl (Or.inl rfl) (pe_op op_add pe_int (c_law_take.pe hr (pa_cons (pv 0) (pa_cons (pv 1) pa_nil)))))
    (pss_one (ps_ret (pe_join pe_str (pe_lc (own := [("k", 4)]) (g := gName 4) (tt := tYes) rfl sc_law_part.nd (B.range1 (pa_cons (pv 3) pa_nil)) (blkOk_by (own := [("k", 4)]) (N := N_law_part) (sc := defScope s_law_part) (by decide +kernel)) (fun _ _ _ _ _ => pg_name (i := 4) sc_law_part.nd rfl (Or.inl rfl)) (fun _ _ _ _ _ => pts_nil) (fun _ _ _ _ _ => (pe_ix ix_str (pv 2) (c_law_take.pe hr (pa_cons (pv 0) (pa_cons (B.len_s (pa_cons (pv 2) pa_nil)) pa_nil))) (fun _ _ => rfl)))))))), ?_⟩
  walk_at "wp"
  refine ⟨p, m, rfl, hs, ⟨by omega, by omega⟩, fun n H1 n0 n1 k1 s1 => ⟨n, rfl, ⟨_, rfl⟩, ?_⟩⟩
  have lim : sizeLine = 16777216 := sizeLine_eq
  refine pick_lst (S := S) (m := S.length) (n := 1 + n) (st := p) (fun R h => by exact ⟨_, rfl, h⟩) (by omega) (by omega) s1 (fun _ => rfl) (fun _ => rfl) (fun _ => rfl) (fun _ _ _ h => by exact ⟨_, rfl, S, rfl, by omega, h⟩) (by omega) (Int.le_refl _) (by omega) (fun D cs Ha pk => ?_)
  refine ⟨D, rfl, sgs cs, .inl (SqL.of pk.at_), pk.sum (by omega), q _ _ ?_ ?_ ?_ (k1.trans pk.kp) pk.st⟩
  · rw [join_len, pk.len]; omega
  · rw [join_len, pk.len]; omega
  · rw [join_cps]; exact pk.mem
theorem ok_like (F : Fun K "_law_like" "_law_like" s_law_like f fd) (B : Blt mg) (c_law_take : Cal P w K mg base CX0 1 "_law_take" spTake) : FnOk P w K mg base CX0 2 f fd ["stream", "part", "chars"] spLike := by
  refine F.ok sc_law_like (fun vs H Q E h => ?_) (fun cdv A outer s H vs Q E hr h => ?_)
  · obtain ⟨_, _, _, rfl, _⟩ := h; rfl
  obtain ⟨st, p, S, rfl, hs, lp, S1, S2, n1, n2, q⟩ := h
  refine ⟨_, (pss_cons (ps_set (i := 3) sc_law_like.nd rfl (Or.inl rfl) pe_str)
    (pss_cons (ps_for PassesOwn.never rfl (pi_str (pv 1)) (pg_name (i := 4) sc_law_like.nd rfl (Or.inl rfl)) (pss_one (ps_if (pt_cmpR op_ne (pv 4) pe_str (nomark _)) (pss_one (ps_set (i := 3) sc_law_like.nd rfl (Or.inl rfl) (pe_op op_add_str (pv 3) (pv 4)))) (pss_one (ps_if (pt_cmpR op_eq (c_law_take.pe hr (pa_cons (pv 0) (pa_cons pe_int pa_nil))) pe_int (nomark _)) (pss_one (ps_set (i := 3) sc_law_like.nd rfl (Or.inl rfl) (pe_op op_add_str (pv 3) (pe_ix ix_str (pv 2) (c_law_take.pe hr (pa_cons (pv 0) (pa_cons (B.len_s (pa_cons (pv 2) pa_nil)) pa_nil))) (fun _ _ => rfl))))) pss_nil)))))
    (C8.pss_cut (ps_if (PW.pt (pw_and (pt_cmpR op_eq (c_law_take.pe hr (pa_cons (pv 0) (pa_cons pe_int pa_nil))) pe_int (nomark _)) (pw_and1 (pt_cmpR op_gt (B.len_s (pa_cons (pv 3) pa_nil)) pe_int (nomark _))))) (pss_cons (ps_set (i := 5) sc_law_like.nd rfl (Or.inl rfl) (c_law_take.pe hr (pa_cons (pv 0) (pa_cons (B.len_s (pa_cons (pv 3) pa_nil)) pa_nil))))
    (pss_one (ps_set (i := 3) sc_law_like.nd rfl (Or.inl rfl) (pe_op op_add_str (pe_op op_add_str (pe_slice sl_str (pv 3) po_none (po_some (pv 5))) (pe_ix ix_str (pv 2) (c_law_take.pe hr (pa_cons (pv 0) (pa_cons (B.len_s (pa_cons (pv 2) pa_nil)) pa_nil))) (fun _ _ => rfl))) (pe_slice sl_str (pv 3) (po_some (pe_op op_add (pv 5) pe_int)) po_none))))) pss_nil)
    (pss_cons (ps_if (pt_cmpR op_eq (pv 3) pe_str (nomark _)) (pss_one (ps_ret pe_str)) pss_nil)
    (pss_one (ps_ret (pv 3))))))), ?_⟩
  walk_at "wp"
  have lim : sizeLine = 16777216 := sizeLine_eq
  have put : ∀ (x : Str) (c : Nat), (x ++ (⟨#[c]⟩ : Str)).length = x.length + 1 := fun x c => by rw [TL.len_tl, TL.tl_append, List.length_append, ← TL.len_tl]; rfl
  have no : ∀ (x : Str) (c : Nat), 47 ∉ TL.tl x → c ≠ 47 → 47 ∉ TL.tl (x ++ (⟨#[c]⟩ : Str)) := fun x c hx hc hm => by
    rw [TL.tl_append] at hm
    rcases List.mem_append.mp hm with hm | hm
    · exact hx hm
    · exact hc (List.mem_singleton.mp hm).symm
  have drw : ∀ (v : Int), 0 ≤ v → v < S.length → ∃ c, atI S.cps.toList v = some c ∧ c ≠ 47 := fun v v0 v1 => by
    obtain ⟨c, hc⟩ : ∃ c, S.cps.toList[v.toNat]? = some c := ⟨_, List.getElem?_eq_getElem (by rw [cps_lenP]; omega)⟩
    refine ⟨c, ?_, fun e => n2 (by rw [← e]; exact List.mem_of_getElem? hc)⟩
    have ev : v = ((v.toNat : Nat) : Int) := by omega
    rw [ev]
    exact atI_nat hc
  refine ⟨_, rfl, p, rfl, ?_⟩
  refine for_it walk_str (fun i σ H' => ∃ (x : Str) (o4 o5 : Option V), σ = [some (.ref st), some (.str p), some (.str S), some (.str x), o4, o5] ∧ x.length ≤ i ∧ 47 ∉ TL.tl x ∧ Kp [st] H H' ∧ Strm H' st) ⟨_, _, _, rfl, by decide, by decide, Kp.refl _ _, hs⟩ (fun _ _ _ _ _ => True.intro) (fun i x σ H1 H2 hi ⟨z, o4, o5, hσ, hz, hn, k1, s1⟩ ⟨h2, c, hc, hx⟩ => ?_) (fun σ H1 ⟨z, o4, o5, hσ, hz, hn, k1, s1⟩ => ?_)
  · subst hσ
    subst hx
    subst h2
    have hi40 : i < 40 := Nat.lt_of_lt_of_le hi lp
    have c47 : c ≠ 47 := fun e => n1 (by
      rw [← e]
      have := List.mem_of_getElem? (show p.cps.toList[i]? = some c by rw [Array.getElem?_toList]; exact hc)
      exact this)
    walk_at "wp"
    split
    · refine ⟨by show _ + 1 ≤ _; omega, by rw [put]; omega, no _ _ hn c47, k1, s1⟩
    · refine ⟨st, 2, rfl, s1, ⟨by decide, by decide⟩, fun b H3 b0 b1 k3 s3 => ⟨rfl, ?_⟩⟩
      split
      · refine ⟨by omega, st, _, rfl, s3, ⟨by omega, by omega⟩, fun v H4 v0 v1 k4 s4 => ?_⟩
        obtain ⟨d, hd, d47⟩ := drw v v0 v1
        exact ⟨S, v, d, rfl, rfl, by omega, hd, _, rfl, by show _ + 1 ≤ _; omega, by rw [put]; omega, no _ _ hn d47, (k1.trans k3).trans k4, s4⟩
      · exact ⟨by omega, hn, k1.trans k3, s3⟩
  · subst hσ
    have hz40 : z.length ≤ 40 := Nat.le_trans hz lp
    refine ⟨fun σ H' => ∃ (x : Str) (o4 o5 : Option V), σ = [some (.ref st), some (.str p), some (.str S), some (.str x), o4, o5] ∧ x.length ≤ 60 ∧ 47 ∉ TL.tl x ∧ Kp [st] H H' ∧ Strm H' st, ?_, ?_⟩
    · walk_at "wp"
      refine ⟨st, 3, rfl, s1, ⟨by decide, by decide⟩, fun b H3 b0 b1 k3 s3 => ⟨rfl, ?_⟩⟩
      split
      · refine ⟨by omega, ?_⟩
        split
        · refine ⟨by omega, st, _, rfl, s3, ⟨by omega, by omega⟩, fun pl H4 p0 p1 k4 s4 => ?_⟩
          obtain ⟨kk, rfl⟩ : ∃ kk : Nat, pl = (kk : Int) := ⟨pl.toNat, by omega⟩
          have w1 := cutS_length z none (some (kk : Int))
          have w2 := cutS_length z (some ((kk : Int) + 1)) none
          refine ⟨_, rfl, by omega, by omega, st, _, rfl, s4, ⟨by omega, by omega⟩, fun v H5 v0 v1 k5 s5 => ?_⟩
          obtain ⟨d, hd, d47⟩ := drw v v0 v1
          have e : TL.tl (cutS z none (some (kk : Int)) ++ (⟨#[d]⟩ : Str) ++ cutS z (some ((kk : Int) + 1)) none) = (TL.tl z).take kk ++ [d] ++ (TL.tl z).drop (kk + 1) := by
            rw [TL.tl_append, TL.tl_append, cut_to, show ((kk : Int) + 1) = ((kk + 1 : Nat) : Int) from rfl, cut_from]
          refine ⟨S, v, d, rfl, rfl, by omega, hd, _, rfl, by show _ + 1 ≤ _; omega, _, rfl, by omega, by rw [put]; omega, ?_, ?_, ((k1.trans k3).trans k4).trans k5, s5⟩
          · rw [TL.len_tl, e, List.length_append, List.length_append, List.length_take, List.length_drop, ← TL.len_tl, List.length_singleton]
            omega
          · rw [e]
            intro hm
            rcases List.mem_append.mp hm with hm | hm
            · rcases List.mem_append.mp hm with hm | hm
              · exact hn (List.mem_of_mem_take hm)
              · exact d47 (List.mem_singleton.mp hm).symm
            · exact hn (List.mem_of_mem_drop hm)
        · exact ⟨by omega, hn, k1.trans k3, s3⟩
      · exact ⟨by omega, hn, k1.trans k3, s3⟩
    · rintro σ' H3 ⟨x, o4, o5, hσ, hx, hn, k3, s3⟩
      subst hσ
      walk_at "wp"
      split
      · exact q _ _ (by decide +kernel) (by decide +kernel) k3 s3
      · exact q _ _ hx hn k3 s3
/-- a row of truth values, by place -/
def rw_ (n : Nat) (g : Nat → Bool) : List V := (List.range n).map fun k => V.bl (g k)
theorem rw_len (n : Nat) (g : Nat → Bool) : (rw_ n g).length = n := by unfold rw_; rw [List.length_map, List.length_range]
theorem rw_snoc (n : Nat) (g : Nat → Bool) : rw_ n g ++ [V.bl (g n)] = rw_ (n + 1) g := by
  unfold rw_
  rw [List.range_succ, List.map_append]; rfl
theorem rw_at {n k : Nat} (g : Nat → Bool) (h : k < n) : (rw_ n g)[k]? = some (V.bl (g k)) := by
  unfold rw_
  rw [List.getElem?_map, List.getElem?_range h]; rfl
theorem rw_congr {n : Nat} {g g' : Nat → Bool} (h : ∀ k, k < n → g k = g' k) : rw_ n g = rw_ n g' := by
  unfold rw_
  exact List.map_congr_left fun k hk => by rw [h k (List.mem_range.mp hk)]
theorem rw_set {n k : Nat} (g : Nat → Bool) (b : Bool) : (rw_ n g).set k (V.bl b) = rw_ n (fun j => if j = k then b else g j) := by
  refine List.ext_getElem? fun j => ?_
  by_cases hj : j < n
  · rw [rw_at _ hj, List.getElem?_set]
    by_cases e : k = j
    · subst e
      rw [if_pos rfl, if_pos (by rw [rw_len]; exact hj), if_pos rfl]
    · rw [if_neg e, rw_at _ hj, if_neg (Ne.symm e)]
  · rw [List.getElem?_eq_none (by rw [List.length_set, rw_len]; omega), List.getElem?_eq_none (by rw [rw_len]; omega)]
theorem kp_none {H H' : Hp} {p : Addr} (k : Kp [] H H') (h : H' p = none) : H p = none := by
  cases e : H p with
  | none => rfl
  | some o => rw [k.keep p o (by simp) e] at h; cases h
theorem ixN_in {n j : Nat} (hj : j < n) : ixN n (j : Int) = some j := by
  unfold ixN
  rw [if_pos (by omega), if_pos (by omega)]
  simp
theorem ok_lpm (F : Fun K "_law_part_matches" "_law_part_matches" s_law_part_matches f fd) (B : Blt mg) : FnOk P w K mg base CX0 1 f fd ["wanted", "part"] spLPM := by
  refine F.ok sc_law_part_matches (fun vs H Q E h => ?_) (fun cdv A outer s H vs Q E hr h => ?_)
  · obtain ⟨_, _, rfl, _⟩ := h; rfl
  obtain ⟨p, s, rfl, lp, ls, q⟩ := h
  refine ⟨_, (pss_cons (ps_setLc (i := 2) (own := [("k", 7)]) (g := gName 7) (tt := tYes) rfl sc_law_part_matches.nd rfl rfl (sw_true rfl rfl rfl (by decide +kernel)) (B.range1 (pa_cons (pe_op op_add (B.len_s (pa_cons (pv 1) pa_nil)) pe_int) pa_nil)) (blkOk_by (own := [("k", 7)]) (N := N_law_part_matches) (sc := defScope s_law_part_matches) (by decide +kernel)) (fun _ _ _ _ _ => pg_name (i := 7) sc_law_part_matches.nd rfl (Or.inl rfl)) (fun _ _ _ _ _ => pts_nil) (fun _ _ _ _ _ => (pe_cmpR op_eq (pv 7) (B.len_s (pa_cons (pv 1) pa_nil)) (nomark _))))
    (pss_cons (ps_for PassesOwn.never rfl (B.range1 (pa_cons (B.len_s (pa_cons (pv 0) pa_nil)) pa_nil)) (pg_name (i := 3) sc_law_part_matches.nd rfl (Or.inl rfl)) (pss_cons (ps_set (i := 4) sc_law_part_matches.nd rfl (Or.inl rfl) (pe_ix ix_str (pv 0) (pe_op op_sub (pe_op op_sub (B.len_s (pa_cons (pv 0) pa_nil)) pe_int) (pv 3)) (fun _ _ => rfl)))
    (pss_cons (ps_setLc (i := 5) (own := [("k", 7)]) (g := gName 7) (tt := tYes) rfl sc_law_part_matches.nd rfl rfl (sw_true rfl rfl rfl (by decide +kernel)) (B.range1 (pa_cons (pe_op op_add (B.len_s (pa_cons (pv 1) pa_nil)) pe_int) pa_nil)) (blkOk_by (own := [("k", 7)]) (N := N_law_part_matches) (sc := defScope s_law_part_matches) (by decide +kernel)) (fun _ _ _ _ _ => pg_name (i := 7) sc_law_part_matches.nd rfl (Or.inl rfl)) (fun _ _ _ _ _ => pts_nil) (fun _ _ _ _ _ => pe_bl))
    (pss_cons (ps_for PassesOwn.never rfl (B.range1 (pa_cons (pe_op op_add (B.len_s (pa_cons (pv 1) pa_nil)) pe_int) pa_nil)) (pg_name (i := 6) sc_law_part_matches.nd rfl (Or.inl rfl)) (pss_cons (ps_set (i := 7) sc_law_part_matches.nd rfl (Or.inl rfl) (pe_op op_sub (B.len_s (pa_cons (pv 1) pa_nil)) (pv 6)))
    (pss_one (ps_if (pt_cmpR op_eq (pv 4) pe_str (nomark _)) (pss_one (ps_asg (pe_or (pe_ix ix_lM (pv 2) (pv 7) (fun _ _ => rfl)) (pe_one (pe_and (pe_cmpR op_gt (pv 6) pe_int (nomark _)) (pe_one (pe_ix ix_lM (pv 5) (pe_op op_add (pv 7) pe_int) (fun _ _ => rfl)))))) (pg_sub (pv 5) (pv 7) set_list))) (pss_one (ps_if (pt_cmpR op_gt (pv 6) pe_int (nomark _)) (pss_one (ps_asg (pe_and (pe_cmpR op_eq (pe_ix ix_str (pv 1) (pv 7) (fun _ _ => rfl)) (pv 4) (nomark _)) (pe_one (pe_ix ix_lM (pv 2) (pe_op op_add (pv 7) pe_int) (fun _ _ => rfl)))) (pg_sub (pv 5) (pv 7) set_list))) pss_nil))))))
    (pss_one (ps_set (i := 2) sc_law_part_matches.nd rfl (Or.inl rfl) (pv 5)))))))
    (pss_one (ps_ret (pe_ix ix_lM (pv 2) pe_int (fun _ _ => rfl)))))), ?_⟩
  walk_at "wp"
  have lim : sizeLine = 16777216 := sizeLine_eq
  have sl := TL.len_tl s
  have pl := TL.len_tl p
  refine ⟨_, rfl, s, rfl, by omega, _, _, rfl, rfl, (s.length : Int) + 1, rfl, by omega, by omega, fun D hD => ?_⟩
  have enn : ((s.length : Int) + 1).toNat = s.length + 1 := by omega
  refine lc_range (lo := 0) (n := ((s.length : Int) + 1).toNat) (fun i H' => H' D = some (.lst (rw_ i fun k => decide (k = s.length))) ∧ Kp [] H H')
    ⟨upd_same, Kp.new hD _⟩ (fun i H2 hi ⟨hxD, k2⟩ => ?_) (fun H2 ⟨hxD, k2⟩ => ?_)
  · refine ⟨rfl, ?_⟩
    simp only [tYes, if_true]
    refine ⟨_, rfl, _, rfl, s, rfl, by omega, rfl, _, hxD, by rw [rw_len]; omega, ?_, k2.upd hD hxD⟩
    rw [upd_same, ← rw_snoc]
    have e : decide (V.int (0 + (i : Int)) = V.int (s.length : Int)) = decide (i = s.length) := decide_eq_decide.mpr ⟨fun h => by have := V.int.inj h; omega, fun h => by rw [h]; simp⟩
    rw [e]
  rw [enn] at hxD
  refine ⟨_, rfl, p, rfl, by omega, _, rfl, by omega, by omega, ?_⟩
  refine for_range (lo := 0) (n := ((p.length : Int)).toNat) (fun b σ H' => ∃ (r : Addr) (o3 o4 o5 o6 o7 : Option V), σ = [some (.str p), some (.str s), some (.ref r), o3, o4, o5, o6, o7] ∧ H' r = some (.lst (rw_ (s.length + 1) fun k => mt ((TL.tl p).drop (p.length - b)) ((TL.tl s).drop k))) ∧ Kp [] H H')
    ⟨D, _, _, _, _, _, rfl, ?_, k2⟩ (fun b σ H3 hb ⟨r, o3, o4, o5, o6, o7, hσ, hr3, k3⟩ => ?_) (fun σ H3 ⟨r, o3, o4, o5, o6, o7, hσ, hr3, k3⟩ => ?_)
  · rw [hxD, Nat.sub_zero, pl, List.drop_length]
    refine congrArg (fun x => some (HO.lst x)) (rw_congr fun k hk => ?_)
    show decide (k = s.length) = ((TL.tl s).drop k).isEmpty
    rw [Bool.eq_iff_iff, decide_eq_true_eq, List.isEmpty_iff, List.drop_eq_nil_iff, ← sl]
    omega
  · subst hσ
    have hb' : b < p.length := by omega
    have hpl : p.length - (b + 1) < (TL.tl p).length := by omega
    obtain ⟨c, hc⟩ : ∃ c, (TL.tl p)[p.length - (b + 1)]? = some c := ⟨_, List.getElem?_eq_getElem hpl⟩
    have ed : (TL.tl p).drop (p.length - (b + 1)) = c :: (TL.tl p).drop (p.length - b) := by
      rw [List.drop_eq_getElem_cons hpl]
      rw [List.getElem?_eq_getElem hpl] at hc
      rw [Option.some.inj hc, show p.length - (b + 1) + 1 = p.length - b by omega]
    generalize (TL.tl p).drop (p.length - b) = Qd at hr3 ed
    walk_at "wp"
    refine ⟨by omega, p, _, c, rfl, rfl, by omega, ?_, ?_⟩
    · rw [show ((p.length : Int) - 1 - (0 + (b : Int))) = ((p.length - (b + 1) : Nat) : Int) by omega]
      exact atI_nat hc
    refine ⟨_, rfl, s, rfl, by omega, _, _, rfl, rfl, (s.length : Int) + 1, rfl, by omega, by omega, fun E hE => ?_⟩
    have rE : r ≠ E := ne_of_none hr3 hE
    refine lc_range (lo := 0) (n := ((s.length : Int) + 1).toNat) (fun i H' => H' E = some (.lst (rw_ i fun _ => false)) ∧ Kp [] H3 H')
      ⟨upd_same, Kp.new hE _⟩ (fun i H4 hi ⟨hxE, k4⟩ => ?_) (fun H4 ⟨hxE, k4⟩ => ?_)
    · refine ⟨rfl, ?_⟩
      simp only [tYes, if_true]
      refine ⟨_, hxE, by rw [rw_len]; omega, ?_, k4.upd hE hxE⟩
      rw [upd_same]
      exact congrArg (fun x => some (HO.lst x)) (rw_snoc i fun _ => false)
    rw [enn] at hxE
    have hr4 := k4.keep r _ (by simp) hr3
    have hE0 : H E = none := kp_none k3 hE
    let G : Nat → Nat → Bool := fun t k => if s.length + 1 ≤ k + t then mt (c :: Qd) ((TL.tl s).drop k) else false
    refine ⟨_, rfl, s, rfl, by omega, _, _, rfl, rfl, (s.length : Int) + 1, rfl, by omega, by omega, ?_⟩
    refine for_range (lo := 0) (n := ((s.length : Int) + 1).toNat) (fun t σ H' => ∃ o6 o7 : Option V, σ = [some (.str p), some (.str s), some (.ref r), some (.int (0 + (b : Int))), some (.str ⟨#[c]⟩), some (.ref E), o6, o7] ∧ H' r = some (.lst (rw_ (s.length + 1) fun k => mt Qd ((TL.tl s).drop k))) ∧ H' E = some (.lst (rw_ (s.length + 1) (G t))) ∧ Kp [] H H')
      ⟨_, _, rfl, hr4, ?_, k3.trans k4⟩ (fun t σ H5 ht ⟨o6, o7, hσ, g1, g2, k5⟩ => ?_) (fun σ H5 ⟨o6, o7, hσ, g1, g2, k5⟩ => ?_)
    · rw [hxE]
      refine congrArg (fun x => some (HO.lst x)) (rw_congr fun k hk => ?_)
      show false = if s.length + 1 ≤ k + 0 then _ else false
      rw [if_neg (by omega)]
    · subst hσ
      have ht' : t ≤ s.length := by omega
      walk_at "wp"
      obtain ⟨k, hk⟩ : ∃ k : Nat, (s.length : Int) - (0 + (t : Int)) = (k : Int) := ⟨s.length - t, by omega⟩
      have hkt : k + t = s.length := by omega
      have hk1 : ((s.length : Int) - (0 + (t : Int)) + 1) = ((k + 1 : Nat) : Int) := by omega
      rw [hk1, hk]
      have fin : ∀ bv : Bool, bv = mt (c :: Qd) ((TL.tl s).drop k) → (rw_ (s.length + 1) (G t)).set k (V.bl bv) = rw_ (s.length + 1) (G (t + 1)) := fun bv hbv => by
        rw [rw_set]
        refine rw_congr fun j hj => ?_
        show (if j = k then bv else if s.length + 1 ≤ j + t then mt (c :: Qd) ((TL.tl s).drop j) else false) = if s.length + 1 ≤ j + (t + 1) then mt (c :: Qd) ((TL.tl s).drop j) else false
        by_cases e : j = k
        · subst e
          rw [if_pos rfl, if_pos (by omega), hbv]
        · rw [if_neg e]
          by_cases h : s.length + 1 ≤ j + t
          · rw [if_pos h, if_pos (by omega)]
          · rw [if_neg h, if_neg (by omega)]
      have hix : ixN (rw_ (s.length + 1) (G t)).length (k : Int) = some k := ixN_in (by rw [rw_len]; omega)
      have hR : ∀ ys, upd H5 E (.lst ys) r = some (.lst (rw_ (s.length + 1) fun k => mt Qd ((TL.tl s).drop k))) := fun ys => by rw [upd_ne rE]; exact g1
      have hrow : atI (rw_ (s.length + 1) fun k => mt Qd ((TL.tl s).drop k)) (k : Int) = some (V.bl (mt Qd ((TL.tl s).drop k))) := atI_nat (rw_at _ (by omega))
      refine ⟨by omega, ?_⟩
      by_cases hc42 : c = 42
      · rw [if_pos (by rw [hc42]; rfl)]
        have em : mt (c :: Qd) ((TL.tl s).drop k) = (mt Qd ((TL.tl s).drop k) || if 0 < t then mt (c :: Qd) ((TL.tl s).drop (k + 1)) else false) := by
          rw [hc42]
          by_cases h0 : 0 < t
          · rw [if_pos h0]
            have hlt : k < (TL.tl s).length := by omega
            rw [List.drop_eq_getElem_cons hlt]
            rfl
          · rw [if_neg h0, List.drop_eq_nil_of_le (by omega), Bool.or_false]
            rfl
        refine ⟨_, g1, _, hrow, _, rfl, ?_⟩
        cases hm : mt Qd ((TL.tl s).drop k) with
        | true =>
          rw [if_pos rfl]
          exact ⟨_, g2, k, hix, hR _, fin true (by rw [em, hm]; rfl), k5.upd hE0 g2⟩
        | false =>
          rw [if_neg (by decide)]
          rw [hm, Bool.false_or] at em
          split
          · rename_i h0
            have h0 : 0 < t := by omega
            rw [if_pos h0] at em
            have hg : G t (k + 1) = mt (c :: Qd) ((TL.tl s).drop (k + 1)) := by
              show (if s.length + 1 ≤ k + 1 + t then _ else false) = _
              rw [if_pos (by omega)]
            refine ⟨_, g2, _, atI_nat (rw_at (G t) (by omega)), _, g2, k, hix, hR _, fin _ (by rw [em, hg]), k5.upd hE0 g2⟩
          · rename_i h0
            rw [if_neg (by omega)] at em
            exact ⟨_, g2, k, hix, hR _, fin false em.symm, k5.upd hE0 g2⟩
      · rw [if_neg (fun h => hc42 (by
          have h := congrArg (fun s : Str => s.cps.toList) h
          have h : [c] = [42] := h
          exact (List.cons.inj h).1))]
        split
        · rename_i h0
          have hlt : k < (TL.tl s).length := by omega
          obtain ⟨d, hd⟩ : ∃ d, (TL.tl s)[k]? = some d := ⟨_, List.getElem?_eq_getElem hlt⟩
          have ed2 : (TL.tl s).drop k = d :: (TL.tl s).drop (k + 1) := by
            rw [List.drop_eq_getElem_cons hlt]
            rw [List.getElem?_eq_getElem hlt] at hd
            rw [Option.some.inj hd]
          have em : mt (c :: Qd) ((TL.tl s).drop k) = ((c == d) && mt Qd ((TL.tl s).drop (k + 1))) := by
            rw [ed2]
            show (if c = 42 then mtS (mt Qd) (d :: (TL.tl s).drop (k + 1)) else (c == d) && mt Qd ((TL.tl s).drop (k + 1))) = _
            rw [if_neg hc42]
          refine ⟨s, _, d, rfl, rfl, by omega, atI_nat hd, rfl, ?_⟩
          by_cases hcd : c = d
          · rw [if_pos (by rw [hcd])]
            refine ⟨_, g1, _, atI_nat (rw_at _ (by omega)), _, g2, k, hix, hR _, fin _ (by rw [em, hcd]; simp), k5.upd hE0 g2⟩
          · rw [if_neg (fun h => hcd (by
              have h := congrArg (fun s : Str => s.cps.toList) (V.str.inj h)
              have h : [d] = [c] := h
              exact (List.cons.inj h).1.symm))]
            refine ⟨_, g2, k, hix, hR _, fin false (by rw [em, show (c == d) = false from beq_eq_false_iff_ne.mpr hcd, Bool.false_and]), k5.upd hE0 g2⟩
        · rename_i h0
          refine ⟨g1, ?_, k5⟩
          rw [g2]
          refine congrArg (fun x => some (HO.lst x)) (rw_congr fun j hj => ?_)
          show (if s.length + 1 ≤ j + t then _ else false) = if s.length + 1 ≤ j + (t + 1) then _ else false
          by_cases h : s.length + 1 ≤ j + t
          · rw [if_pos h, if_pos (by omega)]
          · rw [if_neg h]
            split
            · rw [List.drop_eq_nil_of_le (by omega)]
              show false = if c = 42 then mtS (mt Qd) [] else false
              rw [if_neg hc42]
            · rfl
    · subst hσ
      walk_at "wp"
      refine ⟨?_, k5⟩
      rw [g2]
      refine congrArg (fun x => some (HO.lst x)) (rw_congr fun k hk => ?_)
      show (if s.length + 1 ≤ k + ((s.length : Int) + 1).toNat then _ else false) = _
      rw [if_pos (by omega), ed]
  · subst hσ
    walk_at "wp"
    rw [show ((p.length : Int)).toNat = p.length by omega, Nat.sub_self, List.drop_zero] at hr3
    have e := q H3 k3
    refine ⟨_, hr3, _, atI_nat (j := 0) (rw_at _ (by omega)), ?_⟩
    exact e
theorem ok_law (F : Fun K "law" "law" s_law f fd) (B : Blt mg) (hmin : mg "min" = none) (c_law_cell : Cal P w K mg base CX0 1 "_law_cell" (spCell K)) (c_law_stream : Cal P w K mg base CX0 1 "_law_stream" spStream) (c_law_take : Cal P w K mg base CX0 1 "_law_take" spTake)
    (c_law_says : Cal P w K mg base CX0 1 "_law_says" spSays) (c_matches : Cal P w K mg base CX0 3 "matches" spMatches) (c_law_part : Cal P w K mg base CX0 2 "_law_part" spLPart) (c_law_like : Cal P w K mg base CX0 2 "_law_like" spLike) (c_law_part_matches : Cal P w K mg base CX0 1 "_law_part_matches" spLPM) :
    FnOk P w K mg base CX0 4 f fd ["script"] (spLaw K) := by
  refine F.ok sc_law (fun vs H Q E h => ?_) (fun cdv A outer s H vs Q E hr h => ?_)
  · obtain ⟨a, ns, rfl, _⟩ := h; rfl
  obtain ⟨a, ns, rfl, hS, q⟩ := h
  refine ⟨_, (pss_cons (ps_set (i := 1) sc_law.nd rfl (Or.inr rfl) (c_law_stream.pe hr (pa_cons (c_law_cell.pe hr (pa_cons (pv 0) (pa_cons pe_int pa_nil))) pa_nil)))
    (pss_cons (ps_set (i := 2) sc_law.nd rfl (Or.inr rfl) (pe_ix ix_lM (pe_lst (pa_cons pe_str (pa_cons pe_str (pa_cons pe_str pa_nil)))) (c_law_take.pe hr (pa_cons (pv 1) (pa_cons pe_int pa_nil))) (fun _ _ => rfl)))
    (pss_cons (ps_set (i := 3) sc_law.nd rfl (Or.inl rfl) (pe_lst pa_nil))
    (C8.pss_cut (ps_for PassesOwn.never rfl (B.range1 (pa_cons (pe_op op_add pe_int (c_law_take.pe hr (pa_cons (pv 1) (pa_cons pe_int pa_nil)))) pa_nil)) (pg_name (i := 4) sc_law.nd rfl (Or.inl rfl)) (pss_one (ps_expr (pe_bm PySem.F.plainAttrs_list PySem.F.slot_list_append PySem.F.type_list_append mt_append (pv 3) (pa_cons (c_law_part.pe hr (pa_cons (pv 1) (pa_cons pe_int (pa_cons (pe_op op_add_str (pv 2) pe_str) pa_nil)))) pa_nil)))))
    (C8.pss_cut (ps_if (pt_cmpR op_eq (c_law_take.pe hr (pa_cons (pv 1) (pa_cons pe_int pa_nil))) pe_int (nomark _)) (pss_one (ps_asg (c_law_part.pe hr (pa_cons (pv 1) (pa_cons pe_int (pa_cons (pe_op op_add_str (pv 2) pe_str) pa_nil)))) (pg_sub (pv 3) pe_int set_list))) pss_nil)
    (C8.pss_cut (ps_if (pt_cmpR op_eq (c_law_take.pe hr (pa_cons (pv 1) (pa_cons pe_int pa_nil))) pe_int (nomark _)) (pss_one (ps_setLc (i := 6) (own := [("part", 7)]) (g := gName 7) (tt := tYes) rfl sc_law.nd rfl rfl (sw_true rfl rfl rfl (by decide +kernel)) (pi_list (pv 3)) (blkOk_by (own := [("part", 7)]) (N := N_law) (sc := defScope s_law) (by decide +kernel)) (fun _ _ _ _ _ => pg_name (i := 7) sc_law.nd rfl (Or.inl rfl)) (fun _ _ _ _ _ => pts_nil) (fun _ _ _ _ _ => (c_law_like.pe hr (pa_cons (pv 1) (pa_cons (pv 7) (pa_cons (pv 2) pa_nil))))))) (pss_one (ps_setLc (i := 6) (own := [("k", 4)]) (g := gName 4) (tt := tYes) rfl sc_law.nd rfl rfl (sw_true rfl rfl rfl (by decide +kernel)) (B.range1 (pa_cons (pe_op op_add pe_int (c_law_take.pe hr (pa_cons (pv 1) (pa_cons pe_int pa_nil)))) pa_nil)) (blkOk_by (own := [("k", 4)]) (N := N_law) (sc := defScope s_law) (by decide +kernel)) (fun _ _ _ _ _ => pg_name (i := 4) sc_law.nd rfl (Or.inl rfl)) (fun _ _ _ _ _ => pts_nil) (fun _ _ _ _ _ => (c_law_part.pe hr (pa_cons (pv 1) (pa_cons pe_int (pa_cons (pv 2) pa_nil))))))))
    (pss_cons (ps_set (i := 5) sc_law.nd rfl (Or.inl rfl) (pe_cmpR op_eq (B.len_q (pa_cons (pv 3) pa_nil)) (B.len_q (pa_cons (pv 6) pa_nil)) (nomark _)))
    (pss_cons (ps_for PassesOwn.never rfl (B.range1 (pa_cons (pe_callB (call_min2 rfl) rfl hmin (by decide +kernel) (pa_cons (B.len_q (pa_cons (pv 3) pa_nil)) (pa_cons (B.len_q (pa_cons (pv 6) pa_nil)) pa_nil))) pa_nil)) (pg_name (i := 4) sc_law.nd rfl (Or.inl rfl)) (pss_one (ps_set (i := 5) sc_law.nd rfl (Or.inl rfl) (pe_and (pv 5) (pe_one (c_law_part_matches.pe hr (pa_cons (pe_ix ix_lM (pv 3) (pv 4) (fun _ _ => rfl)) (pa_cons (pe_ix ix_lM (pv 6) (pv 4) (fun _ _ => rfl)) pa_nil))))))))
    (pss_one (ps_ret (c_law_says.pe hr (pa_cons (c_matches.pe hr (pa_cons (pe_join pe_str (pv 3)) (pa_cons (pe_join pe_str (pv 6)) pa_nil))) (pa_cons (pv 5) pa_nil))))))))))))), ?_⟩
  walk_at "wp"
  refine ⟨a, ns, 0, rfl, hS, _, rfl, fun st hst a0 b0 => ?_⟩
  have s1 : Strm (upd H st (.lst [.int a0, .int b0])) st := Strm.mk
  generalize upd H st (.lst [.int a0, .int b0]) = H1 at s1 ⊢
  have lim : sizeLine = 16777216 := sizeLine_eq
  refine ⟨by decide, fun p hp => ⟨st, 3, rfl, s1.kp (Kp.new hp _ : Kp [] _ _) (by simp), ⟨by decide, by decide⟩, fun m H2 m0 m1 k2 s2 => ?_⟩⟩
  have nps : p ≠ st := by
    obtain ⟨x, y, e⟩ := s1
    intro z; rw [z, e] at hp; cases hp
  have e2 := k2.keep p _ (by simpa using nps) upd_same
  obtain ⟨S, hSm, S47, S1, S2⟩ : ∃ S : Str, atI [V.str (Str.ofString "ab"), V.str (Str.ofString "a.b"), V.str (Str.ofString "abcdefghijklmnopqrstuvwxyz0123456789.-_")] m = some (.str S) ∧ 47 ∉ TL.tl S ∧ 1 ≤ S.length ∧ S.length ≤ 90 := by
    have : m = 0 ∨ m = 1 ∨ m = 2 := by omega
    rcases this with rfl | rfl | rfl
    · exact ⟨_, rfl, by decide +kernel, by decide +kernel, by decide +kernel⟩
    · exact ⟨_, rfl, by decide +kernel, by decide +kernel, by decide +kernel⟩
    · exact ⟨_, rfl, by decide +kernel, by decide +kernel, by decide +kernel⟩
  refine ⟨_, e2, m, rfl, _, hSm, by omega, fun pw hpw => ?_⟩
  have nw_st : pw ≠ st := by
    obtain ⟨x, y, e⟩ := s2
    intro z; rw [z, e] at hpw; cases hpw
  have s3 : Strm (upd H2 pw (.lst [])) st := s2.kp (Kp.new hpw _ : Kp [] _ _) (by simp)
  have fw : upd H2 pw (.lst []) pw = some (.lst ((([] : List Str)).map V.str)) := upd_same
  generalize upd H2 pw (.lst []) = H3 at s3 fw ⊢
  clear e2 hSm k2 s1 s2 hp hpw hst hS
  have S1s : (Str.ofString "*").length = 1 := by decide +kernel
  have S2s : (Str.ofString "**").length = 2 := by decide +kernel
  have apl : ∀ x y : Str, (x ++ y).length = x.length + y.length := fun x y => by rw [TL.len_tl, TL.tl_append, List.length_append, ← TL.len_tl, ← TL.len_tl]
  have no47 : ∀ (y : Str), 47 ∉ TL.tl y → ∀ z : Str, (∀ c ∈ z.cps.toList, c ∈ (S ++ y).cps.toList) → 47 ∉ TL.tl z := fun y hy z hz hm => by
    have := hz 47 hm
    have this : 47 ∈ TL.tl (S ++ y) := this
    rw [TL.tl_append] at this
    rcases List.mem_append.mp this with h | h
    · exact S47 h
    · exact hy h
  let W : List Str → Prop := fun ws => ∀ w ∈ ws, 47 ∉ TL.tl w ∧ w.length ≤ 60
  let W20 : List Str → Prop := fun ws => ∀ w ∈ ws, 47 ∉ TL.tl w ∧ w.length ≤ 40
  let M1 : St → Hp → Prop := fun σ H' => ∃ (ws : List Str) (o4 o5 o6 o7 : Option V), σ = [some (.ref a), some (.ref st), some (.str S), some (.ref pw), o4, o5, o6, o7] ∧ H' pw = some (.lst (ws.map V.str)) ∧ 1 ≤ ws.length ∧ ws.length ≤ 3 ∧ W20 ws ∧ Strm H' st
  refine ⟨M1, ?_, ?_⟩
  · refine ⟨_, rfl, st, 3, rfl, s3, ⟨by decide, by decide⟩, fun n H4 n0 n1 k4 s4 => ?_⟩
    have gw4 := k4.keep pw _ (by simpa using nw_st) fw
    refine ⟨_, _, rfl, rfl, 1 + n, rfl, by omega, by omega, ?_⟩
    refine for_range (lo := 0) (n := (1 + n).toNat) (fun i σ H' => ∃ (ws : List Str) (o4 o5 o6 o7 : Option V), σ = [some (.ref a), some (.ref st), some (.str S), some (.ref pw), o4, o5, o6, o7] ∧ H' pw = some (.lst (ws.map V.str)) ∧ ws.length = i ∧ W20 ws ∧ Strm H' st) ⟨[], _, _, _, _, rfl, gw4, rfl, fun w h => absurd h (by simp), s4⟩ (fun i σ H5 hi ⟨ws, o4, o5, o6, o7, hσ, gw, wl, hW, s5⟩ => ?_) (fun σ H5 ⟨ws, o4, o5, o6, o7, hσ, gw, wl, hW, s5⟩ => ⟨ws, o4, o5, o6, o7, hσ, gw, by omega, by omega, hW, s5⟩)
    subst hσ
    walk_at "wp"
    refine ⟨.inl ⟨rfl, _, .inl (.inl gw)⟩, by rw [S1s]; omega, st, 7, _, rfl, s5, by decide, by decide, by rw [apl]; omega, by rw [apl]; omega, fun z H6 hz z1 hzm k6 s6 => ?_⟩
    refine ⟨_, k6.keep pw _ (by simpa using nw_st) gw, by rw [List.length_map]; omega, ws ++ [z], by rw [List.map_append]; rfl, by rw [List.length_append, wl]; rfl, fun w hw => ?_, ?_⟩
    · rcases List.mem_append.mp hw with h | h
      · exact hW w h
      · rw [List.mem_singleton.mp h]
        exact ⟨no47 _ (by decide +kernel) z hzm, by omega⟩
    · obtain ⟨x, y, e⟩ := s6
      exact ⟨x, y, by rw [upd_ne (Ne.symm nw_st)]; exact e⟩
  rintro σ' H4 ⟨ws, o4, o5, o6, o7, hσ, gw, w1, w3, hW, s4⟩
  subst hσ
  refine ⟨M1, ?_, ?_⟩
  · walk_at "wp"
    refine ⟨st, 4, rfl, s4, ⟨by decide, by decide⟩, fun b H5 b0 b1 k5 s5 => ⟨rfl, ?_⟩⟩
    have gw5 := k5.keep pw _ (by simpa using nw_st) gw
    split
    · refine ⟨by rw [S2s]; omega, st, 19, _, rfl, s5, by decide, by decide, by rw [apl]; omega, by rw [apl]; omega, fun z H6 hz z1 hzm k6 s6 => ?_⟩
      refine ⟨_, k6.keep pw _ (by simpa using nw_st) gw5, 0, ixN_in (j := 0) (by rw [List.length_map]; omega), ws.set 0 z, _, _, _, _, rfl, by rw [upd_same, List.map_set], by rw [List.length_set]; exact w1, by rw [List.length_set]; exact w3, fun w hw => ?_, ?_⟩
      · rcases List.mem_or_eq_of_mem_set hw with h | h
        · exact hW w h
        · rw [h]
          exact ⟨no47 _ (by decide +kernel) z hzm, by omega⟩
      · obtain ⟨x, y, e⟩ := s6
        exact ⟨x, y, by rw [upd_ne (Ne.symm nw_st)]; exact e⟩
    · exact ⟨ws, _, _, _, _, rfl, gw5, w1, w3, hW, s5⟩
  rintro σ' H5 ⟨ws, o4, o5, o6, o7, hσ, gw, w1, w3, hW, s5⟩
  subst hσ
  let M3 : St → Hp → Prop := fun σ H' => ∃ (ws ps : List Str) (pp : Addr) (o4 o5 o7 : Option V), σ = [some (.ref a), some (.ref st), some (.str S), some (.ref pw), o4, o5, some (.ref pp), o7] ∧ H' pw = some (.lst (ws.map V.str)) ∧ H' pp = some (.lst (ps.map V.str)) ∧ 1 ≤ ws.length ∧ ws.length ≤ 3 ∧ 1 ≤ ps.length ∧ ps.length ≤ 3 ∧ W ws ∧ W ps
  refine ⟨M3, ?_, ?_⟩
  · walk_at "wp"
    refine ⟨st, 2, rfl, s5, ⟨by decide, by decide⟩, fun b H6 b0 b1 k6 s6 => ⟨rfl, ?_⟩⟩
    have gw6 := k6.keep pw _ (by simpa using nw_st) gw
    have hW60 : W ws := fun w hw => ⟨(hW w hw).1, by have := (hW w hw).2; omega⟩
    split
    · refine ⟨_, rfl, pw, rfl, ⟨_, SqL.of gw6⟩, fun D hD => ?_⟩
      have nD : D ≠ st := by obtain ⟨x, y, e⟩ := s6; exact (ne_of_none e hD).symm
      refine lc_list (K := K) (a := pw) (xs := ws.map V.str) (fun i H' => ∃ ps : List Str, H' D = some (.lst (ps.map V.str)) ∧ ps.length = i ∧ W ps ∧ Kp [st] H6 H' ∧ Strm H' st)
        ⟨[], upd_same, rfl, fun w h => absurd h (by simp), Kp.new hD _, s6.kp (Kp.new hD _ : Kp [] _ _) (by simp)⟩ (fun i H7 _ ⟨_, _, _, _, k7, _⟩ => SqL.of (k7.keep pw _ (by simpa using nw_st) gw6)) (fun i x H7 hx ⟨ps, hD7, hl, hP, k7, s7⟩ => ?_) (fun H7 ⟨ps, hD7, hl, hP, k7, s7⟩ => ?_)
      · rw [List.getElem?_map] at hx
        cases hwi : ws[i]? with
        | none => rw [hwi] at hx; cases hx
        | some u =>
        rw [hwi] at hx
        obtain rfl : V.str u = x := by simpa using hx
        have hu := hW u (List.mem_of_getElem? hwi)
        have hi3 : i < ws.length := by
          rcases Nat.lt_or_ge i ws.length with h | h
          · exact h
          · rw [List.getElem?_eq_none h] at hwi; cases hwi
        refine ⟨rfl, ?_⟩
        simp only [tYes, if_true]
        refine ⟨_, rfl, _, rfl, _, rfl, st, u, S, rfl, s7, hu.2, S1, by omega, hu.1, S47, fun z H8 hz z47 k8 s8 => ?_⟩
        have hD8 := k8.keep D _ (by simpa using nD) hD7
        refine ⟨_, hD8, by rw [List.length_map]; omega, ps ++ [z], by rw [upd_same, List.map_append]; rfl, by rw [List.length_append, hl]; rfl, fun w hw => ?_, (k7.trans k8).upd hD hD8, ?_⟩
        · rcases List.mem_append.mp hw with h | h
          · exact hP w h
          · rw [List.mem_singleton.mp h]
            exact ⟨z47, hz⟩
        · obtain ⟨x, y, e⟩ := s8
          exact ⟨x, y, by rw [upd_ne (Ne.symm nD)]; exact e⟩
      · rw [List.length_map] at hl
        exact ⟨ws, ps, D, _, _, _, rfl, k7.keep pw _ (by simpa using nw_st) gw6, hD7, w1, w3, by omega, by omega, hW60, hP⟩
    · refine ⟨_, rfl, st, 3, rfl, s6, ⟨by decide, by decide⟩, fun n H7 n0 n1 k7 s7 => ?_⟩
      have gw7 := k7.keep pw _ (by simpa using nw_st) gw6
      refine ⟨_, _, rfl, rfl, 1 + n, rfl, by omega, by omega, fun D hD => ?_⟩
      have nD : D ≠ st := by obtain ⟨x, y, e⟩ := s7; exact (ne_of_none e hD).symm
      refine lc_range (lo := 0) (n := (1 + n).toNat) (fun i H' => ∃ ps : List Str, H' D = some (.lst (ps.map V.str)) ∧ ps.length = i ∧ W ps ∧ Kp [st] H7 H' ∧ Strm H' st)
        ⟨[], upd_same, rfl, fun w h => absurd h (by simp), Kp.new hD _, s7.kp (Kp.new hD _ : Kp [] _ _) (by simp)⟩ (fun i H8 hi ⟨ps, hD8, hl, hP, k8, s8⟩ => ?_) (fun H8 ⟨ps, hD8, hl, hP, k8, s8⟩ => ?_)
      · refine ⟨rfl, ?_⟩
        simp only [tYes, if_true]
        refine ⟨_, rfl, _, rfl, st, 7, S, rfl, s8, by decide, by decide, S1, by omega, fun z H9 hz z1 hzm k9 s9 => ?_⟩
        have hD9 := k9.keep D _ (by simpa using nD) hD8
        refine ⟨_, hD9, by rw [List.length_map]; omega, ps ++ [z], by rw [upd_same, List.map_append]; rfl, by rw [List.length_append, hl]; rfl, fun w hw => ?_, (k8.trans k9).upd hD hD9, ?_⟩
        · rcases List.mem_append.mp hw with h | h
          · exact hP w h
          · rw [List.mem_singleton.mp h]
            exact ⟨fun hm => S47 (hzm 47 hm), by omega⟩
        · obtain ⟨x, y, e⟩ := s9
          exact ⟨x, y, by rw [upd_ne (Ne.symm nD)]; exact e⟩
      · exact ⟨ws, ps, D, _, _, _, rfl, k8.keep pw _ (by simpa using nw_st) gw7, hD8, w1, w3, by omega, by omega, hW60, hP⟩
  rintro σ' H6 ⟨ws, ps, pp, o4, o5, o7, hσ, gw, gp, w1, w3, p1, p3, hW, hP⟩
  subst hσ
  walk_at "wp"
  refine ⟨_, .inl (SqL.of gw), _, .inl (SqL.of gp), ?_⟩
  refine ⟨_, rfl, pw, rfl, _, .inl (SqL.of gw), _, rfl, pp, rfl, _, .inl (SqL.of gp), _, _, rfl, _, rfl, by rw [List.length_map, List.length_map]; split <;> omega, by rw [List.length_map, List.length_map]; split <;> omega, ?_⟩
  let due : Nat → Bool := fun i => decide (ws.length = ps.length) && (((ws.zip ps).take i).all fun x => mt (TL.tl x.1) (TL.tl x.2))
  have ed0 : decide ((((ws.map V.str).length : Nat) : Int) = (((ps.map V.str).length : Nat) : Int)) = due 0 := by
    show _ = (decide (ws.length = ps.length) && true)
    rw [Bool.and_true, List.length_map, List.length_map]
    exact decide_eq_decide.mpr ⟨fun h => by omega, fun h => by omega⟩
  refine for_range (lo := 0) (n := Int.toNat (if (((ps.map V.str).length : Nat) : Int) < (((ws.map V.str).length : Nat) : Int) then (((ps.map V.str).length : Nat) : Int) else (((ws.map V.str).length : Nat) : Int))) (fun i σ H' => ∃ o4 o7 : Option V, σ = [some (.ref a), some (.ref st), some (.str S), some (.ref pw), o4, some (.bl (due i)), some (.ref pp), o7] ∧ H' pw = some (.lst (ws.map V.str)) ∧ H' pp = some (.lst (ps.map V.str)))
    ⟨o4, o7, by rw [ed0], gw, gp⟩ (fun i σ H7 hi ⟨o4, o7, hσ, gw, gp⟩ => ?_) (fun σ H7 ⟨o4, o7, hσ, gw, gp⟩ => ?_)
  · subst hσ
    walk_at "wp"
    rw [List.length_map, List.length_map] at hi
    have hiw : i < ws.length := by split at hi <;> omega
    have hip : i < ps.length := by split at hi <;> omega
    obtain ⟨u, hu⟩ : ∃ u, ws[i]? = some u := ⟨_, List.getElem?_eq_getElem hiw⟩
    obtain ⟨v, hv⟩ : ∃ v, ps[i]? = some v := ⟨_, List.getElem?_eq_getElem hip⟩
    have hz : (ws.zip ps)[i]? = some (u, v) := by rw [List.getElem?_zip_eq_some]; exact ⟨hu, hv⟩
    have ed : due (i + 1) = (due i && mt (TL.tl u) (TL.tl v)) := by
      show (decide (ws.length = ps.length) && (((ws.zip ps).take (i + 1)).all fun x => mt (TL.tl x.1) (TL.tl x.2))) = (decide (ws.length = ps.length) && (((ws.zip ps).take i).all fun x => mt (TL.tl x.1) (TL.tl x.2)) && mt (TL.tl u) (TL.tl v))
      rw [List.take_add_one, hz, List.all_append, Bool.and_assoc]
      simp
    rw [Int.zero_add]
    cases hd : due i with
    | false =>
      rw [if_neg (by decide), ed, hd]
      exact ⟨rfl, gw, gp⟩
    | true =>
      rw [if_pos rfl]
      refine ⟨_, gw, _, atI_nat (by rw [List.getElem?_map, hu]; rfl), _, gp, _, atI_nat (by rw [List.getElem?_map, hv]; rfl), u, v, rfl, ?_, ?_, fun H8 k8 => ⟨by rw [ed, hd, Bool.true_and], k8.keep _ _ (by simp) gw, k8.keep _ _ (by simp) gp⟩⟩
      · have := (hW u (List.mem_of_getElem? hu)).2
        omega
      · have := (hP v (List.mem_of_getElem? hv)).2
        omega
  · subst hσ
    walk_at "wp"
    have sumle : ∀ (ys : List Str), W ys → ys.length ≤ 3 → (List.map (fun x => x.length) ys).sum + ys.length * (Str.ofString "/").length ≤ 16777216 := fun ys hy hl => by
      have : ∀ ys : List Str, W ys → (List.map (fun x => x.length) ys).sum ≤ ys.length * 60 := fun ys => by
        induction ys with
        | nil => intro _; simp
        | cons y r ih =>
          intro h
          have h1 := (h y List.mem_cons_self).2
          have h2 := ih (fun z hz => h z (List.mem_cons_of_mem _ hz))
          rw [List.map_cons, List.sum_cons, List.length_cons]
          omega
      have h1 := this ys hy
      rw [show (Str.ofString "/").length = 1 by decide +kernel]
      omega
    have j1 := jlen (m := 60) (ps := ws) fun w hw => (hW w hw).2
    have j2 := jlen (m := 60) (ps := ps) fun w hw => (hP w hw).2
    refine ⟨⟨_, rfl⟩, ws, .inl (SqL.of gw), sumle _ hW w3, ⟨_, rfl⟩, ps, .inl (SqL.of gp), sumle _ hP p3, _, _, rfl, by omega, by omega, fun H8 k8 => ⟨_, _, rfl, ?_⟩⟩
    have em : mtW (Txt.join (Str.ofString "/") ws) (Txt.join (Str.ofString "/") ps) = due (Int.toNat (if (((ps.map V.str).length : Nat) : Int) < (((ws.map V.str).length : Nat) : Int) then (((ps.map V.str).length : Nat) : Int) else (((ws.map V.str).length : Nat) : Int))) := by
      rw [mtW_join (fun h => by rw [h] at w1; simp at w1) (fun h => by rw [h] at p1; simp at p1) (fun w hw => (hW w hw).1) (fun w hw => (hP w hw).1)]
      show _ = (decide (ws.length = ps.length) && (((ws.zip ps).take _).all fun x => mt (TL.tl x.1) (TL.tl x.2)))
      rw [List.take_of_length_le]
      rw [List.length_zip, List.length_map, List.length_map]
      split <;> omega
    rw [em, beq_self_eq_true]
    exact q H8
end

open PySem.Spec PyProof.Rows in
theorem all_mk {l : PySem.W.OpenLaw} {q : Program} {lo : List Str} {mean : ExcName → Option Value} {w : World} {K : PySem.W.Frag} {h : Heap} {mg mb : Str → Option Value} {fa : Addr} (T : Top q lo mean mg mb h) (X : K.In h) (G : h.Ns mainGlobals mg) (hfa : mg "law" = some (.ref fa))
    {oc0 kV0 doc0 pm0 cd0 ct0 : Value} {od0 an0 : Option Addr} {sl0 : Array (Option Value)} {f0 : Addr}
    (a0 : PySem.W.nsIn K mainGlobals "matches" = some (some (.ref f0))) (l0 : K.lookup f0 = some ⟨oc0, od0, .func (PySem.W.fnOf "matches" "matches" (defArgs s_matches) (defBody s_matches) (defScope s_matches) .none kV0 doc0 pm0 an0 cd0 ct0), sl0⟩) (cc0 : PySem.W.codeIn K cd0 "matches" = true) (k0 : PySem.W.keepIn K (.ref f0) = true)
    {oc1 kV1 doc1 pm1 cd1 ct1 : Value} {od1 an1 : Option Addr} {sl1 : Array (Option Value)} {f1 : Addr}
    (a1 : PySem.W.nsIn K mainGlobals "_part_matches" = some (some (.ref f1))) (l1 : K.lookup f1 = some ⟨oc1, od1, .func (PySem.W.fnOf "_part_matches" "_part_matches" (defArgs s_part_matches) (defBody s_part_matches) (defScope s_part_matches) .none kV1 doc1 pm1 an1 cd1 ct1), sl1⟩) (cc1 : PySem.W.codeIn K cd1 "_part_matches" = true) (k1 : PySem.W.keepIn K (.ref f1) = true)
    {oc2 kV2 doc2 pm2 cd2 ct2 : Value} {od2 an2 : Option Addr} {sl2 : Array (Option Value)} {f2 : Addr}
    (a2 : PySem.W.nsIn K mainGlobals "_stand_in_order" = some (some (.ref f2))) (l2 : K.lookup f2 = some ⟨oc2, od2, .func (PySem.W.fnOf "_stand_in_order" "_stand_in_order" (defArgs s_stand_in_order) (defBody s_stand_in_order) (defScope s_stand_in_order) .none kV2 doc2 pm2 an2 cd2 ct2), sl2⟩) (cc2 : PySem.W.codeIn K cd2 "_stand_in_order" = true) (k2 : PySem.W.keepIn K (.ref f2) = true)
    {oc3 kV3 doc3 pm3 cd3 ct3 : Value} {od3 an3 : Option Addr} {sl3 : Array (Option Value)} {f3 : Addr}
    (a3 : PySem.W.nsIn K mainGlobals "_law_cell" = some (some (.ref f3))) (l3 : K.lookup f3 = some ⟨oc3, od3, .func (PySem.W.fnOf "_law_cell" "_law_cell" (defArgs s_law_cell) (defBody s_law_cell) (defScope s_law_cell) .none kV3 doc3 pm3 an3 cd3 ct3), sl3⟩) (cc3 : PySem.W.codeIn K cd3 "_law_cell" = true) (k3 : PySem.W.keepIn K (.ref f3) = true)
    {oc4 kV4 doc4 pm4 cd4 ct4 : Value} {od4 an4 : Option Addr} {sl4 : Array (Option Value)} {f4 : Addr}
    (a4 : PySem.W.nsIn K mainGlobals "_law_stream" = some (some (.ref f4))) (l4 : K.lookup f4 = some ⟨oc4, od4, .func (PySem.W.fnOf "_law_stream" "_law_stream" (defArgs s_law_stream) (defBody s_law_stream) (defScope s_law_stream) .none kV4 doc4 pm4 an4 cd4 ct4), sl4⟩) (cc4 : PySem.W.codeIn K cd4 "_law_stream" = true) (k4 : PySem.W.keepIn K (.ref f4) = true)
    {oc5 kV5 doc5 pm5 cd5 ct5 : Value} {od5 an5 : Option Addr} {sl5 : Array (Option Value)} {f5 : Addr}
    (a5 : PySem.W.nsIn K mainGlobals "_law_take" = some (some (.ref f5))) (l5 : K.lookup f5 = some ⟨oc5, od5, .func (PySem.W.fnOf "_law_take" "_law_take" (defArgs s_law_take) (defBody s_law_take) (defScope s_law_take) .none kV5 doc5 pm5 an5 cd5 ct5), sl5⟩) (cc5 : PySem.W.codeIn K cd5 "_law_take" = true) (k5 : PySem.W.keepIn K (.ref f5) = true)
    {oc6 kV6 doc6 pm6 cd6 ct6 : Value} {od6 an6 : Option Addr} {sl6 : Array (Option Value)} {f6 : Addr}
    (a6 : PySem.W.nsIn K mainGlobals "_law_says" = some (some (.ref f6))) (l6 : K.lookup f6 = some ⟨oc6, od6, .func (PySem.W.fnOf "_law_says" "_law_says" (defArgs s_law_says) (defBody s_law_says) (defScope s_law_says) .none kV6 doc6 pm6 an6 cd6 ct6), sl6⟩) (cc6 : PySem.W.codeIn K cd6 "_law_says" = true) (k6 : PySem.W.keepIn K (.ref f6) = true)
    {oc7 kV7 doc7 pm7 cd7 ct7 : Value} {od7 an7 : Option Addr} {sl7 : Array (Option Value)} {f7 : Addr}
    (a7 : PySem.W.nsIn K mainGlobals "_law_part_matches" = some (some (.ref f7))) (l7 : K.lookup f7 = some ⟨oc7, od7, .func (PySem.W.fnOf "_law_part_matches" "_law_part_matches" (defArgs s_law_part_matches) (defBody s_law_part_matches) (defScope s_law_part_matches) .none kV7 doc7 pm7 an7 cd7 ct7), sl7⟩) (cc7 : PySem.W.codeIn K cd7 "_law_part_matches" = true) (k7 : PySem.W.keepIn K (.ref f7) = true)
    {oc8 kV8 doc8 pm8 cd8 ct8 : Value} {od8 an8 : Option Addr} {sl8 : Array (Option Value)} {f8 : Addr}
    (a8 : PySem.W.nsIn K mainGlobals "_law_part" = some (some (.ref f8))) (l8 : K.lookup f8 = some ⟨oc8, od8, .func (PySem.W.fnOf "_law_part" "_law_part" (defArgs s_law_part) (defBody s_law_part) (defScope s_law_part) .none kV8 doc8 pm8 an8 cd8 ct8), sl8⟩) (cc8 : PySem.W.codeIn K cd8 "_law_part" = true) (k8 : PySem.W.keepIn K (.ref f8) = true)
    {oc9 kV9 doc9 pm9 cd9 ct9 : Value} {od9 an9 : Option Addr} {sl9 : Array (Option Value)} {f9 : Addr}
    (a9 : PySem.W.nsIn K mainGlobals "_law_like" = some (some (.ref f9))) (l9 : K.lookup f9 = some ⟨oc9, od9, .func (PySem.W.fnOf "_law_like" "_law_like" (defArgs s_law_like) (defBody s_law_like) (defScope s_law_like) .none kV9 doc9 pm9 an9 cd9 ct9), sl9⟩) (cc9 : PySem.W.codeIn K cd9 "_law_like" = true) (k9 : PySem.W.keepIn K (.ref f9) = true)
    {oc10 kV10 doc10 pm10 cd10 ct10 : Value} {od10 an10 : Option Addr} {sl10 : Array (Option Value)} {f10 : Addr}
    (a10 : PySem.W.nsIn K mainGlobals "law" = some (some (.ref f10))) (l10 : K.lookup f10 = some ⟨oc10, od10, .func (PySem.W.fnOf "law" "law" (defArgs s_law) (defBody s_law) (defScope s_law) .none kV10 doc10 pm10 an10 cd10 ct10), sl10⟩) (cc10 : PySem.W.codeIn K cd10 "law" = true) (k10 : PySem.W.keepIn K (.ref f10) = true)
    (z_len : PySem.W.nsIn K mainGlobals "len" = some none)
    (z_int : PySem.W.nsIn K mainGlobals "int" = some none)
    (z_str : PySem.W.nsIn K mainGlobals "str" = some none)
    (z_bool : PySem.W.nsIn K mainGlobals "bool" = some none)
    (z_list : PySem.W.nsIn K mainGlobals "list" = some none)
    (z_tuple : PySem.W.nsIn K mainGlobals "tuple" = some none)
    (z_range : PySem.W.nsIn K mainGlobals "range" = some none)
    (z_isinstance : PySem.W.nsIn K mainGlobals "isinstance" = some none)
    (z_ord : PySem.W.nsIn K mainGlobals "ord" = some none)
    (z_all : PySem.W.nsIn K mainGlobals "all" = some none)
    (z_zip : PySem.W.nsIn K mainGlobals "zip" = some none) (z_min : PySem.W.nsIn K mainGlobals "min" = some none) :
    LamX.LawAtS l w K CX0 4 63 "script" mg fa h := by
  have e := hfa.symm.trans (PySem.W.mg_of X G a10)
  cases e
  have F0 := fun_mk (st := s_matches) l0 cc0 k0
  have b0 := F0.binds (ps := ["pattern", "path"]) fun _ _ _ _ _ _ us hl => match us, hl with | [_, _], _ => rfl
  have F1 := fun_mk (st := s_part_matches) l1 cc1 k1
  have b1 := F1.binds (ps := ["pattern", "part"]) fun _ _ _ _ _ _ us hl => match us, hl with | [_, _], _ => rfl
  have F2 := fun_mk (st := s_stand_in_order) l2 cc2 k2
  have b2 := F2.binds (ps := ["pieces", "text"]) fun _ _ _ _ _ _ us hl => match us, hl with | [_, _], _ => rfl
  have F3 := fun_mk (st := s_law_cell) l3 cc3 k3
  have b3 := F3.binds (ps := ["script", "k"]) fun _ _ _ _ _ _ us hl => match us, hl with | [_, _], _ => rfl
  have F4 := fun_mk (st := s_law_stream) l4 cc4 k4
  have b4 := F4.binds (ps := ["cell"]) fun _ _ _ _ _ _ us hl => match us, hl with | [_], _ => rfl
  have F5 := fun_mk (st := s_law_take) l5 cc5 k5
  have b5 := F5.binds (ps := ["stream", "many"]) fun _ _ _ _ _ _ us hl => match us, hl with | [_, _], _ => rfl
  have F6 := fun_mk (st := s_law_says) l6 cc6 k6
  have b6 := F6.binds (ps := ["actual", "expected"]) fun _ _ _ _ _ _ us hl => match us, hl with | [_, _], _ => rfl
  have F7 := fun_mk (st := s_law_part_matches) l7 cc7 k7
  have b7 := F7.binds (ps := ["wanted", "part"]) fun _ _ _ _ _ _ us hl => match us, hl with | [_, _], _ => rfl
  have F8 := fun_mk (st := s_law_part) l8 cc8 k8
  have b8 := F8.binds (ps := ["stream", "most", "chars"]) fun _ _ _ _ _ _ us hl => match us, hl with | [_, _, _], _ => rfl
  have F9 := fun_mk (st := s_law_like) l9 cc9 k9
  have b9 := F9.binds (ps := ["stream", "part", "chars"]) fun _ _ _ _ _ _ us hl => match us, hl with | [_, _, _], _ => rfl
  have F10 := fun_mk (st := s_law) l10 cc10 k10
  have b10 := F10.binds (ps := ["script"]) fun _ _ _ _ _ _ us hl => match us, hl with | [_], _ => rfl
  have B : Blt mg := ⟨PySem.W.mg_none_of X G z_len, PySem.W.mg_none_of X G z_int, PySem.W.mg_none_of X G z_str, PySem.W.mg_none_of X G z_bool, PySem.W.mg_none_of X G z_list, PySem.W.mg_none_of X G z_tuple, PySem.W.mg_none_of X G z_range, PySem.W.mg_none_of X G z_isinstance, PySem.W.mg_none_of X G z_ord, PySem.W.mg_none_of X G z_all⟩
  refine ⟨PySem.W.fnOf "law" "law" (defArgs s_law) (defBody s_law) (defScope s_law) .none kV10 doc10 pm10 an10 cd10 ct10, [], spLaw K, fun p hp => absurd hp (by simp), fun p hp => absurd hp (by simp), fun p hp => absurd hp (by simp), fun s v => .of_eq rfl, fun H a ns hl hb ht hS => ?_, fun base KB GB TBs => ?_⟩
  · exact ⟨a, ns, rfl, hS, fun _ => rfl⟩
  have c_law_cell : Cal l.prog w K mg base CX0 (1) "_law_cell" (spCell K) := ⟨⟨f3, _, _, ok_cell F3 B, PySem.W.mg_of X G a3, k3, b3⟩⟩
  have c_law_stream : Cal l.prog w K mg base CX0 (1) "_law_stream" (spStream) := ⟨⟨f4, _, _, ok_stream F4 B, PySem.W.mg_of X G a4, k4, b4⟩⟩
  have c_law_take : Cal l.prog w K mg base CX0 (1) "_law_take" (spTake) := ⟨⟨f5, _, _, ok_take F5 B, PySem.W.mg_of X G a5, k5, b5⟩⟩
  have c_stand_in_order : Cal l.prog w K mg base CX0 (1) "_stand_in_order" (spStand K) := ⟨⟨f2, _, _, ok_stand F2 B, PySem.W.mg_of X G a2, k2, b2⟩⟩
  have c_part_matches : Cal l.prog w K mg base CX0 (2) "_part_matches" (spPartM) := ⟨⟨f1, _, _, ok_part F1 B c_stand_in_order, PySem.W.mg_of X G a1, k1, b1⟩⟩
  have c_matches : Cal l.prog w K mg base CX0 (3) "matches" (spMatches) := ⟨⟨f0, _, _, ok_matches F0 B (PySem.W.mg_none_of X G z_zip) c_part_matches, PySem.W.mg_of X G a0, k0, b0⟩⟩
  have c_law_says : Cal l.prog w K mg base CX0 (1) "_law_says" (spSays) := ⟨⟨f6, _, _, ok_says F6 B, PySem.W.mg_of X G a6, k6, b6⟩⟩
  have c_law_part : Cal l.prog w K mg base CX0 (2) "_law_part" (spLPart) := ⟨⟨f8, _, _, ok_lpart F8 B c_law_take, PySem.W.mg_of X G a8, k8, b8⟩⟩
  have c_law_like : Cal l.prog w K mg base CX0 (2) "_law_like" (spLike) := ⟨⟨f9, _, _, ok_like F9 B c_law_take, PySem.W.mg_of X G a9, k9, b9⟩⟩
  have c_law_part_matches : Cal l.prog w K mg base CX0 (1) "_law_part_matches" (spLPM) := ⟨⟨f7, _, _, ok_lpm F7 B, PySem.W.mg_of X G a7, k7, b7⟩⟩
  exact ok_law F10 B (PySem.W.mg_none_of X G z_min) c_law_cell c_law_stream c_law_take c_law_says c_matches c_law_part c_law_like c_law_part_matches
end SC
open PySem PySem.W PyProof.Rows
set_option maxRecDepth 100000 in
set_option maxHeartbeats 0 in
theorem PySem.Challenge.cw_sealchart_k06_matches_by_a_table_holds : PySem.Challenge.rw_sealchart_k06_matches_by_a_table.Holds := by
  w_on; o_law; k_head; (case hw => w_witness2)
  k_fill
  refine SC.walk_tab (l := PySem.Challenge.rw_sealchart_k06_matches_by_a_table) (CX := fun _ => L2.CX0) (k := 4) (n := 63) (x := "script") rfl (by decide) rfl ⟨rfl, by decide, by decide⟩ (fun w h Y => PySem.W.kIn_of Y) (fun _ _ _ _ _ z => z) ?F
  case F =>
    intro w mg mb lo mean fa h T KX G hmg
    refine' SC.all_mk T KX G hmg ?a0 ?l0 ?cc0 ?k0 ?a1 ?l1 ?cc1 ?k1 ?a2 ?l2 ?cc2 ?k2 ?a3 ?l3 ?cc3 ?k3 ?a4 ?l4 ?cc4 ?k4 ?a5 ?l5 ?cc5 ?k5 ?a6 ?l6 ?cc6 ?k6 ?a7 ?l7 ?cc7 ?k7 ?a8 ?l8 ?cc8 ?k8 ?a9 ?l9 ?cc9 ?k9 ?a10 ?l10 ?cc10 ?k10 ?z_len ?z_int ?z_str ?z_bool ?z_list ?z_tuple ?z_range ?z_isinstance ?z_ord ?z_all ?z_zip ?z_min
    (case a0 => k_is)
    (case l0 => k_is)
    (case cc0 => k_is)
    (case k0 => k_is)
    (case a1 => k_is)
    (case l1 => k_is)
    (case cc1 => k_is)
    (case k1 => k_is)
    (case a2 => k_is)
    (case l2 => k_is)
    (case cc2 => k_is)
    (case k2 => k_is)
    (case a3 => k_is)
    (case l3 => k_is)
    (case cc3 => k_is)
    (case k3 => k_is)
    (case a4 => k_is)
    (case l4 => k_is)
    (case cc4 => k_is)
    (case k4 => k_is)
    (case a5 => k_is)
    (case l5 => k_is)
    (case cc5 => k_is)
    (case k5 => k_is)
    (case a6 => k_is)
    (case l6 => k_is)
    (case cc6 => k_is)
    (case k6 => k_is)
    (case a7 => k_is)
    (case l7 => k_is)
    (case cc7 => k_is)
    (case k7 => k_is)
    (case a8 => k_is)
    (case l8 => k_is)
    (case cc8 => k_is)
    (case k8 => k_is)
    (case a9 => k_is)
    (case l9 => k_is)
    (case cc9 => k_is)
    (case k9 => k_is)
    (case a10 => k_is)
    (case l10 => k_is)
    (case cc10 => k_is)
    (case k10 => k_is)
    (case z_len => k_is)
    (case z_int => k_is)
    (case z_str => k_is)
    (case z_bool => k_is)
    (case z_list => k_is)
    (case z_tuple => k_is)
    (case z_range => k_is)
    (case z_isinstance => k_is)
    (case z_ord => k_is)
    (case z_all => k_is)
    (case z_zip => k_is)
    (case z_min => k_is)
--END
