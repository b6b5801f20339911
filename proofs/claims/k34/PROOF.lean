import PyProof.Rows.All
import Wide.All
import OpenK.AllK
import Wide.FinOn
import HandS.ForMost
import HandS.ForExc
import HandS.Wide
import HandS.IsInst
import HandS.AnyAll
import HandS.EndTab
import HandS.TupAny
import HandS.TupMul
import HandS.FStr
import HandS.StrMore
import HandS.WideBits
import KE.KxField
import HandS.Walk
import HandS.Replace
import HandS.Style
import HandS.Codes
import KE.KRevSl
import KE.KUnpackStar
import HandS.Zip
import HandS.GenList
import HandS.TupLen
import HandS.Deep
import HandS.ExcIs
import HandS.ExcOwn
import HandS.Set
import HandS.SetFor
import HandS.SetTxt0
import HandS.Strs
import PyProof.Rows.SortShellAny
import PyProof.SumWalk
import HandS.SuiteRaise
import HandS.HotCalls
import HandS.ExcInitHot
import HandS.ExcField
import KE.KExcIs
import HandS.More
import KE.KTryMore
import HandS.Iter
import HandS.DictComp
import KE.DataCmp
import PySem.Challenge.RW_sealchart_k34_restored_sets_go_on
set_option Elab.async false
set_option linter.all false
set_option maxRecDepth 100000
set_option maxHeartbeats 2000000
namespace SC
open PySem L2
/-- the built-in names are the built-ins -/
structure Blt (mg : Str → Option Value) : Prop where
  len : mg "len" = none
  int : mg "int" = none
  str : mg "str" = none
  bool : mg "bool" = none
  list : mg "list" = none
  tuple : mg "tuple" = none
  range : mg "range" = none
  isinstance : mg "isinstance" = none
  ord : mg "ord" = none
  all : mg "all" = none
section
variable {X : Cx} {p p2 pos : Pos} {e : Expr} {es : List Expr} {t : TA}
theorem Blt.len_s (B : Blt X.mg) (ha : PA X (e :: es) t) (hg : Gl X "len" := by rfl) (he : starEach (e :: es) X.env = (false, eval e X.env) :: starEach es X.env := by rfl) (hpl : (backTo pos (starEach es X.env)).any (·.1) = false := by rfl) :
    PE X (.Call (.Name "len" p) (e :: es) [] pos) (tCB (fun xs H Q => ∃ z, xs = [.str z] ∧ z.length ≤ sizeLine ∧ Q (.int z.length) H) t) := pe_callB call_len_str hg B.len PySem.boot_len ha (he := he) (hpl := hpl)
theorem Blt.len_q (B : Blt X.mg) (ha : PA X (e :: es) t) (hg : Gl X "len" := by rfl) (he : starEach (e :: es) X.env = (false, eval e X.env) :: starEach es X.env := by rfl) (hpl : (backTo pos (starEach es X.env)).any (·.1) = false := by rfl) :
    PE X (.Call (.Name "len" p) (e :: es) [] pos) (tCB (fun xs H Q => ∃ p ys, xs = [.ref p] ∧ (SqL X.K H p ys ∨ SqT X.K H p ys) ∧ Q (.int ys.length) H) t) := pe_callB call_len_seq hg B.len PySem.boot_len ha (he := he) (hpl := hpl)
theorem call_intI : CallR X (.type "int") (fun xs H Q => ∃ i, xs = [.int i] ∧ Q (.int i) H) := fun pins s σ H xs us Q I r h => call_int1 pins s σ H xs us Q I r (.inl h)
theorem Blt.int_i (B : Blt X.mg) (ha : PA X (e :: es) t) (hg : Gl X "int" := by rfl) (he : starEach (e :: es) X.env = (false, eval e X.env) :: starEach es X.env := by rfl) (hpl : (backTo pos (starEach es X.env)).any (·.1) = false := by rfl) :
    PE X (.Call (.Name "int" p) (e :: es) [] pos) (tCB (fun xs H Q => ∃ i, xs = [.int i] ∧ Q (.int i) H) t) :=
  pe_callTy call_intI hg B.int (by decide +kernel) ha (he := he) (hpl := hpl)
theorem Blt.int_s (B : Blt X.mg) (ha : PA X (e :: es) t) (hg : Gl X "int" := by rfl) (he : starEach (e :: es) X.env = (false, eval e X.env) :: starEach es X.env := by rfl) (hpl : (backTo pos (starEach es X.env)).any (·.1) = false := by rfl) :
    PE X (.Call (.Name "int" p) (e :: es) [] pos) (tCB (fun xs H Q => ∃ a n, xs = [.str a] ∧ PySem.intText? a = some n ∧ a.length ≤ 640 ∧ Q (.int n) H) t) :=
  pe_callTy call_int_str hg B.int (by decide +kernel) ha (he := he) (hpl := hpl)
theorem Blt.str_i (B : Blt X.mg) (ha : PA X (e :: es) t) (hg : Gl X "str" := by rfl) (he : starEach (e :: es) X.env = (false, eval e X.env) :: starEach es X.env := by rfl) (hpl : (backTo pos (starEach es X.env)).any (·.1) = false := by rfl) :
    PE X (.Call (.Name "str" p) (e :: es) [] pos) (tCB (fun xs H Q => ∃ i, xs = [.int i] ∧ i.natAbs.log2 < 1920 ∧ Q (.str (toString i)) H) t) :=
  pe_callTy call_str_int hg B.str (by decide +kernel) ha (he := he) (hpl := hpl)
theorem Blt.isi (B : Blt X.mg) (ha : PA X (e :: es) t) (hg : Gl X "isinstance" := by rfl) (he : starEach (e :: es) X.env = (false, eval e X.env) :: starEach es X.env := by rfl) (hpl : (backTo pos (starEach es X.env)).any (·.1) = false := by rfl) :
    PE X (.Call (.Name "isinstance" p) (e :: es) [] pos) (tCB (rIsi X.K) t) := pe_callB call_isi hg B.isinstance (by decide +kernel) ha (he := he) (hpl := hpl)
theorem Blt.ord_ (B : Blt X.mg) (ha : PA X (e :: es) t) (hg : Gl X "ord" := by rfl) (he : starEach (e :: es) X.env = (false, eval e X.env) :: starEach es X.env := by rfl) (hpl : (backTo pos (starEach es X.env)).any (·.1) = false := by rfl) :
    PE X (.Call (.Name "ord" p) (e :: es) [] pos) (tCB (fun xs H Q => ∃ x, xs = [.str x] ∧ x.length = 1 ∧ Q (.int (x.cps.getD 0 0 : Nat)) H) t) :=
  pe_callB call_ord hg B.ord (by decide +kernel) ha (he := he) (hpl := hpl)
theorem Blt.tuple_l (B : Blt X.mg) (ha : PA X (e :: es) t) (hg : Gl X "tuple" := by rfl) (he : starEach (e :: es) X.env = (false, eval e X.env) :: starEach es X.env := by rfl) (hpl : (backTo pos (starEach es X.env)).any (·.1) = false := by rfl) :
    PE X (.Call (.Name "tuple" p) (e :: es) [] pos) (tCB (fun xs H Q => ∃ p ys, xs = [.ref p] ∧ ((SqL X.K H p ys ∧ ∀ l, H l = none → Q (.ref l) (upd H l (.tup ys))) ∨ (SqT X.K H p ys ∧ Q (.ref p) H))) t) :=
  pe_callTy call_tuple_of hg B.tuple (by decide +kernel) ha (he := he) (hpl := hpl)
theorem Blt.list_q (B : Blt X.mg) (ha : PA X (e :: es) t) (hg : Gl X "list" := by rfl) (he : starEach (e :: es) X.env = (false, eval e X.env) :: starEach es X.env := by rfl) (hpl : (backTo pos (starEach es X.env)).any (·.1) = false := by rfl) :
    PE X (.Call (.Name "list" p) (e :: es) [] pos) (tCB (fun xs H Q => ∃ p ys, xs = [.ref p] ∧ (SqL X.K H p ys ∨ SqT X.K H p ys) ∧ ∀ l, H l = none → Q (.ref l) (upd H l (.lst ys))) t) :=
  pe_callTy call_list_of hg B.list (by decide +kernel) ha (he := he) (hpl := hpl)
theorem Blt.v_int (B : Blt X.mg) (hg : Gl X "int" := by rfl) : PE X (.Name "int" p) (tC (.ty "int")) := pe_bltn hg B.int (by decide +kernel) rfl
theorem Blt.v_str (B : Blt X.mg) (hg : Gl X "str" := by rfl) : PE X (.Name "str" p) (tC (.ty "str")) := pe_bltn hg B.str (by decide +kernel) rfl
theorem Blt.v_bool (B : Blt X.mg) (hg : Gl X "bool" := by rfl) : PE X (.Name "bool" p) (tC (.ty "bool")) := pe_bltn hg B.bool (by decide +kernel) rfl
theorem Blt.v_tuple (B : Blt X.mg) (hg : Gl X "tuple" := by rfl) : PE X (.Name "tuple" p) (tC (.ty "tuple")) := pe_bltn hg B.tuple (by decide +kernel) rfl
theorem Blt.range1 (B : Blt X.mg) {tg : Expr} (ha : PA X [e] t) (hg : Gl X "range" := by rfl) (hs : starEach [e] X.env = [(false, eval e X.env)] := by rfl) : PI X tg (.Call (.Name "range" p) [e] [] pos) (iRng1 t) := pi_range1 hg B.range ha hs
end
section
variable {X : Cx}
/-- the same rules for what is tracked: the item list is told by the heap -/
theorem ix_lM : IxR X (fun x y H Q => ∃ p xs i v, x = .ref p ∧ H p = some (.lst xs) ∧ y = .int i ∧ atI xs i = some v ∧ Q v H) := by
  intro value slice pins s σ H x y v u Q I rx ry h hs
  obtain ⟨p, xs, i, z, e1, hp, e2, he, q⟩ := h
  exact ix_list value slice pins s σ H x y v u Q I rx ry ⟨p, xs, i, z, e1, e2, SqL.of hp, he, q⟩ hs
theorem ix_tM : IxR X (fun x y H Q => ∃ p xs i v, x = .ref p ∧ H p = some (.tup xs) ∧ y = .int i ∧ atI xs i = some v ∧ Q v H) := by
  intro value slice pins s σ H x y v u Q I rx ry h hs
  obtain ⟨p, xs, i, z, e1, hp, e2, he, q⟩ := h
  exact ix_tup value slice pins s σ H x y v u Q I rx ry ⟨p, xs, i, z, e1, e2, SqT.of hp, he, q⟩ hs
end
/-- a def of the text that keeps its promise, by its name -/
structure Cal (P : Program) (w : World) (K : PySem.W.Frag) (mg : Str → Option Value) (base : Heap) (CX : CXT) (k : Nat) (x : Str) (sp : Sp) : Prop where
  ex : ∃ f fd ps, FnOk P w K mg base CX k f fd ps sp ∧ mg x = some (.ref f) ∧ PySem.W.keepIn K (.ref f) = true ∧ Binds K fd ps []
section
variable {P : Program} {w : World} {K : PySem.W.Frag} {mg : Str → Option Value} {base : Heap} {CX : CXT} {x qual : Str} {sp : Sp}
theorem Cal.mono {j k : Nat} (c : Cal P w K mg base CX j x sp) (h : j ≤ k) : Cal P w K mg base CX k x sp :=
  let ⟨f, fd, ps, F, m, kp, b⟩ := c.ex
  ⟨f, fd, ps, F.mono h, m, kp, b⟩
theorem Cal.imp {k : Nat} {sp' : Sp} (c : Cal P w K mg base CX k x sp) (h : ∀ vs H Q E, sp' vs H Q E → sp vs H Q E) : Cal P w K mg base CX k x sp' :=
  let ⟨f, fd, ps, F, m, kp, b⟩ := c.ex
  ⟨f, fd, ps, F.imp h, m, kp, b⟩
end
section
variable {X : Cx} {x : Str} {p pos : Pos} {e : Expr} {es : List Expr} {t : TA} {sp : Sp} {j k : Nat} {CX : CXT} {E : XK}
/-- its call, what it raises passes as hx says -/
theorem Cal.pex (c : Cal X.prog X.w X.K X.mg X.base CX j x sp) (hr : Room k X.A) (hx : Passes CX X E) (ha : PA X (e :: es) t) (hjk : j ≤ k := by first | decide | omega) (hg : Gl X x := by rfl) (hdb : (x == ("__debug__" : Str)) = false := by decide)
    (he : starEach (e :: es) X.env = (false, eval e X.env) :: starEach es X.env := by rfl) (hpl : (backTo pos (starEach es X.env)).any (·.1) = false := by rfl) :
    PE X (.Call (.Name x p) (e :: es) [] pos) (tCall sp [] E t) :=
  let ⟨_, _, _, F, m, kp, b⟩ := c.ex
  pe_call F (hr.mono hjk) hg m kp b .nil hx ha hdb he hpl
theorem Cal.pe (c : Cal X.prog X.w X.K X.mg X.base CX0 j x sp) (hr : Room k X.A) (ha : PA X (e :: es) t) (hjk : j ≤ k := by first | decide | omega) (hg : Gl X x := by rfl) (hdb : (x == ("__debug__" : Str)) = false := by decide)
    (he : starEach (e :: es) X.env = (false, eval e X.env) :: starEach es X.env := by rfl) (hpl : (backTo pos (starEach es X.env)).any (·.1) = false := by rfl) :
    PE X (.Call (.Name x p) (e :: es) [] pos) (tCall sp [] E0 t) := c.pex hr pass0 ha hjk hg hdb he hpl
theorem Cal.pe0 (c : Cal X.prog X.w X.K X.mg X.base CX0 j x sp) (hr : Room k X.A) (hjk : j ≤ k := by first | decide | omega) (hg : Gl X x := by rfl) (hdb : (x == ("__debug__" : Str)) = false := by decide) :
    PE X (.Call (.Name x p) [] [] pos) (tCall sp [] E0 tNil) :=
  let ⟨_, _, _, F, m, kp, b⟩ := c.ex
  pe_call0 F (hr.mono hjk) hg m kp b .nil pass0 hdb
/-- of a def that may raise, where it does not -/
theorem Cal.peL (c : Cal X.prog X.w X.K X.mg X.base (L2.CX X.prog X.w) j x sp) (hr : Room k X.A) (ha : PA X (e :: es) t) (hjk : j ≤ k := by first | decide | omega) (hg : Gl X x := by rfl) (hdb : (x == ("__debug__" : Str)) = false := by decide)
    (he : starEach (e :: es) X.env = (false, eval e X.env) :: starEach es X.env := by rfl) (hpl : (backTo pos (starEach es X.env)).any (·.1) = false := by rfl) :
    PE X (.Call (.Name x p) (e :: es) [] pos) (tCall sp [] E0 t) := c.pex hr passL ha hjk hg hdb he hpl
end
/-- what was tracked outside S is as it was; tuples stand -/
structure Kp (S : List Addr) (H H' : Hp) : Prop where
  keep : ∀ b o, b ∉ S → H b = some o → H' b = some o
  tup : ∀ b xs, H b = some (.tup xs) → H' b = some (.tup xs)
theorem Kp.refl (S : List Addr) (H : Hp) : Kp S H H := ⟨fun _ _ _ h => h, fun _ _ h => h⟩
theorem Kp.trans {S : List Addr} {H H1 H2 : Hp} (a : Kp S H H1) (b : Kp S H1 H2) : Kp S H H2 := ⟨fun c o n h => b.keep c o n (a.keep c o n h), fun c xs h => b.tup c xs (a.tup c xs h)⟩
theorem Kp.new {S : List Addr} {H : Hp} {p : Addr} (h : H p = none) (o : HO) : Kp S H (upd H p o) :=
  ⟨fun b u _ q => by rw [upd_ne (ne_of_none q h)]; exact q, fun b u q => by rw [upd_ne (ne_of_none q h)]; exact q⟩
theorem Kp.lst {S : List Addr} {H : Hp} {p : Addr} {xs ys : List V} (h : H p = some (.lst xs)) (m : p ∈ S) : Kp S H (upd H p (.lst ys)) :=
  ⟨fun b u n q => by rw [upd_ne (fun z => n (by rw [z]; exact m))]; exact q, fun b u q => by rw [upd_ne (ne_of q h (by intro z; cases z))]; exact q⟩
theorem Kp.mono {S S' : List Addr} {H H' : Hp} (a : Kp S H H') (h : ∀ b ∈ S, b ∈ S') : Kp S' H H' := ⟨fun b o n q => a.keep b o (fun z => n (h b z)) q, a.tup⟩
/-- what was not there may change -/
theorem Kp.drop {S : List Addr} {H H' : Hp} {p : Addr} (h : H p = none) (a : Kp (p :: S) H H') : Kp S H H' :=
  ⟨fun b o n q => a.keep b o (fun z => by
    rcases List.mem_cons.mp z with z | z
    · rw [z, h] at q; cases q
    · exact n z) q, a.tup⟩
theorem Kp.upd {S : List Addr} {H H' : Hp} {p : Addr} {xs ys : List V} (a : Kp S H H') (h : H p = none) (e : H' p = some (.lst xs)) : Kp S H (upd H' p (.lst ys)) :=
  Kp.drop h ((a.mono fun b hb => List.mem_cons_of_mem _ hb).trans (Kp.lst e List.mem_cons_self))
theorem Kp.seqL {K : PySem.W.Frag} {S : List Addr} {H H' : Hp} {a : Addr} {xs : List V} (e : Kp S H H') (n : a ∉ S) (h : SqL K H a xs) : SqL K H' a xs := by
  rcases h with (h | ⟨o, h⟩) | h
  · exact .inl (.inl (e.keep _ _ n h))
  · exact .inl (.inr ⟨o, e.keep _ _ n h⟩)
  · exact .inr h
theorem Kp.tab {P : Addr} {S : List Addr} {H H' : Hp} (hG : GxR.TabG H P) (t : GxR.Tabbed P H H') (m : P ∈ S) : Kp S H H' := by
  obtain ⟨ps, e, _⟩ := hG
  refine ⟨fun b o n q => ?_, fun b xs q => ?_⟩
  · rw [t.2 b (fun z => n (by rw [z]; exact m))]; exact q
  · rw [t.2 b (ne_of q e (by intro z; cases z))]; exact q
/-- a stream of the law's: a list of two ints -/
def Strm (H : Hp) (s : Addr) : Prop := ∃ a b : Int, H s = some (.lst [.int a, .int b])
theorem Strm.mk {H : Hp} {s : Addr} {a b : Int} : Strm (upd H s (.lst [.int a, .int b])) s := ⟨a, b, upd_same⟩
theorem Strm.nT {H : Hp} {s P : Addr} (h : Strm H s) (g : GxR.TabG H P) : s ≠ P := by
  obtain ⟨a, b, e⟩ := h
  obtain ⟨ps, q, _⟩ := g
  exact ne_of e q (by intro z; cases z)
theorem Strm.kp {H H' : Hp} {s : Addr} {S : List Addr} (h : Strm H s) (k : Kp S H H') (n : s ∉ S) : Strm H' s := let ⟨a, b, e⟩ := h; ⟨a, b, k.keep _ _ n e⟩
theorem tabG_kp {H H' : Hp} {P : Addr} {S : List Addr} (h : GxR.TabG H P) (k : Kp S H H') (n : P ∉ S) : GxR.TabG H' P := let ⟨a, e, q⟩ := h; ⟨a, k.keep _ _ n e, q⟩
/-- the built-in type of a value, by the tracked heap -/
def tyN (H : Hp) : V → Option String
  | .non => some "NoneType" | .bl _ => some "bool" | .int _ => some "int" | .str _ => some "str"
  | .ref p => match H p with
    | some (.lst _) => some "list"
    | some (.tup _) => some "tuple"
    | some (.dK _) => some "dict"
    | _ => none
  | _ => none
theorem tyN_ok {K : PySem.W.Frag} {H : Hp} {v : V} {t : String} (h : tyN H v = some t) : TyX K H v (.type t) := by
  cases v with
  | non => cases h; exact .base .non
  | bl b => cases h; exact .base (.bl b)
  | int i => cases h; exact .base (.int i)
  | str z => cases h; exact .base (.str z)
  | ref p =>
    unfold tyN at h
    simp only at h
    split at h
    · rename_i xs e; cases h; exact .base (.lst e)
    · rename_i xs e; cases h; exact .base (.tup e)
    · rename_i xs e; cases h; exact .base (.dK e)
    · cases h
  | _ => cases h
theorem tyN_lst {H : Hp} {p : Addr} {xs : List V} (h : H p = some (.lst xs)) : tyN H (.ref p) = some "list" := by unfold tyN; simp only [h]
theorem tyN_tup {H : Hp} {p : Addr} {xs : List V} (h : H p = some (.tup xs)) : tyN H (.ref p) = some "tuple" := by unfold tyN; simp only [h]
theorem tyN_dK {H : Hp} {p : Addr} {xs : List (Key × V)} (h : H p = some (.dK xs)) : tyN H (.ref p) = some "dict" := by unfold tyN; simp only [h]
/-- whether the first type is one of the second -/
def isaB (t c : String) : Bool := t == c || (t == "bool" && c == "int")
theorem kit_isaB {t c : String} (ht : t ∈ ["NoneType", "bool", "int", "str", "list", "tuple", "dict"]) (hc : c ∈ ["bool", "int", "str", "list", "tuple"]) : kitB t c = some (isaB t c) := by
  simp only [List.mem_cons, List.not_mem_nil, or_false] at ht hc
  rcases ht with rfl | rfl | rfl | rfl | rfl | rfl | rfl <;> rcases hc with rfl | rfl | rfl | rfl | rfl <;> decide +kernel
theorem tyN_in {H : Hp} {v : V} {t : String} (h : tyN H v = some t) : t ∈ ["NoneType", "bool", "int", "str", "list", "tuple", "dict"] := by
  unfold tyN at h
  split at h
  · cases h; decide
  · cases h; decide
  · cases h; decide
  · cases h; decide
  · split at h
    · cases h; decide
    · cases h; decide
    · cases h; decide
    · cases h
  · cases h
section
variable {X : Cx} {p p2 pos : Pos} {e : Expr} {te : TE} {c : Str} {cs : String}
/-- a reading that may be weakened -/
def tMono (te : TE) : TE := fun σ H Q => ∃ Q0 : VK, te σ H Q0 ∧ ∀ x H1, Q0 x H1 → Q x H1
theorem pe_mono (he : PE X e te) : PE X e (tMono te) := ⟨fun pins s σ H Q I ⟨Q0, q, m⟩ => thn (he.run pins s σ H Q0 I q) fun u s1 ⟨v, H1, J, r, z⟩ => ⟨v, H1, J, r, m v H1 z⟩⟩
/-- isinstance(e, T), T a built-in type's name: told by the tracked heap -/
def tIsT (c : String) (te : TE) : TE := fun σ H Q => te σ H fun x H1 => ∃ t, tyN H1 x = some t ∧ Q (.bl (isaB t c)) H1
theorem Blt.isT (B : Blt X.mg) (he : PE X e te) (hc : PE X (.Name c p2) (tC (.ty cs))) (hm : cs ∈ ["bool", "int", "str", "list", "tuple"] := by decide) (hg : Gl X "isinstance" := by rfl) (hs : starEach [e, .Name c p2] X.env = (false, eval e X.env) :: starEach [.Name c p2] X.env := by rfl)
    (hs2 : starEach [.Name c p2] X.env = (false, eval (.Name c p2) X.env) :: starEach [] X.env := by rfl) (hpl : (backTo pos (starEach [.Name c p2] X.env)).any (·.1) = false := by rfl) :
    PE X (.Call (.Name "isinstance" p) [e, .Name c p2] [] pos) (tIsT cs te) := by
  have h := Blt.isi (p := p) (pos := pos) B (pa_cons (pe_mono he) (pa_cons hc pa_nil hs2) hs) hg hs hpl
  exact ⟨fun pins s σ H Q I q => h.run pins s σ H Q I ⟨_, q, fun x H1 ⟨t, h1, h2⟩ => ⟨x, .ty cs, .type t, .type cs, isaB t cs, rfl, .ty cs, tyN_ok h1, kit_ty (kit_isaB (tyN_in h1) hm), h2⟩⟩⟩
end
theorem tyN_ref {H : Hp} {p : Addr} {t : String} (h : tyN H (.ref p) = some t) : t = "list" ∨ t = "tuple" ∨ t = "dict" := by
  unfold tyN at h
  simp only at h
  split at h
  · cases h; exact .inl rfl
  · cases h; exact .inr (.inl rfl)
  · cases h; exact .inr (.inr rfl)
  · cases h
theorem isa_str {H : Hp} {v : V} {t : String} (h : tyN H v = some t) (q : isaB t "str" = true) : ∃ z, v = .str z := by
  cases v with
  | str z => exact ⟨z, rfl⟩
  | ref p => rcases tyN_ref h with rfl | rfl | rfl <;> exact absurd q (by decide)
  | _ => cases h <;> exact absurd q (by decide)
theorem isa_int {H : Hp} {v : V} {t : String} (h : tyN H v = some t) (q : isaB t "int" = true) : (∃ z, v = .int z) ∨ ∃ b, v = .bl b := by
  cases v with
  | int z => exact .inl ⟨z, rfl⟩
  | bl b => exact .inr ⟨b, rfl⟩
  | ref p => rcases tyN_ref h with rfl | rfl | rfl <;> exact absurd q (by decide)
  | _ => cases h <;> exact absurd q (by decide)
theorem isaB_all : isaB "NoneType" "bool" = false ∧ isaB "NoneType" "int" = false ∧ isaB "NoneType" "str" = false ∧ isaB "NoneType" "list" = false ∧ isaB "NoneType" "tuple" = false ∧
  isaB "bool" "bool" = true ∧ isaB "bool" "int" = true ∧ isaB "bool" "str" = false ∧ isaB "bool" "list" = false ∧ isaB "bool" "tuple" = false ∧
  isaB "int" "bool" = false ∧ isaB "int" "int" = true ∧ isaB "int" "str" = false ∧ isaB "int" "list" = false ∧ isaB "int" "tuple" = false ∧
  isaB "str" "bool" = false ∧ isaB "str" "int" = false ∧ isaB "str" "str" = true ∧ isaB "str" "list" = false ∧ isaB "str" "tuple" = false ∧
  isaB "list" "bool" = false ∧ isaB "list" "int" = false ∧ isaB "list" "str" = false ∧ isaB "list" "list" = true ∧ isaB "list" "tuple" = false ∧
  isaB "tuple" "bool" = false ∧ isaB "tuple" "int" = false ∧ isaB "tuple" "str" = false ∧ isaB "tuple" "list" = false ∧ isaB "tuple" "tuple" = true ∧
  isaB "dict" "bool" = false ∧ isaB "dict" "int" = false ∧ isaB "dict" "str" = false ∧ isaB "dict" "list" = false ∧ isaB "dict" "tuple" = false := by decide
theorem tyN_non {H : Hp} : tyN H .non = some "NoneType" := rfl
theorem tyN_bl {H : Hp} {b : Bool} : tyN H (.bl b) = some "bool" := rfl
theorem tyN_int {H : Hp} {b : Int} : tyN H (.int b) = some "int" := rfl
theorem tyN_str {H : Hp} {b : Str} : tyN H (.str b) = some "str" := rfl
theorem ixN_20 : ixN 2 0 = some 0 := rfl
theorem ixN_21 : ixN 2 1 = some 1 := rfl
theorem ixN_10 : ixN 1 0 = some 0 := rfl
theorem at0 {α : Type} {a : α} {l : List α} : atI (a :: l) 0 = some a := atI_nat (j := 0) rfl
theorem at1 {α : Type} {a b : α} {l : List α} : atI (a :: b :: l) 1 = some b := atI_nat (j := 1) rfl
theorem gsOf {env : Env} {scope : Scope} {x : Str} (h : (match scope.kind with | .function => true | _ => false) && !scope.isCoroutine && (scope.names.all fun y => match y.2 with | .cell => false | .free => false | _ => true) && (match scope.names.lookup (".0" : Str) with | some .local => true | _ => false) = true)
    (hx : (match scope.names.lookup x with | some .local => true | _ => false) = true) : GxR.GenS env scope x := by
  simp only [Bool.and_eq_true, List.all_eq_true] at h
  obtain ⟨⟨⟨h1, h2⟩, h3⟩, h4⟩ := h
  refine ⟨?_, by simpa using h2, fun y hy e => ?_, ?_, ?_, fun y hy e => ?_⟩
  · split at h1
    · assumption
    · cases h1
  · have := h3 y hy; rw [e] at this; cases this
  · split at h4
    · assumption
    · cases h4
  · split at hx
    · assumption
    · cases hx
  · have := h3 y hy; rw [e] at this; cases this
/-- the empty text joins -/
theorem joinL_nil : ∀ l : List (List Nat), TL.joinL [] l = l.flatten
  | [] => rfl
  | [p] => by simp [TL.joinL]
  | p :: q :: r => by
    show p ++ ([] ++ TL.joinL [] (q :: r)) = _
    rw [joinL_nil (q :: r)]
    simp
theorem tl_joinE (ys : List Str) : TL.tl (Txt.join (Str.ofString "") ys) = (ys.map TL.tl).flatten := by
  rw [TL.join_eq, TL.tl_join]
  exact joinL_nil _
/-- one-sign texts -/
def sgs (cs : List Nat) : List Str := cs.map fun c => (⟨#[c]⟩ : Str)
theorem sgs_sum (cs : List Nat) : ((sgs cs).map (·.length)).sum = cs.length := by
  unfold sgs
  rw [List.map_map]
  induction cs with
  | nil => rfl
  | cons c r ih => rw [List.map_cons, List.sum_cons, ih]; show 1 + r.length = r.length + 1; omega
theorem sgs_len (cs : List Nat) : (sgs cs).length = cs.length := List.length_map _
end SC
/-! all(test for mark in text), the test one that reads built-ins and globals too -/
namespace SC
open PySem PySem.Spec PyProof.Rows L2
open GxR (TabB TabG Tabbed Ready GenS keeps_tok trF trF_some all_signs inv_tab sh_eta)
/-- what the element may lean on: the module's names, the built-ins -/
structure Names2 (h : Heap) (mg : Str → Option Value) : Prop where
  glob : h.Ns mainGlobals mg
  blt : ∃ mb, h.Ns builtinsNs mb ∧ ∀ x : Str, x ≠ "__name__" → mb x = bootBuiltins x
def EltX (prog : Program) (w : World) (mg : Str → Option Value) (scope : Scope) (x : Str) (elt : Expr) (pb : Nat → Bool) : Prop :=
  ∀ (ce : Env) (A' : Around) (E' : Value → Shared → Prop) (c : Nat) (t : Tok) (s2 : Shared) (m2 : Str → Option Value), ce.scope = scope → ce.globals = mainGlobals → ce.builtins = builtinsNs → Names2 s2.heap mg →
    s2.heap.Ns ce.locals m2 → m2 x = some (.str ⟨#[c]⟩ t) → wpAny (model prog w) A' (eval elt ce) (fun y s3 => y = .bool (pb c) ∧ Keeps s2 s3) E' s2
section
variable {X : Cx} {pins : List (Addr × Obj)} {σ : L2.St} {H : Hp} {s : Shared}
theorem gen_mk {c P : Addr} {elt iter : Expr} {x : Str} {px gpos : Pos} {scope : Scope} {pb : Nat → Bool} {te : TE} {k : Nat} {Q' : Value → Shared → Prop} {R : Str → Hp → Prop}
    (hr : Room k X.A) (TB : TabB X.base X.mg c P) (hcode : X.env.code = .ref c) (S : GenS X.env scope x) (hi : PE X iter te) (hel : EltX X.prog X.w X.mg scope x elt pb)
    (hs : ∀ v, genFold iter X.env v = pure v) (I : Inv X pins σ H s) (h : te σ H fun v H1 => ∃ a : Str, v = .str a ∧ TabG H1 P ∧ R a H1)
    (hQ : ∀ a H1 g s5, R a H1 → Ready X pins σ H1 P a pb g s5 → Q' (.ref g) s5) :
    wpAny (model X.prog X.w) X.A (eval (.GeneratorExp elt [⟨.Name x px, iter, [], 0⟩] scope gpos) X.env) Q' X.xe s := by
  refine wpAny_GeneratorExp_walksQ hr.hd S.co (closure_ok S.free) S.cell S.dot S.loc S.kind (by have := hr.dp; omega) ?_ hs
  refine thn (hi.run pins s σ H _ I h) fun xv t1 ⟨v, H1, J, rv, a, ev, ⟨ps, hP, htr⟩, hR⟩ => ?_
  subst ev
  obtain ⟨tk1, rfl⟩ := rv
  refine wpAny_pyIter_str fun o St W hst => ?_
  have hPs : t1.heap.get? P = some { cls := .none, data := .fields ps } := J.hok P _ hP
  have hPlt := Heap.lt_size hPs
  have up : ∀ b u, t1.heap.get? b = some u → (t1.heap.push o).get? b = some u := fun b u e => Heap.get?_push_of_some _ e
  have cd : PySem.W.CodeHd (t1.heap.push o) c P := TB.code.keeps fun b u e => up b u (J.bk b u e)
  have lim : (t1.heap.push o).NoLimit := J.nolimit.push o
  have hclt : cStatics < t1.heap.objs.size := let ⟨_, hn, _⟩ := J.nolimit; hn.lt
  have hsz1 : (t1.heap.push o).objs.size = t1.heap.objs.size + 1 := Heap.size_push ..
  refine ⟨lim, ?_⟩
  have go : ∀ (code : Value) (h3 : Heap) (tk : Nat) (qs : Array Value), Heap.ExtBut P (t1.heap.push o) h3 → (t1.heap.push o).objs.size ≤ h3.objs.size → h3.get? P = some { cls := .none, data := .fields qs } →
      (∃ more, qs = ps ++ more) → TriplesOk qs.toList →
      wpAny (model X.prog X.w) X.A (builtinsFor X.env.globals X.env.builtins) (fun bi s4 =>
        ∃ Ia fp wr n0 Pf St0 pz F, Value.ref t1.heap.objs.size = .ref Ia ∧ (∀ A' : Around, A'.handled = none → Walks X.prog X.w A' Ia fp wr n0 Pf St0) ∧ St0 0 s4.heap ∧ (∀ b ∈ fp, b < s4.heap.objs.size) ∧ s4.heap.NoLimit ∧ cStatics ∉ wr ∧
          (∀ href : Heap, (∀ b o, s4.heap.get? b = some o → href.get? b = some o) →
            QuietGen X.prog X.w (genEnv scope (cloFrom X.env.cells scope.names []) s4.heap.objs.size code bi X.env) x [] elt (List.range s4.heap.objs.size) wr Pf pz F href) ∧
          (∀ g h5 tk5 gs, gs.bare = true → s4.heap.objs.size < g → h5.objs.size = g + 1 → (∀ b o, s4.heap.get? b = some o → h5.get? b = some o) →
            WalksS X.prog X.w X.A.in4 g (g :: s4.heap.objs.size :: List.range s4.heap.objs.size) (s4.heap.objs.size :: wr) (GenOnlyQ s4.gens.size) (passing pz n0 0).length
              (fun j y => ∃ i, (passing pz n0 0)[j]? = some i ∧ F i y) (GenAt X.prog X.w X.A.in4 g s4.gens.size s4.heap.objs.size (List.range s4.heap.objs.size) wr pz n0 F) →
            GenAt X.prog X.w X.A.in4 g s4.gens.size s4.heap.objs.size (List.range s4.heap.objs.size) wr pz n0 F 0 { s4 with gens := s4.gens.push gs, toks := tk5, heap := h5 } →
            Q' (.ref g) { s4 with gens := s4.gens.push gs, toks := tk5, heap := h5 })) X.xe { t1 with heap := h3, toks := tk } := by
    intro code h3 tk qs hx hsz hP3 hmore htq
    obtain ⟨bm, ob, e1, e2, e3, e4, e5, e6, e7, e8⟩ := TB.bm
    have ncP : cStatics ≠ P := fun e => by
      obtain ⟨_, hns, _⟩ := J.nolimit
      obtain ⟨o', es, ep, ho, hd, _⟩ := hns
      rw [e, hPs] at ho
      cases ho; cases hd
    have nbP : (builtinsNs : Addr) ≠ P := fun e => by
      obtain ⟨mb, hns, _⟩ := J.mod.blt
      obtain ⟨o', es, ep, ho, hd, _⟩ := hns
      have ho := J.bk _ _ ho
      rw [e, hPs] at ho
      cases ho; cases hd
    have k3 : ∀ b u, b ≠ P → t1.heap.get? b = some u → h3.get? b = some u := fun b u hb e => hx b u hb (up b u e)
    refine wpAny_builtinsFor (m := X.mg) (by rw [J.ok.glob]; exact ((J.mod.glob.keeps J.bk).push o).extBut hx TB.gP) e1 e2 (k3 _ _ e4 (J.bk _ _ e5)) e6 e7 e8 ?_
    refine ⟨t1.heap.objs.size, [t1.heap.objs.size], [t1.heap.objs.size], a.cps.size, SignAt a, St, (fun _ => true), (fun i y => ∃ cc, a.cps[i]? = some cc ∧ y = .bool (pb cc)), rfl, W, ?_, ?_, lim.extBut hx ncP, ?_, ?_, ?_⟩
    · refine (W X.A hr.hd).frame _ _ _ hst fun b hb u e => hx b u (fun z => ?_) e
      rcases List.mem_cons.mp hb with y | y
      · exact Nat.ne_of_lt hPlt (z.symm.trans y)
      · cases y
    · intro b hb
      rcases List.mem_cons.mp hb with z | z
      · rw [z]
        show t1.heap.objs.size < h3.objs.size
        omega
      · cases z
    · intro z
      rcases List.mem_cons.mp z with z | z
      · exact Nat.ne_of_lt hclt z
      · cases z
    · intro href hh
      refine ⟨fun A' E' i v s2 m2 hA hv hn hm hk => ?_, fun A' E' i v s2 m2 hA hv hp hn hm hk => ?_⟩
      · simp only [List.forIn_nil]
        exact wpAny_pure ⟨rfl, GxR.keeps_refl _⟩
      · obtain ⟨cc, u, hcc, rfl⟩ := hv
        have old : ∀ L, L ≠ P → ∀ q, X.base.get? L = some q → s2.heap.get? L = some q := fun L nL q e => by
          have e1 := J.bk _ _ e
          have l1 := Heap.lt_size e1
          have e2 := k3 L q nL e1
          refine hk L (List.mem_range.mpr (Heap.lt_size e2)) (fun z => ?_) q (hh L q e2)
          rcases List.mem_cons.mp z with z | z
          · rw [z] at l1; exact Nat.lt_irrefl _ l1
          · cases z
        have nm : Names2 s2.heap X.mg := ⟨J.mod.glob.at (old mainGlobals TB.gP), let ⟨mb, q1, q2⟩ := J.mod.blt; ⟨mb, q1.at (old builtinsNs nbP), q2⟩⟩
        exact wpAny_mono (hel (genEnv scope (cloFrom X.env.cells scope.names []) h3.objs.size code builtinsNs X.env) A' E' cc u s2 m2 rfl J.ok.glob rfl nm hn hm) (fun y s3 r => ⟨⟨cc, hcc, r.1⟩, r.2⟩) fun _ _ e => e
    · intro g h5 tk5 gs hgb hag hsz5 hk5 W5 hat
      simp only [GxR.passing_true, List.length_range] at W5
      refine hQ a H1 g _ hR ⟨_, _, _, _, _, W5.in4_1, hat, ?_, fun s' hm => ?_⟩
      · intro j y sj Qj Ej hy hQj
        obtain ⟨i, hij, cc, hcc, rfl⟩ := hy
        obtain ⟨hj, ej⟩ := List.getElem?_eq_some_iff.mp hij
        rw [List.getElem_range] at ej
        subst ej
        have e9 : a.cps.toList[j]? = some cc := by rw [Array.getElem?_toList]; exact hcc
        have hQ2 : Qj (trF pb a.cps.toList j) sj := hQj
        rw [trF_some e9] at hQ2
        exact wpAny_truthy_bool hQ2
      · obtain ⟨more, em⟩ := hmore
        have nwr : ∀ b u, t1.heap.get? b = some u → b ∉ h3.objs.size :: [t1.heap.objs.size] := fun b u e hb => by
          have hl : b < t1.heap.objs.size := Heap.lt_size e
          rcases List.mem_cons.mp hb with z | z
          · rw [z] at hl
            exact absurd hl (Nat.not_lt.mpr (show t1.heap.objs.size ≤ h3.objs.size by omega))
          · rcases List.mem_cons.mp z with z | z
            · rw [z] at hl
              exact Nat.lt_irrefl _ hl
            · cases z
        have J2 := inv_tab (more := more) (h' := s'.heap) (g' := s'.gens) (d' := s'.drawn) (t' := s'.toks) J hP (fun b u hb e => hm.heap b u (nwr b u e) (hk5 b u (k3 b u hb e)))
          (by rw [← em]; exact hm.heap P _ (nwr P _ hPs) (hk5 P _ hP3)) (AllBare.movedS (J.bare.push hgb) hm)
        rw [sh_eta t1 s' hm.os] at J2
        refine ⟨upd H1 P (.tbl (ps ++ more)), ⟨⟨ps ++ more, upd_same, by rw [← em]; exact htq⟩, fun b hb => upd_ne hb⟩, J2⟩
  cases hf : codeAmong gpos ps.toList with
  | none =>
    refine wpAny_genexprCodeX hcode (cd.code (up _ _ hPs) htr) (cd.tab (up _ _ hPs)) hf fun c' h' tk hx hge hlt hco' _ htab' _ => ?_
    obtain ⟨o1, vs, f1, tf, fl, tg, inF, tx, tt, op, _, _, _, _, _, _, _, _, _, hz, _⟩ := hco'
    exact go _ h' tk _ hx (Nat.le_trans hge (Nat.le_of_lt hlt)) htab'.2 ⟨_, rfl⟩ hz
  | some cv =>
    refine wpAny_genexprCode_hit hcode (cd.code (up _ _ hPs) htr) hf ?_
    exact go cv (t1.heap.push o) t1.toks ps (Heap.ExtBut.refl _ _) (Nat.le_refl _) (up _ _ hPs) ⟨#[], by simp⟩ htr
theorem pe_allX {c P : Addr} {elt iter : Expr} {x : Str} {px p pos gpos : Pos} {scope : Scope} {pb : Nat → Bool} {te : TE} {k : Nat}
    (hr : Room k X.A) (B : Blt X.mg) (TB : TabB X.base X.mg c P) (hcode : X.env.code = .ref c) (S : GenS X.env scope x) (hi : PE X iter te) (hel : EltX X.prog X.w X.mg scope x elt pb)
    (hs : ∀ v, genFold iter X.env v = pure v) (hg : Gl X "all" := by rfl)
    (he : starEach [.GeneratorExp elt [⟨.Name x px, iter, [], 0⟩] scope gpos] X.env = (false, eval (.GeneratorExp elt [⟨.Name x px, iter, [], 0⟩] scope gpos) X.env) :: starEach [] X.env := by rfl) :
    PE X (.Call (.Name "all" p) [.GeneratorExp elt [⟨.Name x px, iter, [], 0⟩] scope gpos] [] pos) (GxR.tAllS P pb te) := by
  refine ⟨fun pins s σ H Q I h => ?_⟩
  refine wpAny_Call_Name_kw (ld_blt I hg B.all (show bootBuiltins "all" = some (.builtin "all") by decide +kernel) ?_)
  refine PyProof.Rows.callWith_builtin1 ?_ he (by rfl)
  rw [he]
  show wpAny _ _ (spliced ((false, eval (.GeneratorExp elt [⟨.Name x px, iter, [], 0⟩] scope gpos) X.env) :: backTo pos (starEach [] X.env))) _ _ s
  refine Calls.spliced_cons (gen_mk (R := fun a H1 => ∀ H2, Tabbed P H1 H2 → Q (.bl (a.cps.toList.all pb)) H2) hr TB hcode S hi hel hs I h fun a H1 g t5 hR hG => ?_)
  obtain ⟨fp, wr, G, F, St, W, hst, htr, hI⟩ := hG
  refine Calls.spliced_nil (call_all_walkS (W.self 0 _ _ _ hst ⟨g, fp, wr, G, _, F, St, _, rfl, W, hst, htr, fun s' hmv => ?_⟩))
  obtain ⟨H2, hT, J⟩ := hI s' hmv
  refine ⟨.bl _, H2, J, rfl, ?_⟩
  rw [all_signs a pb]
  exact hR H2 hT
end
/-- a sign that the document calls printable -/
def prc (c : Nat) : Bool := decide (32 ≤ c) && decide (c ≤ 126) && !decide (c = 37)
def prn (z : Str) : Bool := z.cps.toList.all prc
theorem one_lt {a b : Nat} : ([a] < [b]) ↔ a < b := by
  constructor
  · intro h
    cases h with
    | rel h => exact h
    | cons h => cases h
  · intro h
    exact List.Lex.rel h
theorem elt_prn {prog : Program} {w : World} {mg : Str → Option Value} {scope : Scope} {j1 j2 : Nat} {q1 q2 q3 q4 q5 q6 q7 q8 q9 q10 : Pos} {t37 : Tok} (B : Blt mg) (h37 : mg "_BARRED_CODE" = some (.int 37 t37))
    (hk : scope.kind = .function) (hl : scope.names.lookup ("mark" : Str) = some .local) (h1 : scope.names.lookup ("ord" : Str) = some .globalImplicit) (h2 : scope.names.lookup ("_BARRED_CODE" : Str) = some .globalImplicit) :
    EltX prog w mg scope "mark" (.BoolOp .And [.Compare (.Constant (.str " ") j1 q1) [.LtE, .LtE] [.Name "mark" q2, .Constant (.str "~") j2 q3] q4,
      .Compare (.Call (.Name "ord" q5) [.Name "mark" q6] [] q7) [.NotEq] [.Name "_BARRED_CODE" q8] q9] q10) prc := by
  intro ce A' E' c t s2 m2 hs hg hb nm hn hm
  have ld : ∀ {Q : Value → Shared → Prop} {p : Pos} {s3 : Shared}, (∃ tk, s3 = { s2 with toks := tk }) → Q (.str ⟨#[c]⟩ t) s3 → wpAny (model prog w) A' (eval (.Name "mark" p) ce) Q E' s3 := by
    rintro Q p s3 ⟨tk, rfl⟩ h
    exact wpAny_Name (wpAny_loadName_local (by rw [hs]; exact hk) (show ce.scope.names.lookup ("mark" : Str) = some .local by rw [hs]; exact hl) hn hm h) (by decide)
  have fin : ∀ {b : Bool} {tk : Nat}, b = prc c → (fun y s3 => y = Value.bool (prc c) ∧ Keeps s2 s3) (.bool b) { s2 with toks := tk } := fun e => ⟨by rw [e], keeps_tok _ _⟩
  refine BoolOp_and ?_
  refine Compare_chain (Calls.Constant_str (chain_link (ld ⟨_, rfl⟩ (PySem.P.le_str ?_))))
  have e1 : (!decide ((⟨#[c]⟩ : Str).cps.toList < (Str.ofString " ").cps.toList)) = decide (32 ≤ c) := by
    show (!decide ([c] < [32])) = _
    rw [decide_eq_decide.mpr (one_lt (a := c) (b := 32))]
    by_cases h : c < 32
    · rw [decide_eq_true h, decide_eq_false (by omega)]; rfl
    · rw [decide_eq_false h, decide_eq_true (by omega)]; rfl
  rw [e1]
  refine wpAny_truthy_bool ?_
  by_cases c1 : 32 ≤ c
  · rw [decide_eq_true c1]
    refine ite_tt (chain_last (Calls.Constant_str (PySem.P.le_str ?_)))
    have e2 : (!decide ((Str.ofString "~").cps.toList < (⟨#[c]⟩ : Str).cps.toList)) = decide (c ≤ 126) := by
      show (!decide ([126] < [c])) = _
      rw [decide_eq_decide.mpr (one_lt (a := 126) (b := c))]
      by_cases h : c ≤ 126
      · rw [decide_eq_true h, decide_eq_false (by omega)]; rfl
      · rw [decide_eq_false h, decide_eq_true (by omega)]; rfl
    rw [e2]
    refine wpAny_truthy_bool ?_
    by_cases c2 : c ≤ 126
    · rw [decide_eq_true c2]
      refine ite_tt (BoolOp_one (wpAny_Compare1 ?_))
      obtain ⟨mb, n1, n2⟩ := nm.blt
      refine wpAny_Call_Name_kw (Calls.Name_function_global (by rw [hs]; exact hk) (show ce.scope.names.lookup ("ord" : Str) = some .globalImplicit by rw [hs]; exact h1) (Calls.loadGlobal_builtin (by rw [hg]; exact nm.glob) B.ord (by rw [hb]; exact n1) ((n2 "ord" (by decide)).trans (show bootBuiltins "ord" = some (.builtin "ord") by decide +kernel)) ?_) (by decide))
      refine PyProof.Rows.callWith_builtin1 ?_ (by rfl) (by rfl)
      refine Calls.spliced_cons (ld ⟨_, rfl⟩ (Calls.spliced_nil (PyProof.Rows.ord_of_one rfl ?_)))
      refine Calls.Name_function_global (by rw [hs]; exact hk) (show ce.scope.names.lookup ("_BARRED_CODE" : Str) = some .globalImplicit by rw [hs]; exact h2) (Calls.loadGlobal_global (by rw [hg]; exact nm.glob) h37 ?_) (by decide)
      refine ne_int (fin ?_)
      show (((c : Int)) != 37) = (decide (32 ≤ c) && decide (c ≤ 126) && !decide (c = 37))
      rw [decide_eq_true c1, decide_eq_true c2]
      by_cases c3 : c = 37
      · subst c3; rfl
      · rw [decide_eq_false c3]
        have : ((c : Int) != 37) = true := bne_iff_ne.mpr (by omega)
        rw [this]; rfl
    · rw [decide_eq_false c2]
      refine ite_ff (fin ?_)
      simp [prc, c2]
  · rw [decide_eq_false c1]
    refine ite_ff (wpAny_truthy_bool (ite_ff (fin ?_)))
    simp [prc, c1]
end SC
/-! the end of a law's row whose text holds generator expressions: the tables out of the top -/
namespace SC
open PySem PySem.Spec PyProof.Rows L2 LamX
theorem walk_tab {l : PySem.W.OpenLaw} {n k : Nat} {q : Program} {loose : List Str} {XP : (Str → Option Value) → Heap → Prop} {YP : World → Heap → Prop} {d : DefRec} {K : Params → PySem.W.Frag} {CX : World → CXT} {x : Str}
    (hn : l.most = some n) (hn2 : n ≤ sizeLine) (hdf : d.params.defaults = []) (hr : Room k callerA) (hY : ∀ (w : World) (h : Heap), YP w h → (K w.params).In h)
    (hCX : ∀ (w : World) (H : Hp) (s : Shared) (e : Value) (s' : Shared), CX w [] H s (fun _ _ _ => False) e s' → False)
    (F : ∀ (w : World) (mg mb : Str → Option Value) (lo : List Str) (mean : ExcName → Option Value) (fa : Addr) (h : Heap), Top q lo mean mg mb h → (K w.params).In h → h.Ns mainGlobals mg → mg d.name = some (.ref fa) → LawAtS l w (K w.params) (CX w) k n x mg fa h) :
    PySem.W.WalkO q loose XP YP l.row.toRowW d [] (fun f vs => PySem.call f vs) := by
  refine Att.attach_callB hn hdf fun w s0 s1 mg mb fa o pm cd doc a vs ns G Y ho hd hcd hmg hobj hints hlen hbits hg => ?_
  have KX := hY w _ Y
  obtain ⟨fd, cs, sp, hT, nT, C, hb, hsp, hF⟩ := F w mg mb _ _ fa _ G.T KX G.T.g hmg
  exact law_callTs KX G.T.g G.T.b G.T.builtins G.T.nolimit hg hT nT C G.T.bmain hobj hints (Nat.le_trans hlen hn2) hr hF hb (fun H hH hS => hsp H a ns hlen hbits hH hS) fun H e s' => hCX w H s1 e s'
theorem tab_mk {q : Program} {lo : List Str} {mean : ExcName → Option Value} {mg mb : Str → Option Value} {h : Heap} {K : PySem.W.Frag} {d : DefRec} {x : Str} {f c P : Addr} {fd : FuncData} {oc cc : Value} {od dc : Option Addr} {sl sc : Array (Option Value)} {vs : Array Value}
    (T : Top q lo mean mg mb h) (X : K.In h) (hr : (recsOf q).find? (fun e => e.name == x) = some d) (a : PySem.W.nsIn K mainGlobals x = some (some (.ref f))) (l : K.lookup f = some ⟨oc, od, .func fd, sl⟩) (hc : fd.code = .ref c)
    (lc : K.lookup c = some ⟨cc, dc, .fields vs, sc⟩) (hv : vs[11]? = some (.ref P)) : PySem.W.CodeHd h c P ∧ h.get? P = some (PySem.W.tabObj #[]) := by
  refine PySem.W.tab_of T X hr ?_
  unfold PySem.W.tabIn
  rw [a]
  simp only [l, hc, lc, hv]
/-- a law's state: the table may have grown, the stream stands, all else that was there is as it was -/
structure LS (Pt st : Addr) (H0 H : Hp) : Prop where
  k : Kp [Pt] H0 H
  g : GxR.TabG H Pt
  s : Strm H st
  g0 : GxR.TabG H0 Pt
  fr : H0 st = none
section
variable {Pt st p : Addr} {H0 H H' : Hp} {K : PySem.W.Frag}
theorem LS.ne (L : LS Pt st H0 H) : st ≠ Pt := L.s.nT L.g
theorem LS.take (L : LS Pt st H0 H) (k : Kp [st] H H') (s : Strm H' st) : LS Pt st H0 H' :=
  ⟨Kp.drop L.fr ((L.k.mono fun b hb => List.mem_cons_of_mem _ hb).trans (k.mono fun b hb => by rw [List.mem_singleton.mp hb]; exact List.mem_cons_self)), tabG_kp L.g k (by simpa using L.ne.symm), s, L.g0, L.fr⟩
theorem LS.prn (L : LS Pt st H0 H) (k : Kp [Pt] H H') (g : GxR.TabG H' Pt) : LS Pt st H0 H' := ⟨L.k.trans k, g, L.s.kp k (by simpa using L.ne), L.g0, L.fr⟩
theorem LS.new (L : LS Pt st H0 H) (h : H p = none) (o : HO) : LS Pt st H0 (upd H p o) :=
  ⟨L.k.trans (Kp.new h o), tabG_kp L.g (Kp.new h o : Kp [] _ _) (by simp), L.s.kp (Kp.new h o : Kp [] _ _) (by simp), L.g0, L.fr⟩
theorem LS.kp0 (L : LS Pt st H0 H) (k : Kp [] H H') : LS Pt st H0 H' := ⟨L.k.trans (k.mono fun b hb => absurd hb (by simp)), tabG_kp L.g k (by simp), L.s.kp k (by simp), L.g0, L.fr⟩
theorem seq_tab {a : Addr} {xs : List V} (k : Kp [Pt] H0 H) (g0 : GxR.TabG H0 Pt) (h : SqL K H0 a xs) : SqL K H a xs := by
  obtain ⟨ps, e, _⟩ := g0
  rcases h with (h | ⟨o, h⟩) | h
  · exact .inl (.inl (k.keep _ _ (by simpa using ne_of h e (by intro z; cases z)) h))
  · exact .inl (.inr ⟨o, k.keep _ _ (by simpa using ne_of h e (by intro z; cases z)) h⟩)
  · exact .inr h
theorem LS.seq {a : Addr} {xs : List V} (L : LS Pt st H0 H) (h : SqL K H0 a xs) : SqL K H a xs := seq_tab L.k L.g0 h
theorem Kp.get1 {b : Addr} {o : HO} (k : Kp [Pt] H H') (g : GxR.TabG H Pt) (h : H b = some o) (no : ∀ ps, o ≠ .tbl ps := by intro ps z; cases z) : H' b = some o := by
  obtain ⟨ps, e, _⟩ := g
  exact k.keep b o (by simpa using ne_of h e (no ps)) h
theorem tyN_kp {v : V} {t : String} (k : Kp [Pt] H H') (g : GxR.TabG H Pt) (h : tyN H v = some t) : tyN H' v = some t := by
  cases v with
  | ref p =>
    unfold tyN at h
    simp only at h
    split at h
    · rename_i xs q; cases h; exact tyN_lst (k.get1 g q)
    · rename_i xs q; cases h; exact tyN_tup (k.get1 g q)
    · rename_i xs q; cases h; exact tyN_dK (k.get1 g q)
    · cases h
  | _ => exact h
end
end SC
/-! canonical texts: the values as trees, what encode writes, what decode reads: plain Lean -/
namespace SC
open PySem L2
/-- a value as a tree; oth: what is neither an int nor a text nor a tuple -/
inductive Tr where
  | int (n : Int) | str (z : Str) | tup (ts : List Tr) | oth (v : V)
mutual
inductive Rep (H : Hp) : V → Tr → Prop
  | int (i : Int) : Rep H (.int i) (.int i)
  | str (z : Str) : Rep H (.str z) (.str z)
  | tup {a : Addr} {xs : List V} {ts : List Tr} : H a = some (.tup xs) → RepAll H xs ts → Rep H (.ref a) (.tup ts)
  | oth {v : V} {t : String} : tyN H v = some t → t ≠ "int" → t ≠ "str" → t ≠ "tuple" → Rep H v (.oth v)
inductive RepAll (H : Hp) : List V → List Tr → Prop
  | nil : RepAll H [] []
  | cons {v : V} {vs : List V} {t : Tr} {ts : List Tr} : Rep H v t → RepAll H vs ts → RepAll H (v :: vs) (t :: ts)
end
theorem Rep.ty {H : Hp} {v : V} {t : Tr} (h : Rep H v t) : ∃ s, tyN H v = some s := by
  cases h with
  | int => exact ⟨_, rfl⟩
  | str => exact ⟨_, rfl⟩
  | tup e _ => exact ⟨_, tyN_tup e⟩
  | oth e _ _ _ => exact ⟨_, e⟩
theorem RepAll.len {H : Hp} : ∀ {xs : List V} {ts : List Tr}, RepAll H xs ts → xs.length = ts.length
  | _, _, .nil => rfl
  | _, _, .cons _ h => congrArg (· + 1) h.len
theorem RepAll.app {H : Hp} : ∀ {xs ys : List V} {ts us : List Tr}, RepAll H xs ts → RepAll H ys us → RepAll H (xs ++ ys) (ts ++ us)
  | _, _, _, _, .nil, h => h
  | _, _, _, _, .cons a b, h => .cons a (b.app h)
theorem RepAll.get {H : Hp} : ∀ {xs : List V} {ts : List Tr} {i : Nat} {x : V}, RepAll H xs ts → xs[i]? = some x → ∃ t, ts[i]? = some t ∧ Rep H x t
  | _, _, _, _, .nil, h => by simp at h
  | _, _, 0, _, .cons a _, h => by
    have e := Option.some.inj h
    subst e
    exact ⟨_, rfl, a⟩
  | _, _, i + 1, _, .cons _ b, h => b.get (i := i) h
mutual
theorem Rep.kp {Pt : Addr} {H H' : Hp} (k : Kp [Pt] H H') (g : GxR.TabG H Pt) : ∀ {v : V} {t : Tr}, Rep H v t → Rep H' v t
  | _, _, .int i => .int i
  | _, _, .str z => .str z
  | _, _, .tup e h => .tup (k.tup _ _ e) (h.kp k g)
  | v, _, .oth e a b c => .oth (tyN_kp k g e) a b c
theorem RepAll.kp {Pt : Addr} {H H' : Hp} (k : Kp [Pt] H H') (g : GxR.TabG H Pt) : ∀ {vs : List V} {ts : List Tr}, RepAll H vs ts → RepAll H' vs ts
  | _, _, .nil => .nil
  | _, _, .cons a b => .cons (a.kp k g) (b.kp k g)
end
/-- the digits of a number -/
abbrev dig (n : Nat) : List Nat := TL.numL n
mutual
/-- the canonical text, its codes -/
def txt : Tr → List Nat
  | .int n => dig n.toNat ++ [46]
  | .str z => dig z.length ++ 58 :: TL.tl z
  | .tup ts => 91 :: (txts ts ++ [93])
  | .oth _ => []
def txts : List Tr → List Nat
  | [] => []
  | t :: ts => txt t ++ txts ts
end
mutual
/-- plain, tuples nested at most n deep -/
def pl (n : Nat) : Tr → Bool
  | .int i => decide (0 ≤ i) && decide (i ≤ 99999999999999999999)
  | .str z => prn z
  | .tup ts => match n with
    | 0 => false
    | m + 1 => pls m ts
  | .oth _ => false
def pls (n : Nat) : List Tr → Bool
  | [] => true
  | t :: ts => pl n t && pls n ts
end
mutual
/-- no tuple's text within is too long -/
def fit : Tr → Bool
  | .tup ts => fits ts && decide ((txts ts).length + 2 ≤ 100000)
  | _ => true
def fits : List Tr → Bool
  | [] => true
  | t :: ts => fit t && fits ts
end
mutual
/-- texts of a size that Python's may have -/
def sml : Tr → Bool
  | .str z => decide (z.length ≤ 10000000)
  | .tup ts => smls ts && decide (ts.length ≤ 1000000)
  | _ => true
def smls : List Tr → Bool
  | [] => true
  | t :: ts => sml t && smls ts
end
theorem txts_app : ∀ (ts us : List Tr), txts (ts ++ us) = txts ts ++ txts us
  | [], _ => rfl
  | t :: ts, us => by
    show txt t ++ txts (ts ++ us) = (txt t ++ txts ts) ++ txts us
    rw [txts_app ts us, List.append_assoc]
theorem pls_app (n : Nat) : ∀ (ts us : List Tr), pls n (ts ++ us) = (pls n ts && pls n us)
  | [], us => by simp [pls]
  | t :: ts, us => by
    show (pl n t && pls n (ts ++ us)) = ((pl n t && pls n ts) && pls n us)
    rw [pls_app n ts us, Bool.and_assoc]
theorem fits_app : ∀ (ts us : List Tr), fits (ts ++ us) = (fits ts && fits us)
  | [], us => by simp [fits]
  | t :: ts, us => by
    show (fit t && fits (ts ++ us)) = ((fit t && fits ts) && fits us)
    rw [fits_app ts us, Bool.and_assoc]
mutual
theorem fit_of : ∀ (t : Tr), (txt t).length ≤ 100000 → fit t = true
  | .int _, _ => rfl
  | .str _, _ => rfl
  | .oth _, _ => rfl
  | .tup ts, h => by
    have h : (91 :: (txts ts ++ [93])).length ≤ 100000 := h
    rw [List.length_cons, List.length_append] at h
    have h : (txts ts).length + 1 + 1 ≤ 100000 := h
    show (fits ts && decide ((txts ts).length + 2 ≤ 100000)) = true
    rw [fits_of ts (by omega), decide_eq_true (by omega)]
    rfl
theorem fits_of : ∀ (ts : List Tr), (txts ts).length ≤ 100000 → fits ts = true
  | [], _ => rfl
  | t :: ts, h => by
    have h : (txt t ++ txts ts).length ≤ 100000 := h
    rw [List.length_append] at h
    show (fit t && fits ts) = true
    rw [fit_of t (by omega), fits_of ts (by omega)]
    rfl
end
/-! ### reading -/
def isD (c : Nat) : Bool := decide (48 ≤ c) && decide (c ≤ 57)
def val (l : List Nat) : Nat := NumText.digitsVal l
/-- a number's digits that decode takes -/
def goodD (d : List Nat) : Bool := !d.isEmpty && decide (d.length ≤ 20) && !(d.head? == some 48 && !(d == [48]))
/-- a number or a text at the head of l -/
def leaf (l : List Nat) : Option (Tr × List Nat) :=
  if goodD (l.takeWhile isD) = true then
    match l.dropWhile isD with
    | 46 :: r => some (.int (val (l.takeWhile isD)), r)
    | 58 :: r => if val (l.takeWhile isD) ≤ r.length then some (.str ⟨(r.take (val (l.takeWhile isD))).toArray⟩, r.drop (val (l.takeWhile isD))) else none
    | _ => none
  else none
/-- items up to the closing bracket -/
def items (p : List Nat → Option (Tr × List Nat)) : Nat → List Nat → Option (List Tr × List Nat)
  | 0, _ => none
  | f + 1, l => match l with
    | 93 :: r => some ([], r)
    | l => match p l with
      | none => none
      | some (t, r) => match items p f r with
        | none => none
        | some (ts, r2) => some (t :: ts, r2)
/-- a value at the head of l, tuples nested at most n deep -/
def pval : Nat → List Nat → Option (Tr × List Nat)
  | 0, l => match l with
    | 91 :: _ => none
    | l => leaf l
  | n + 1, l => match l with
    | 91 :: r => match items (pval n) (r.length + 1) r with
      | none => none
      | some (ts, r2) => some (.tup ts, r2)
    | l => leaf l
/-! ### digits -/
theorem isD_iff {c : Nat} : isD c = true ↔ 48 ≤ c ∧ c ≤ 57 := by unfold isD; simp
theorem val_app (l : List Nat) (c : Nat) : val (l ++ [c]) = val l * 10 + (c - 48) := by
  unfold val NumText.digitsVal
  rw [List.foldl_append]
  rfl
theorem dig_isD (n : Nat) : ∀ c ∈ dig n, isD c = true := fun c hc => by
  have := TL.numL_digits n c hc
  exact isD_iff.mpr ⟨by omega, by omega⟩
theorem dig_zero : dig 0 = [48] := TL.numL_lt (by decide)
theorem val_dig (n : Nat) : val (dig n) = n := TL.numL_val n
theorem dig_val : ∀ (k : Nat) (d : List Nat), d.length = k → d ≠ [] → (∀ c ∈ d, isD c = true) → (d.head? ≠ some 48 ∨ d = [48]) → dig (val d) = d
  | 0, d, hk, h, _, _ => absurd (List.length_eq_zero_iff.mp hk) h
  | k + 1, d, hk, h, hd, h0 => by
    obtain ⟨e, c, rfl⟩ : ∃ e c, d = e ++ [c] := ⟨d.dropLast, d.getLast h, (List.dropLast_concat_getLast h).symm⟩
    have hc := isD_iff.mp (hd c (List.mem_append_right _ (List.mem_singleton.mpr rfl)))
    rw [val_app]
    by_cases he : e = []
    · subst he
      show dig (val [] * 10 + (c - 48)) = [c]
      have z : val [] = 0 := rfl
      rw [z, Nat.zero_mul, Nat.zero_add]
      have q := TL.numL_lt (n := c - 48) (by omega)
      rw [show 48 + (c - 48) = c by omega] at q
      exact q
    · have hl : e.length = k := by rw [List.length_append] at hk; simpa using hk
      obtain ⟨a, e', rfl⟩ := List.exists_cons_of_ne_nil he
      have ha : a ≠ 48 := by
        intro z
        subst z
        rcases h0 with q | q
        · exact q rfl
        · have := congrArg List.length q
          simp at this
      have ih := dig_val k (a :: e') hl he (fun c hc => hd c (List.mem_append_left _ hc)) (.inl (by simpa using ha))
      have pos : 1 ≤ val (a :: e') := by
        by_cases q : val (a :: e') = 0
        · rw [q, dig_zero] at ih
          injection ih with z1 _
          exact absurd z1.symm ha
        · omega
      have st := TL.numL_step (n := val (a :: e') * 10 + (c - 48)) (by omega)
      show TL.numL _ = _
      rw [st, show (val (a :: e') * 10 + (c - 48)) / 10 = val (a :: e') by omega, show 48 + (val (a :: e') * 10 + (c - 48)) % 10 = c by omega]
      rw [show TL.numL (val (a :: e')) = a :: e' from ih]
theorem dig_head : ∀ (n : Nat), (dig n).head? = some 48 → dig n = [48] := by
  intro n
  induction n using Nat.strongRecOn with
  | _ n ih =>
    intro h
    by_cases c : n < 10
    · have e := TL.numL_lt c
      have h : (TL.numL n).head? = some 48 := h
      rw [e] at h
      have : 48 + n = 48 := by simpa using h
      have : n = 0 := by omega
      subst this
      exact dig_zero
    · have e := TL.numL_step (n := n) (by omega)
      have h : (TL.numL n).head? = some 48 := h
      rw [e] at h
      have h2 : (dig (n / 10)).head? = some 48 := by
        have ne := TL.numL_ne (n / 10)
        obtain ⟨a, r, q⟩ := List.exists_cons_of_ne_nil ne
        rw [q] at h
        show (TL.numL (n / 10)).head? = _
        rw [q]
        simpa using h
      have z := ih (n / 10) (by omega) h2
      have v := val_dig (n / 10)
      rw [z] at v
      have : n / 10 = 0 := v.symm
      omega
theorem goodD_dig {n : Nat} (h : n < 10 ^ 20) : goodD (dig n) = true := by
  have ne := TL.numL_ne n
  have len : (dig n).length ≤ 20 := TL.numL_len (by decide) h
  unfold goodD
  rw [show (dig n).isEmpty = false by rw [List.isEmpty_eq_false_iff]; exact ne, decide_eq_true len]
  cases e : ((dig n).head? == some 48) with
  | false => rfl
  | true =>
    have := dig_head n (by simpa using e)
    rw [this]
    rfl
theorem take_dig {n c : Nat} (r : List Nat) (hc : isD c = false) : (dig n ++ c :: r).takeWhile isD = dig n ∧ (dig n ++ c :: r).dropWhile isD = c :: r := by
  have key : ∀ (d : List Nat), (∀ x ∈ d, isD x = true) → (d ++ c :: r).takeWhile isD = d ∧ (d ++ c :: r).dropWhile isD = c :: r := by
    intro d
    induction d with
    | nil => intro _; simp [List.takeWhile, List.dropWhile, hc]
    | cons x d ih =>
      intro h
      have hx := h x List.mem_cons_self
      obtain ⟨i1, i2⟩ := ih fun y hy => h y (List.mem_cons_of_mem _ hy)
      simp [List.takeWhile, List.dropWhile, hx, i1, i2]
  exact key _ (dig_isD n)
theorem leaf_int {n : Nat} (h : n < 10 ^ 20) (r : List Nat) : leaf (dig n ++ 46 :: r) = some (.int n, r) := by
  obtain ⟨t1, t2⟩ := take_dig (n := n) (c := 46) r (by decide)
  unfold leaf
  rw [t1, t2, if_pos (goodD_dig h), val_dig]
  rfl
theorem leaf_str {z : Str} (h : z.length < 10 ^ 20) (r : List Nat) : leaf (dig z.length ++ 58 :: (TL.tl z ++ r)) = some (.str z, r) := by
  obtain ⟨t1, t2⟩ := take_dig (n := z.length) (c := 58) (TL.tl z ++ r) (by decide)
  unfold leaf
  have hl : (TL.tl z).length = z.length := (TL.len_tl z).symm
  rw [t1, t2, if_pos (goodD_dig h), val_dig]
  simp only
  rw [if_pos (by rw [List.length_append]; omega), ← hl, List.take_left, List.drop_left, TL.mk_tl]
theorem dig_first (n : Nat) : ∃ a r, dig n = a :: r ∧ 48 ≤ a ∧ a ≤ 57 := by
  obtain ⟨a, r, e⟩ := List.exists_cons_of_ne_nil (TL.numL_ne n)
  have := isD_iff.mp (dig_isD n a (by rw [show dig n = a :: r from e]; exact List.mem_cons_self))
  exact ⟨a, r, e, this.1, this.2⟩
/-- a text's first sign -/
theorem txt_first {n : Nat} : ∀ {t : Tr}, pl n t = true → ∃ a r, txt t = a :: r ∧ (a = 91 ∨ (48 ≤ a ∧ a ≤ 57))
  | .int i, _ => by
    obtain ⟨a, r, e, h1, h2⟩ := dig_first i.toNat
    exact ⟨a, r ++ [46], by show dig i.toNat ++ [46] = _; rw [e]; rfl, .inr ⟨h1, h2⟩⟩
  | .str z, _ => by
    obtain ⟨a, r, e, h1, h2⟩ := dig_first z.length
    exact ⟨a, r ++ 58 :: TL.tl z, by show dig z.length ++ 58 :: TL.tl z = _; rw [e]; rfl, .inr ⟨h1, h2⟩⟩
  | .tup ts, _ => ⟨91, _, rfl, .inl rfl⟩
  | .oth _, h => by cases h
theorem pval_leaf {n : Nat} {l : List Nat} (h : ∀ r, l ≠ 91 :: r) : pval n l = leaf l := by
  cases n with
  | zero =>
    unfold pval
    split
    · rename_i r; exact absurd rfl (h r)
    · rfl
  | succ n =>
    unfold pval
    split
    · rename_i r; exact absurd rfl (h r)
    · rfl
theorem sml_str {z : Str} (h : sml (.str z) = true) : z.length < 10 ^ 20 := by
  have : z.length ≤ 10000000 := of_decide_eq_true h
  omega
mutual
/-- what encode wrote is read back -/
theorem pval_txt : ∀ (n : Nat) (t : Tr) (r : List Nat), pl n t = true → sml t = true → pval n (txt t ++ r) = some (t, r)
  | n, .int i, r, h, _ => by
    have h : (decide (0 ≤ i) && decide (i ≤ 99999999999999999999)) = true := h
    rw [Bool.and_eq_true, decide_eq_true_eq, decide_eq_true_eq] at h
    obtain ⟨a, q, e, h1, h2⟩ := dig_first i.toNat
    have e2 : txt (.int i) ++ r = dig i.toNat ++ 46 :: r := by show (dig i.toNat ++ [46]) ++ r = _; rw [List.append_assoc]; rfl
    rw [e2, pval_leaf (fun r' z => by rw [e] at z; injection z with z _; omega), leaf_int (by omega)]
    rw [show ((i.toNat : Nat) : Int) = i by omega]
  | n, .str z, r, _, hs => by
    obtain ⟨a, q, e, h1, h2⟩ := dig_first z.length
    have e2 : txt (.str z) ++ r = dig z.length ++ 58 :: (TL.tl z ++ r) := by show (dig z.length ++ 58 :: TL.tl z) ++ r = _; rw [List.append_assoc]; rfl
    rw [e2, pval_leaf (fun r' z => by rw [e] at z; injection z with z _; omega), leaf_str (sml_str hs)]
  | 0, .tup ts, _, h, _ => by cases h
  | n + 1, .tup ts, r, h, hs => by
    have h : pls n ts = true := h
    have hs : (smls ts && decide (ts.length ≤ 1000000)) = true := hs
    rw [Bool.and_eq_true] at hs
    have e2 : txt (.tup ts) ++ r = 91 :: (txts ts ++ 93 :: r) := by show 91 :: ((txts ts ++ [93]) ++ r) = _; rw [List.append_assoc]; rfl
    rw [e2]
    unfold pval
    simp only
    rw [items_txts n ts r ((txts ts ++ 93 :: r).length + 1) h hs.1 (by omega)]
  | _, .oth _, _, h, _ => by cases h
theorem items_txts : ∀ (n : Nat) (ts : List Tr) (r : List Nat) (f : Nat), pls n ts = true → smls ts = true → (txts ts ++ 93 :: r).length < f → items (pval n) f (txts ts ++ 93 :: r) = some (ts, r)
  | n, [], r, f, _, _, hf => by
    cases f with
    | zero => omega
    | succ f => rfl
  | n, t :: ts, r, f, h, hs, hf => by
    have h : (pl n t && pls n ts) = true := h
    have hs : (sml t && smls ts) = true := hs
    rw [Bool.and_eq_true] at h hs
    obtain ⟨a, q, e, ha⟩ := txt_first h.1
    have e2 : txts (t :: ts) ++ 93 :: r = txt t ++ (txts ts ++ 93 :: r) := by show (txt t ++ txts ts) ++ _ = _; rw [List.append_assoc]
    rw [e2] at hf ⊢
    rw [List.length_append, e, List.length_cons] at hf
    cases f with
    | zero => omega
    | succ f =>
      have p1 := pval_txt n t (txts ts ++ 93 :: r) h.1 hs.1
      have p2 := items_txts n ts r f h.2 hs.2 (by omega)
      unfold items
      rw [e] at p1 ⊢
      have ne : a ≠ 93 := by omega
      show (match a :: (q ++ (txts ts ++ 93 :: r)) with
        | 93 :: r => some ([], r)
        | l => match pval n l with
          | none => none
          | some (t, r) => match items (pval n) f r with
            | none => none
            | some (ts, r2) => some (t :: ts, r2)) = _
      split
      · rename_i z; injection z with z _; exact absurd z ne
      · have p1 : pval n (a :: (q ++ (txts ts ++ 93 :: r))) = some (t, txts ts ++ 93 :: r) := p1
        rw [p1]
        simp only
        rw [p2]
end
theorem val_lt : ∀ (d : List Nat), (∀ c ∈ d, isD c = true) → val d < 10 ^ d.length := by
  have key : ∀ (k : Nat) (d : List Nat), d.length = k → (∀ c ∈ d, isD c = true) → val d < 10 ^ k := by
    intro k
    induction k with
    | zero => intro d h _; rw [List.length_eq_zero_iff.mp h]; decide
    | succ k ih =>
      intro d h hd
      have ne : d ≠ [] := fun z => by rw [z] at h; cases h
      have e := (List.dropLast_concat_getLast ne).symm
      generalize d.dropLast = a at e
      generalize d.getLast ne = c at e
      subst e
      have hc := isD_iff.mp (hd c (List.mem_append_right _ (List.mem_singleton.mpr rfl)))
      have := ih a (by rw [List.length_append] at h; simpa using h) fun c hc => hd c (List.mem_append_left _ hc)
      rw [val_app, Nat.pow_succ]
      omega
  exact fun d h => key _ d rfl h
theorem goodD_iff {d : List Nat} (h : goodD d = true) : d ≠ [] ∧ d.length ≤ 20 ∧ (d.head? ≠ some 48 ∨ d = [48]) := by
  unfold goodD at h
  rw [Bool.and_eq_true, Bool.and_eq_true, decide_eq_true_eq] at h
  obtain ⟨⟨h1, h2⟩, h3⟩ := h
  refine ⟨fun z => (by rw [z] at h1; cases h1), h2, ?_⟩
  by_cases e : d = [48]
  · exact .inr e
  · left
    intro z
    rw [z] at h3
    have : (d == [48]) = false := by simpa using e
    rw [this] at h3
    cases h3
theorem takeD (l : List Nat) : ∀ c ∈ l.takeWhile isD, isD c = true := by
  induction l with
  | nil => intro c h; cases h
  | cons a l ih =>
    intro c h
    rw [List.takeWhile_cons] at h
    split at h
    · rename_i ha
      rcases List.mem_cons.mp h with rfl | h
      · exact ha
      · exact ih c h
    · cases h
/-- what leaf read, written -/
theorem leaf_back {n : Nat} {l r : List Nat} {t : Tr} (h : leaf l = some (t, r)) : l = txt t ++ r ∧ ((∀ c ∈ l, prc c = true) → pl n t = true) := by
  unfold leaf at h
  by_cases g : goodD (l.takeWhile isD) = true
  · rw [if_pos g] at h
    obtain ⟨g1, g2, g3⟩ := goodD_iff g
    have ad := takeD l
    have dv := dig_val _ _ rfl g1 ad g3
    have lt := val_lt _ ad
    have el : l = l.takeWhile isD ++ l.dropWhile isD := List.takeWhile_append_dropWhile.symm
    generalize hv : val (l.takeWhile isD) = v at h dv lt
    split at h
    · rename_i r' e
      cases h
      have lt2 : v < 10 ^ 20 := Nat.lt_of_lt_of_le lt (Nat.pow_le_pow_right (by decide) g2)
      refine ⟨?_, fun _ => ?_⟩
      · show l = (dig (v : Int).toNat ++ [46]) ++ r
        rw [Int.toNat_natCast, dv, List.append_assoc]
        rw [e] at el
        exact el
      · show (decide (0 ≤ (v : Int)) && decide ((v : Int) ≤ 99999999999999999999)) = true
        rw [decide_eq_true (by omega), decide_eq_true (by omega)]
        rfl
    · rename_i r' e
      split at h
      · rename_i hle
        cases h
        have ez : (⟨(r'.take v).toArray⟩ : Str).length = v := by
          show (r'.take v).toArray.size = v
          rw [List.size_toArray, List.length_take]
          omega
        refine ⟨?_, fun hp => ?_⟩
        · show l = (dig (⟨(r'.take v).toArray⟩ : Str).length ++ 58 :: r'.take v) ++ r'.drop v
          rw [ez, dv, List.append_assoc, List.cons_append, List.take_append_drop]
          rw [e] at el
          exact el
        · show prn ⟨(r'.take v).toArray⟩ = true
          unfold prn
          rw [List.all_eq_true]
          intro c hc
          refine hp c ?_
          rw [el, e]
          exact List.mem_append_right _ (List.mem_cons_of_mem _ (List.mem_of_mem_take hc))
      · cases h
    · cases h
  · rw [if_neg g] at h
    cases h
mutual
/-- what decode read is what encode writes -/
theorem pval_back : ∀ (n : Nat) (l r : List Nat) (t : Tr), pval n l = some (t, r) → l = txt t ++ r ∧ ((∀ c ∈ l, prc c = true) → pl n t = true)
  | 0, l, r, t, h => by
    unfold pval at h
    split at h
    · cases h
    · exact leaf_back h
  | n + 1, l, r, t, h => by
    unfold pval at h
    split at h
    · rename_i r'
      cases e : items (pval n) (r'.length + 1) r' with
      | none => rw [e] at h; cases h
      | some x =>
        obtain ⟨ts, r2⟩ := x
        rw [e] at h
        cases h
        obtain ⟨q1, q2⟩ := items_back n (r'.length + 1) r' r ts e
        refine ⟨?_, fun hp => q2 fun c hc => hp c (List.mem_cons_of_mem _ hc)⟩
        show 91 :: r' = 91 :: (txts ts ++ [93]) ++ r
        rw [q1, List.cons_append, List.append_assoc]
        rfl
    · exact leaf_back h
theorem items_back : ∀ (n f : Nat) (l r : List Nat) (ts : List Tr), items (pval n) f l = some (ts, r) → l = txts ts ++ 93 :: r ∧ ((∀ c ∈ l, prc c = true) → pls n ts = true)
  | _, 0, _, _, _, h => by cases h
  | n, f + 1, l, r, ts, h => by
    unfold items at h
    split at h
    · rename_i r'
      cases h
      exact ⟨rfl, fun _ => rfl⟩
    · cases e : pval n l with
      | none => rw [e] at h; cases h
      | some x =>
        obtain ⟨t, r1⟩ := x
        rw [e] at h
        simp only at h
        cases e2 : items (pval n) f r1 with
        | none => rw [e2] at h; cases h
        | some y =>
          obtain ⟨us, r2⟩ := y
          rw [e2] at h
          cases h
          obtain ⟨p1, p2⟩ := pval_back n l r1 t e
          obtain ⟨q1, q2⟩ := items_back n f r1 r us e2
          refine ⟨?_, fun hp => ?_⟩
          · show l = (txt t ++ txts us) ++ 93 :: r
            rw [p1, q1, List.append_assoc]
          · show (pl n t && pls n us) = true
            rw [p2 hp, q2 fun c hc => hp c (by rw [p1]; exact List.mem_append_right _ hc)]
            rfl
end
end SC
/-! own errors of the text -/
namespace SC
open PySem L2
/-- an own error class over ValueError without an __init__ -/
structure Err (K : PySem.W.Frag) (mg : Str → Option Value) (x : Str) (C : Addr) : Prop where
  g : mg x = some (.ref C)
  e : PySem.W.excIn K C [.type "ValueError", .type "Exception", .type "BaseException", .type "object"] "ValueError.__new__" = true
  k : PySem.W.keepIn K (.ref C) = true
  b : PySem.W.subIn K (.ref C) (.type "BaseException") = some true
  t : PySem.W.typeIn K (.ref C) = some (.type "type")
  i : PySem.W.isClsIn K C = true
  s : PySem.W.subIn K (.ref C) (.ref C) = some true
def tErr (C : Addr) (W : WX) : TS := fun _ σ H => W (.ref C) none σ H
theorem Err.raise {X : Cx} {W : WX} {x m : Str} {C : Addr} {j : Nat} {p p2 pos pos2 : Pos} (T : Err X.K X.mg x C) (tk : Takes X W) (hc : X.calm = true := by rfl) (hg : Gl X x := by rfl) (hdb : (x == ("__debug__" : Str)) = false := by decide) :
    PS X (.Raise (some (.Call (.Name x p) [.Constant (.str m) j p2] [] pos)) none pos2) (tErr C W) :=
  ps_raise hc tk (pmk_own PySem.F.excBase_ValueError T.e T.g T.k (raises_own T.b T.t) hg hdb)
theorem Err.em {K : PySem.W.Frag} {mg : Str → Option Value} {x : Str} {C : Addr} (T : Err K mg x C) : PySem.W.exmOne K (.ref C) (.ref C) = some true := by
  have e1 : (PySem.W.subIn K (.ref C) (.type "BaseException") == some true) = true := by rw [T.b]; rfl
  have e2 : ((PySem.W.clsIn K C).isSome && PySem.W.typeIn K (.ref C) == some (.type "type")) = true := by
    rw [show (PySem.W.clsIn K C).isSome = true from T.i, T.t]; rfl
  have e3 : PySem.W.kitCls K (.ref C) (.ref C) = some true := by
    show (if ((PySem.W.clsIn K C).isSome && PySem.W.typeIn K (.ref C) == some (.type "type")) = true then PySem.W.subIn K (.ref C) (.ref C) else none) = some true
    rw [if_pos e2]; exact T.s
  show (if (PySem.W.subIn K (.ref C) (.type "BaseException") == some true) = true then PySem.W.kitCls K (.ref C) (.ref C) else none) = some true
  rw [if_pos e1]; exact e3
/-- what a raising def's callees let out, handed on -/
theorem passX {X : Cx} {E : XK} {W : WX} (tk : Takes X W) (h : ∀ cls d σ H, E cls d H → W cls d σ H) : Passes (L2.CX X.prog X.w) X E := passes_call tk h
/-- a module's constant int -/
theorem pe_cI {X : Cx} {x : Str} {n : Int} {t : Tok} {p : Pos} (h : X.mg x = some (.int n t)) (hg : Gl X x := by rfl) (hd : (x == ("__debug__" : Str)) = false := by decide) : PE X (.Name x p) (tC (.int n)) :=
  pe_glob (v := .int n) hg h ⟨t, rfl⟩ hd
/-- c * n, c one sign -/
theorem op_mulS {X : Cx} : OpR X (binaryOp .Mult) (fun x y H Q => ∃ (c : Nat) (n : Int), x = .str ⟨#[c]⟩ ∧ y = .int n ∧ (0 ≤ n ∧ n ≤ 16000000) ∧ Q (.str ⟨(List.replicate n.toNat c).toArray⟩) H) := by
  intro pins s σ H x y v u Q I rx ry h
  obtain ⟨c, n, rfl, rfl, ⟨n0, n1⟩, q⟩ := h
  obtain ⟨t, rfl⟩ := rx
  obtain ⟨t', rfl⟩ := ry
  have lim : sizeLine = 16777216 := sizeLine_eq
  have fold : ∀ (k : Nat) (a : Array Nat), ((List.replicate k (#[c] : Array Nat)).foldl (· ++ ·) a).toList = a.toList ++ List.replicate k c := by
    intro k
    induction k with
    | zero => intro a; simp
    | succ k ih => intro a; rw [List.replicate_succ, List.foldl_cons, ih, Array.toList_append, List.replicate_succ]; simp
  have e : Txt.mul (⟨#[c]⟩ : Str) n = ⟨(List.replicate n.toNat c).toArray⟩ := by
    unfold Txt.mul
    by_cases h1 : n < 1
    · rw [if_pos h1]
      have : n.toNat = 0 := by omega
      rw [this]; rfl
    · rw [if_neg h1]
      by_cases h2 : n = 1
      · subst h2; rfl
      · have h3 : (n == 1 || (⟨#[c]⟩ : Str).length == 0) = false := by
          have : (n == 1) = false := by simpa using h2
          rw [this]; rfl
        rw [h3, if_neg Bool.false_ne_true]
        refine TL.ext_tl ?_
        show ((List.replicate n.toNat (#[c] : Array Nat)).foldl (· ++ ·) #[]).toList = _
        rw [fold]
        simp [TL.tl]
  refine PySem.SB.mul ⟨?_, fun h1 h2 => ?_, fun h1 h2 => ?_⟩ fun t' k => ?_
  · rw [decide_eq_false (by omega), decide_eq_false (by omega)]; rfl
  · show ¬ ((1 : Int) > (2 ^ 63 - 1) / n)
    have : (1 : Int) ≤ (2 ^ 63 - 1) / n := by
      rw [Int.le_ediv_iff_mul_le (by omega)]
      omega
    omega
  · show PySem.Builtin.Str.tooLong (1 * n.toNat) = false
    rw [Nat.one_mul]
    unfold PySem.Builtin.Str.tooLong
    simp only [decide_eq_false_iff_not]
    omega
  · rw [e]
    exact ⟨.str _, H, I.tok _, ⟨_, rfl⟩, q⟩
theorem dig_len {n : Nat} (h : n < 10 ^ 20) : (dig n).length ≤ 20 := TL.numL_len (by decide) h
theorem txt_size {n : Nat} : ∀ {t : Tr}, pl n t = true → fit t = true → sml t = true → (txt t).length ≤ 10000100
  | .int i, h, _, _ => by
    have h : (decide (0 ≤ i) && decide (i ≤ 99999999999999999999)) = true := h
    rw [Bool.and_eq_true, decide_eq_true_eq, decide_eq_true_eq] at h
    have := dig_len (n := i.toNat) (by omega)
    show (dig i.toNat ++ [46]).length ≤ _
    rw [List.length_append]
    show _ + 1 ≤ _
    omega
  | .str z, _, _, hs => by
    have h : z.length ≤ 10000000 := of_decide_eq_true hs
    have := dig_len (n := z.length) (by omega)
    show (dig z.length ++ 58 :: TL.tl z).length ≤ _
    rw [List.length_append, List.length_cons, ← TL.len_tl]
    omega
  | .tup ts, _, h, _ => by
    have h : (fits ts && decide ((txts ts).length + 2 ≤ 100000)) = true := h
    rw [Bool.and_eq_true, decide_eq_true_eq] at h
    show (91 :: (txts ts ++ [93])).length ≤ _
    rw [List.length_cons, List.length_append]
    show _ + 1 + 1 ≤ _
    omega
  | .oth _, h, _, _ => by cases h
theorem S_len (l : List Nat) : (⟨l.toArray⟩ : Str).length = l.length := by
  show l.toArray.size = _
  rw [List.size_toArray]
/-- str(n) -/
theorem toString_S (n : Nat) : Str.ofString (toString ((n : Nat) : Int)) = ⟨(dig n).toArray⟩ := TL.ext_tl (TL.tl_num n)
theorem log_small {i : Int} (h0 : 0 ≤ i) (h : i ≤ 99999999999999999999) : i.natAbs.log2 < 1920 := by
  by_cases z : i.natAbs = 0
  · rw [z]; decide
  · have := (Nat.log2_lt (k := 70) z).mpr (by omega)
    omega
theorem pls_mem {n : Nat} {t : Tr} : ∀ {ts : List Tr}, pls n ts = true → t ∈ ts → pl n t = true
  | u :: ts, h, m => by
    have h : (pl n u && pls n ts) = true := h
    rw [Bool.and_eq_true] at h
    rcases List.mem_cons.mp m with rfl | m
    · exact h.1
    · exact pls_mem h.2 m
theorem fits_mem {t : Tr} : ∀ {ts : List Tr}, fits ts = true → t ∈ ts → fit t = true
  | u :: ts, h, m => by
    have h : (fit u && fits ts) = true := h
    rw [Bool.and_eq_true] at h
    rcases List.mem_cons.mp m with rfl | m
    · exact h.1
    · exact fits_mem h.2 m
theorem smls_mem {t : Tr} : ∀ {ts : List Tr}, smls ts = true → t ∈ ts → sml t = true
  | u :: ts, h, m => by
    have h : (sml u && smls ts) = true := h
    rw [Bool.and_eq_true] at h
    rcases List.mem_cons.mp m with rfl | m
    · exact h.1
    · exact smls_mem h.2 m
theorem take_one {α : Type} {l : List α} {i : Nat} {x : α} (h : l[i]? = some x) : l.take (i + 1) = l.take i ++ [x] := by
  rw [List.take_add_one, h]; rfl
/-- the texts of items, as Python's texts -/
def tys (ts : List Tr) : List Str := ts.map fun t => (⟨(txt t).toArray⟩ : Str)
theorem tys_app (ts us : List Tr) : tys (ts ++ us) = tys ts ++ tys us := List.map_append
theorem tl_tys : ∀ ts : List Tr, TL.tl (Txt.join (Str.ofString "") (tys ts)) = txts ts := by
  intro ts
  rw [tl_joinE]
  induction ts with
  | nil => rfl
  | cons t ts ih =>
    show txt t ++ ((tys ts).map TL.tl).flatten = txt t ++ txts ts
    rw [ih]
theorem tys_sum : ∀ ts : List Tr, ((tys ts).map (·.length)).sum = (txts ts).length
  | [] => rfl
  | t :: ts => by
    show (⟨(txt t).toArray⟩ : Str).length + ((tys ts).map (·.length)).sum = (txt t ++ txts ts).length
    rw [tys_sum ts, S_len, List.length_append]
theorem take_le : ∀ (ts : List Tr) (i : Nat), (txts (ts.take i)).length ≤ (txts ts).length
  | [], i => by rw [List.take_nil]; exact Nat.le_refl _
  | t :: ts, 0 => Nat.zero_le _
  | t :: ts, i + 1 => by
    show (txt t ++ txts (ts.take i)).length ≤ (txt t ++ txts ts).length
    have := take_le ts i
    rw [List.length_append, List.length_append]
    omega
theorem TabG.ne_lst {Pt p : Addr} {H : Hp} {xs : List V} (g : GxR.TabG H Pt) (h : H p = some (.lst xs)) : p ≠ Pt := by
  obtain ⟨ps, e, _⟩ := g
  exact ne_of h e (by intro z; cases z)
theorem TabG.upd {Pt p : Addr} {H : Hp} {o : HO} (g : GxR.TabG H Pt) (n : p ≠ Pt) : GxR.TabG (upd H p o) Pt := by
  obtain ⟨ps, e, q⟩ := g
  exact ⟨ps, by rw [upd_ne (Ne.symm n)]; exact e, q⟩
end SC
/-! decode: what its readings want -/
namespace SC
open PySem L2
theorem no_oth : ∀ {n : Nat} {l r : List Nat} {v : V}, pval n l ≠ some (.oth v, r) := by
  have lf : ∀ {l r : List Nat} {v : V}, leaf l ≠ some (.oth v, r) := fun {l r v} h => by
    unfold leaf at h
    split at h
    · split at h
      · cases h
      · split at h <;> cases h
      · cases h
    · cases h
  intro n l r v h
  cases n with
  | zero =>
    unfold pval at h
    split at h
    · cases h
    · exact lf h
  | succ n =>
    unfold pval at h
    split at h
    · split at h <;> cases h
    · exact lf h
theorem pval_dec {n : Nat} {l r : List Nat} {t : Tr} (h : pval n l = some (t, r)) : r.length < l.length := by
  have e := (pval_back n l r t h).1
  have pos : 0 < (txt t).length := by
    cases t with
    | int i => show 0 < (dig i.toNat ++ [46]).length; rw [List.length_append]; show 0 < _ + 1; omega
    | str z => show 0 < (dig z.length ++ 58 :: TL.tl z).length; rw [List.length_append, List.length_cons]; omega
    | tup ts => show 0 < (91 :: (txts ts ++ [93])).length; rw [List.length_cons]; omega
    | oth v => exact absurd h no_oth
  rw [e, List.length_append]
  omega
theorem items_fuel {n : Nat} : ∀ (k : Nat) (l : List Nat) (f g : Nat), l.length = k → l.length < f → l.length < g → items (pval n) f l = items (pval n) g l := by
  intro k
  induction k using Nat.strongRecOn with
  | _ k ih =>
    intro l f g hk hf hg
    cases f with
    | zero => omega
    | succ f =>
      cases g with
      | zero => omega
      | succ g =>
        unfold items
        split
        · rfl
        · cases e : pval n l with
          | none => rfl
          | some x =>
            obtain ⟨t, r⟩ := x
            have := pval_dec e
            simp only
            rw [ih r.length (by omega) r f g rfl (by omega) (by omega)]
def itm (n : Nat) (l : List Nat) : Option (List Tr × List Nat) := items (pval n) (l.length + 1) l
theorem itm_close (n : Nat) (r : List Nat) : itm n (93 :: r) = some ([], r) := rfl
theorem itm_step {n : Nat} {l : List Nat} (h : l.head? ≠ some 93) : itm n l = match pval n l with
    | none => none
    | some (t, r) => (itm n r).map fun x => (t :: x.1, x.2) := by
  unfold itm
  cases l with
  | nil =>
    unfold items
    simp only
    cases e : pval n [] with
    | none => rfl
    | some x => obtain ⟨t, r⟩ := x; exact absurd (pval_dec e) (by simp)
  | cons a l =>
    have ha : a ≠ 93 := fun z => h (by rw [z]; rfl)
    rw [show items (pval n) ((a :: l).length + 1) (a :: l) = match pval n (a :: l) with
      | none => none
      | some (t, r) => match items (pval n) (a :: l).length r with
        | none => none
        | some (ts, r2) => some (t :: ts, r2) from by
      conv => lhs; unfold items
      split
      · rename_i z; injection z with z _; exact absurd z ha
      · rfl]
    cases e : pval n (a :: l) with
    | none => rfl
    | some x =>
      obtain ⟨t, r⟩ := x
      have := pval_dec e
      simp only
      rw [items_fuel r.length r (a :: l).length (r.length + 1) rfl (by omega) (by omega)]
      cases items (pval n) (r.length + 1) r with
      | none => rfl
      | some y => rfl
theorem pval_br (n : Nat) (r : List Nat) : pval (n + 1) (91 :: r) = (itm n r).map fun x => (.tup x.1, x.2) := by
  unfold pval itm
  simp only
  cases items (pval n) (r.length + 1) r with
  | none => rfl
  | some x => rfl
/-- a slice of a text by natural bounds -/
theorem cut_nat (z : Str) {a b : Nat} (h : a ≤ b) : TL.tl (cutS z (some (a : Int)) (some (b : Int))) = ((TL.tl z).drop a).take (b - a) := by
  show (z.cps.toList.drop (HT.sIx z.length 0 (some (a : Int)))).take (HT.sIx z.length z.length (some (b : Int)) - HT.sIx z.length 0 (some (a : Int))) = _
  have sx : ∀ (k d : Nat), HT.sIx z.length d (some (k : Int)) = min k z.length := fun k d => by
    show (if (k : Int) < 0 then ((k : Int) + (z.length : Int)).toNat else min (k : Int).toNat z.length) = _
    rw [if_neg (by omega), Int.toNat_natCast]
  rw [sx, sx]
  have el : z.cps.toList.length = z.length := (TL.len_tl z).symm
  by_cases ha : a ≤ z.length
  · rw [Nat.min_eq_left ha]
    by_cases hb : b ≤ z.length
    · rw [Nat.min_eq_left hb]
    · rw [Nat.min_eq_right (by omega), List.take_of_length_le (by rw [List.length_drop]; omega), List.take_of_length_le (by rw [List.length_drop, show (TL.tl z).length = z.length from el]; omega)]
  · rw [Nat.min_eq_right (by omega), Nat.min_eq_right (by omega), Nat.sub_self, List.take_zero]
    rw [List.drop_eq_nil_of_le (by rw [show (TL.tl z).length = z.length from el]; omega), List.take_nil]
theorem cut_one (z : Str) (a : Nat) : TL.tl (cutS z (some (a : Int)) (some ((a : Int) + 1))) = ((TL.tl z).drop a).take 1 := by
  have h := cut_nat z (a := a) (b := a + 1) (Nat.le_succ a)
  rw [show a + 1 - a = 1 by omega] at h
  exact h
/-- a one-sign slice compared with a sign -/
theorem one_sign_eq {x : Str} {d : List Nat} {c : Nat} (h : TL.tl x = d.take 1) : x = ⟨#[c]⟩ ↔ d.head? = some c := by
  constructor
  · intro e
    have e2 : TL.tl x = [c] := by rw [e]
    rw [h] at e2
    cases d with
    | nil => cases e2
    | cons a d => injection e2 with e2 _; rw [e2]; rfl
  · intro e
    cases d with
    | nil => cases e
    | cons a d =>
      have : a = c := Option.some.inj e
      subst this
      exact TL.ext_tl (by rw [h]; rfl)
section
variable {H H' : Hp}
theorem tyN_kp0 {v : V} {t : String} (k : Kp [] H H') (h : tyN H v = some t) : tyN H' v = some t := by
  cases v with
  | ref p =>
    unfold tyN at h
    simp only at h
    split at h
    · rename_i xs q; cases h; exact tyN_lst (k.keep _ _ (by simp) q)
    · rename_i xs q; cases h; exact tyN_tup (k.keep _ _ (by simp) q)
    · rename_i xs q; cases h; exact tyN_dK (k.keep _ _ (by simp) q)
    · cases h
  | _ => exact h
mutual
theorem Rep.kp0 (k : Kp [] H H') : ∀ {v : V} {t : Tr}, Rep H v t → Rep H' v t
  | _, _, .int i => .int i
  | _, _, .str z => .str z
  | _, _, .tup e h => .tup (k.tup _ _ e) (h.kp0 k)
  | _, _, .oth e a b c => .oth (tyN_kp0 k e) a b c
theorem RepAll.kp0 (k : Kp [] H H') : ∀ {vs : List V} {ts : List Tr}, RepAll H vs ts → RepAll H' vs ts
  | _, _, .nil => .nil
  | _, _, .cons a b => .cons (a.kp0 k) (b.kp0 k)
end
end
theorem takeWhile_take (l : List Nat) : l.take (l.takeWhile isD).length = l.takeWhile isD ∧ l.drop (l.takeWhile isD).length = l.dropWhile isD := by
  induction l with
  | nil => exact ⟨rfl, rfl⟩
  | cons a l ih =>
    cases h : isD a with
    | true => simp [List.takeWhile, List.dropWhile, h, ih.1, ih.2]
    | false => simp [List.takeWhile, List.dropWhile, h]
theorem tw_next : ∀ (D : List Nat) (k : Nat), k ≤ (D.takeWhile isD).length → (∃ c r, D.drop k = c :: r ∧ isD c = true ∧ k < (D.takeWhile isD).length) ∨ (k = (D.takeWhile isD).length ∧ (D.drop k = [] ∨ ∃ c r, D.drop k = c :: r ∧ isD c = false))
  | [], k, h => by
    have : k = 0 := Nat.le_zero.mp h
    subst this
    exact .inr ⟨rfl, .inl rfl⟩
  | a :: D, 0, h => by
    cases ha : isD a with
    | true => exact .inl ⟨a, D, rfl, ha, by simp [List.takeWhile, ha]⟩
    | false => exact .inr ⟨by simp [List.takeWhile, ha], .inr ⟨a, D, rfl, ha⟩⟩
  | a :: D, k + 1, h => by
    cases ha : isD a with
    | true =>
      have e : (a :: D).takeWhile isD = a :: D.takeWhile isD := by simp [List.takeWhile, ha]
      rw [e] at h ⊢
      have h : k + 1 ≤ (D.takeWhile isD).length + 1 := h
      rcases tw_next D k (by omega) with ⟨c, r, q1, q2, q3⟩ | ⟨q1, q2⟩
      · exact .inl ⟨c, r, q1, q2, by show k + 1 < _ + 1; omega⟩
      · exact .inr ⟨by show k + 1 = _ + 1; omega, q2⟩
    | false =>
      have e : (a :: D).takeWhile isD = [] := by simp [List.takeWhile, ha]
      rw [e] at h
      exact absurd h (by simp)
theorem lt48 {x : Str} {d : List Nat} (h : TL.tl x = d.take 1) : (x.cps.toList < (Str.ofString "0").cps.toList) ↔ (d = [] ∨ ∃ c r, d = c :: r ∧ c < 48) := by
  have e : (Str.ofString "0").cps.toList = [48] := by decide +kernel
  rw [e, show x.cps.toList = d.take 1 from h]
  cases d with
  | nil => exact ⟨fun _ => .inl rfl, fun _ => List.Lex.nil⟩
  | cons c r =>
    show ([c] < [48]) ↔ _
    rw [one_lt]
    constructor
    · intro q; exact .inr ⟨c, r, rfl, q⟩
    · rintro (q | ⟨c', r', q, q2⟩)
      · cases q
      · injection q with q _; rw [q]; exact q2
theorem lt57 {x : Str} {c : Nat} {r : List Nat} (h : TL.tl x = (c :: r).take 1) : ((Str.ofString "9").cps.toList < x.cps.toList) ↔ 57 < c := by
  have e : (Str.ofString "9").cps.toList = [57] := by decide +kernel
  rw [e, show x.cps.toList = [c] from h]
  exact one_lt
section
variable {H : Hp} {p : Addr} {xs ys : List V}
theorem tyN_updL (h : H p = some (.lst xs)) {v : V} {t : String} (e : tyN H v = some t) : tyN (upd H p (.lst ys)) v = some t := by
  cases v with
  | ref a =>
    by_cases c : a = p
    · subst c
      rw [tyN_lst h] at e
      rw [tyN_lst upd_same]
      exact e
    · unfold tyN at e ⊢
      simp only at e ⊢
      rw [upd_ne c]
      exact e
  | _ => exact e
mutual
theorem Rep.updL (h : H p = some (.lst xs)) : ∀ {v : V} {t : Tr}, Rep H v t → Rep (upd H p (.lst ys)) v t
  | _, _, .int i => .int i
  | _, _, .str z => .str z
  | _, _, .tup e q => .tup (by rw [upd_ne (ne_of e h (by intro z; cases z))]; exact e) (q.updL h)
  | _, _, .oth e a b c => .oth (tyN_updL h e) a b c
theorem RepAll.updL (h : H p = some (.lst xs)) : ∀ {vs : List V} {ts : List Tr}, RepAll H vs ts → RepAll (upd H p (.lst ys)) vs ts
  | _, _, .nil => .nil
  | _, _, .cons a b => .cons (a.updL h) (b.updL h)
end
end
end SC
/-! values that a law draws: their bounds -/
namespace SC
open PySem L2
mutual
/-- how many tuples -/
def nT : Tr → Nat
  | .tup ts => 1 + nTs ts
  | _ => 0
def nTs : List Tr → Nat
  | [] => 0
  | t :: ts => nT t + nTs ts
end
mutual
/-- drawn: small leaves, at most three items, at most n deep -/
def gd (n : Nat) : Tr → Bool
  | .int i => decide (0 ≤ i) && decide (i ≤ 99999999999999999999)
  | .str z => decide (z.length ≤ 105) && prn z
  | .tup ts => match n with
    | 0 => false
    | m + 1 => decide (ts.length ≤ 3) && gds m ts
  | .oth _ => false
def gds (n : Nat) : List Tr → Bool
  | [] => true
  | t :: ts => gd n t && gds n ts
end
mutual
theorem pl_mono : ∀ (n m : Nat) (t : Tr), n ≤ m → pl n t = true → pl m t = true
  | _, _, .int _, _, h => h
  | _, _, .str _, _, h => h
  | 0, _, .tup _, _, h => by cases h
  | n + 1, 0, .tup _, q, _ => by omega
  | n + 1, m + 1, .tup ts, q, h => pls_mono n m ts (by omega) h
  | _, _, .oth _, _, h => h
theorem pls_mono : ∀ (n m : Nat) (ts : List Tr), n ≤ m → pls n ts = true → pls m ts = true
  | _, _, [], _, _ => rfl
  | n, m, t :: ts, q, h => by
    have h : (pl n t && pls n ts) = true := h
    rw [Bool.and_eq_true] at h
    show (pl m t && pls m ts) = true
    rw [pl_mono n m t q h.1, pls_mono n m ts q h.2]
    rfl
end
mutual
/-- no other kind within: such values stand whatever lists change -/
def pure_ : Tr → Bool
  | .oth _ => false
  | .tup ts => pures ts
  | _ => true
def pures : List Tr → Bool
  | [] => true
  | t :: ts => pure_ t && pures ts
end
mutual
theorem pl_pure : ∀ (n : Nat) (t : Tr), pl n t = true → pure_ t = true
  | _, .int _, _ => rfl
  | _, .str _, _ => rfl
  | 0, .tup _, h => by cases h
  | n + 1, .tup ts, h => pls_pure n ts h
  | _, .oth _, h => by cases h
theorem pls_pure : ∀ (n : Nat) (ts : List Tr), pls n ts = true → pures ts = true
  | _, [], _ => rfl
  | n, t :: ts, h => by
    have h : (pl n t && pls n ts) = true := h
    rw [Bool.and_eq_true] at h
    show (pure_ t && pures ts) = true
    rw [pl_pure n t h.1, pls_pure n ts h.2]
    rfl
end
mutual
theorem Rep.any {S : List Addr} {H H' : Hp} (k : Kp S H H') : ∀ {v : V} {t : Tr}, Rep H v t → pure_ t = true → Rep H' v t
  | _, _, .int i, _ => .int i
  | _, _, .str z, _ => .str z
  | _, _, .tup e q, h => .tup (k.tup _ _ e) (q.any k h)
  | _, _, .oth _ _ _ _, h => by cases h
theorem RepAll.any {S : List Addr} {H H' : Hp} (k : Kp S H H') : ∀ {vs : List V} {ts : List Tr}, RepAll H vs ts → pures ts = true → RepAll H' vs ts
  | _, _, .nil, _ => .nil
  | _, t :: ts, .cons a b, h => by
    have h : (pure_ t && pures ts) = true := h
    rw [Bool.and_eq_true] at h
    exact .cons (a.any k h.1) (b.any k h.2)
end
mutual
/-- the law's own comparison -/
def same : Tr → Tr → Bool
  | .tup us, .tup ts => sames us ts
  | .str a, .str b => decide (a = b)
  | .int a, .int b => decide (a = b)
  | _, _ => false
def sames : List Tr → List Tr → Bool
  | [], [] => true
  | u :: us, t :: ts => same u t && sames us ts
  | _, _ => false
end
theorem dig_prc (n : Nat) : ∀ c ∈ dig n, prc c = true := fun c hc => by
  obtain ⟨h1, h2⟩ := isD_iff.mp (dig_isD n c hc)
  unfold prc
  rw [decide_eq_true (by omega), decide_eq_true (by omega), decide_eq_false (by omega)]
  rfl
mutual
theorem txt_prc : ∀ (n : Nat) (t : Tr), pl n t = true → ∀ c ∈ txt t, prc c = true
  | n, .int i, _, c, h => by
    rcases List.mem_append.mp (show c ∈ dig i.toNat ++ [46] from h) with h | h
    · exact dig_prc _ c h
    · rw [List.mem_singleton.mp h]; decide
  | n, .str z, hp, c, h => by
    rcases List.mem_append.mp (show c ∈ dig z.length ++ 58 :: TL.tl z from h) with h | h
    · exact dig_prc _ c h
    · rcases List.mem_cons.mp h with h | h
      · rw [h]; decide
      · have hp : prn z = true := hp
        unfold prn at hp
        exact List.all_eq_true.mp hp c h
  | 0, .tup ts, hp, c, h => by cases hp
  | n + 1, .tup ts, hp, c, h => by
    rcases List.mem_cons.mp (show c ∈ 91 :: (txts ts ++ [93]) from h) with h | h
    · rw [h]; decide
    · rcases List.mem_append.mp h with h | h
      · exact txts_prc n ts hp c h
      · rw [List.mem_singleton.mp h]; decide
  | _, .oth _, hp, _, _ => by cases hp
theorem txts_prc : ∀ (n : Nat) (ts : List Tr), pls n ts = true → ∀ c ∈ txts ts, prc c = true
  | _, [], _, c, h => by cases h
  | n, t :: ts, hp, c, h => by
    have hp : (pl n t && pls n ts) = true := hp
    rw [Bool.and_eq_true] at hp
    rcases List.mem_append.mp (show c ∈ txt t ++ txts ts from h) with h | h
    · exact txt_prc n t hp.1 c h
    · exact txts_prc n ts hp.2 c h
end
theorem txt_prn {n : Nat} {t : Tr} (h : pl n t = true) : prn ⟨(txt t).toArray⟩ = true := by
  unfold prn
  exact List.all_eq_true.mpr fun c hc => txt_prc n t h c (by simpa using hc)
end SC
namespace SC
open PySem L2 PyProof.Rows
theorem hexF (n : Nat) : PyProof.Rows.intField' { align := 62, type := some 120 } false [] ((Nat.toDigits 16 n).map fun c => (if (120 : Nat) == 88 then c.toUpper else c).toNat) [] 4 = ⟨((Nat.toDigits 16 n).map Char.toNat).toArray⟩ := by
  have e : ((Nat.toDigits 16 n).map fun c => (if (120 : Nat) == 88 then c.toUpper else c).toNat) = (Nat.toDigits 16 n).map Char.toNat := by
    apply List.map_congr_left
    intro c _
    rw [if_neg (by decide)]
  rw [e]
  unfold PyProof.Rows.intField'
  have hd : ((Nat.toDigits 16 n).map Char.toNat).isEmpty = false := by
    have := tDigits_len_ge 16 n
    cases h : Nat.toDigits 16 n with
    | nil => rw [h] at this; simp at this
    | cons _ _ => rfl
  generalize (Nat.toDigits 16 n).map Char.toNat = ds at hd ⊢
  simp [hd]
open PySem.W PySem.Calls Builtin Builtin.Str Builtin.Int Builtin.Float in
theorem fld_hex {prog : Program} {w : World} {A : Around} {E : Value → Shared → Prop} {s : Shared} {t : Tok} {n : Nat} {Q : Value → Shared → Prop} (hn : (Nat.toDigits 16 n).length ≤ 1000)
    (h : ∀ t' k, Q (.str ⟨((Nat.toDigits 16 n).map Char.toNat).toArray⟩ t') { s with toks := k }) : wpAny (model prog w) A (formatField (.int (n : Int) t) (PySem.Str.ofString "x")) Q E s := by
  refine PySem.W.KXf.field_int rfl (by decide) (by decide) ?_ h
  intro u
  apply PySem.W.KPc.meets_of
  intro p1 w1 A1 s1 Q1 E1 h1
  unfold Builtin.«int.__format__»
  have hne : ((Str.ofString "x").length == 0) = false := by decide
  have hasc : (((Str.ofString "x").cps.toList.drop 1).any (· ≥ 128) || ((Str.ofString "x").cps.getD 0 0 ≥ 128 && !([60, 62, 61, 94] : List Nat).contains ((Str.ofString "x").cps.getD 1 0))) = false := by decide
  simp only [selfAndOne, noKeywords, Int.intOfSelf, asInt?, asStr?, List.isEmpty_nil, if_true, pure_bind, bind_pure, bind_assoc, hne, hasc, Bool.false_eq_true, if_false,
    show (Value.str (Str.ofString "x") u == Value.none) = false from rfl]
  refine wpAny_bind (wpAny_typeNameOf (T := "str") (typeIs_str _ _ _) (by decide) fun _ => ?_)
  refine wpAny_bind (wpAny_typeNameOfCut_int ?_)
  have hp : parseFormatSpec (Str.ofString "x").cps.toList "int" 62 = .ok { align := 62, type := some 120 } := by rfl
  simp only [hp]
  rw [if_pos (show _ = true by decide)]
  conv => arg 3; whnf
  refine PySem.W.KXf.ret_text (T := ⟨((Nat.toDigits 16 n).map Char.toNat).toArray⟩) ?_ ?_ h1
  · show PyProof.Rows.intField' { align := 62, type := some 120 } (decide ((n : Int) < 0)) [] ((Nat.toDigits 16 ((n : Int)).natAbs).map fun c => (if (120 : Nat) == 88 then c.toUpper else c).toNat) [] 4 = _
    rw [decide_eq_false (by omega), Int.natAbs_natCast]
    exact hexF n
  · show (PyProof.Rows.intField' { align := 62, type := some 120 } (decide ((n : Int) < 0)) [] ((Nat.toDigits 16 ((n : Int)).natAbs).map fun c => (if (120 : Nat) == 88 then c.toUpper else c).toNat) [] 4).length ≤ sizeLine
    rw [decide_eq_false (by omega), Int.natAbs_natCast, hexF n]
    show ((Nat.toDigits 16 n).map Char.toNat).toArray.size ≤ _
    rw [List.size_toArray, List.length_map, sizeLine_eq]
    omega
section
variable {X : Cx}
/-- {n:x} of an int from 0 on -/
def tFmtX (te : TE) : TE := fun σ H Q => te σ H fun x H1 => ∃ n : Nat, x = .int (n : Int) ∧ (Nat.toDigits 16 n).length ≤ 1000 ∧ Q (.str ⟨((Nat.toDigits 16 n).map Char.toNat).toArray⟩) H1
theorem pe_fmtX {e : Expr} {te : TE} {j : Nat} {p1 p2 p3 : Pos} (he : PE X e te) : PE X (.FormattedValue e (-1) (some (.JoinedStr [.Constant (.str "x") j p1] p2)) p3) (tFmtX te) := by
  refine ⟨fun pins s σ H Q I h => ?_⟩
  refine wpAny_FormattedValue_spec (thn (he.run pins s σ H _ I h) fun v s1 hv => ?_)
  obtain ⟨x, H1, I1, r1, n, rfl, hz, q⟩ := hv
  obtain ⟨t, rfl⟩ := r1
  refine thn ((pe_joined1 pe_str).run pins s1 σ H1 (fun y H2 => H2 = H1 ∧ y = .str "x") I1 ⟨rfl, rfl⟩) fun r s2 hr => ?_
  obtain ⟨y, H2, I2, r2, rfl, rfl⟩ := hr
  obtain ⟨t2, rfl⟩ := r2
  exact ⟨_, t2, rfl, fld_hex hz fun t' k => ⟨.str _, H2, I2.tok _, ⟨_, rfl⟩, q⟩⟩
end
/-- a module's constant, its token left open -/
theorem pe_cE {X : Cx} {x : Str} {n : Int} {p : Pos} (h : ∃ t, X.mg x = some (.int n t)) (hg : Gl X x := by rfl) (hd : (x == ("__debug__" : Str)) = false := by decide) : PE X (.Name x p) (tC (.int n)) :=
  let ⟨t, h⟩ := h
  pe_glob (v := .int n) hg h ⟨t, rfl⟩ hd
theorem pe_cSE {X : Cx} {x : Str} {n : Str} {p : Pos} (h : ∃ t, X.mg x = some (.str n t)) (hg : Gl X x := by rfl) (hd : (x == ("__debug__" : Str)) = false := by decide) : PE X (.Name x p) (tC (.str n)) :=
  let ⟨t, h⟩ := h
  pe_glob (v := .str n) hg h ⟨t, rfl⟩ hd
/-! the digest: a number, its 18 hexadecimal signs -/
def dgD : Nat := 2361183241434822606617
def dgF (n c : Nat) : Nat := (n * 65599 + c) % dgD
def dgN (cs : List Nat) : Nat := cs.foldl dgF (cs.length + 1)
theorem fold_lt : ∀ (cs : List Nat) (a : Nat), a < dgD → cs.foldl dgF a < dgD
  | [], a, h => h
  | c :: cs, a, h => by
    rw [List.foldl_cons]
    exact fold_lt cs _ (Nat.mod_lt _ (by decide))
theorem dgN_lt (cs : List Nat) : dgN cs < dgD := by
  cases cs with
  | nil => decide
  | cons c cs => exact fold_lt cs _ (Nat.mod_lt _ (by decide))
/-- the place of a sign among the sixteen -/
def hxI (c : Nat) : Nat := if c ≤ 57 then c - 48 else c - 87
def hxs : List Nat := [48, 49, 50, 51, 52, 53, 54, 55, 56, 57, 97, 98, 99, 100, 101, 102]
def hxT (n : Nat) : List Nat := (Nat.toDigits 16 n).map Char.toNat
def hx18 (n : Nat) : List Nat := List.replicate (18 - (hxT n).length) 48 ++ hxT n
theorem hx_digit : ∀ d : Nat, d < 16 → hxI (Nat.digitChar d).toNat = d ∧ (Nat.digitChar d).toNat ∈ hxs := by decide
theorem hxT_snoc {m : Nat} (h : ¬ m < 16) : hxT m = hxT (m / 16) ++ [(Nat.digitChar (m % 16)).toNat] := by
  have hm : m % 16 < 16 := Nat.mod_lt m (by decide)
  have t : Nat.toDigits 16 (m / 16) ++ Nat.toDigits 16 (m % 16) = Nat.toDigits 16 (16 * (m / 16) + m % 16) := Nat.toDigits_append_toDigits (by decide) (by omega) hm
  rw [Nat.div_add_mod] at t
  unfold hxT
  rw [← t, List.map_append, Nat.toDigits_of_lt_base hm]
  rfl
theorem hxT_one {m : Nat} (h : m < 16) : hxT m = [(Nat.digitChar m).toNat] := by
  unfold hxT
  rw [Nat.toDigits_of_lt_base h]; rfl
theorem hxT_in (m : Nat) : ∀ c ∈ hxT m, c ∈ hxs := by
  induction m using Nat.strongRecOn with
  | _ m ih =>
    by_cases h : m < 16
    · rw [hxT_one h]
      intro c hc
      rw [List.mem_singleton.mp hc]
      exact (hx_digit m h).2
    · rw [hxT_snoc h]
      intro c hc
      rcases List.mem_append.mp hc with hc | hc
      · exact ih (m / 16) (by omega) c hc
      · rw [List.mem_singleton.mp hc]
        exact (hx_digit (m % 16) (Nat.mod_lt m (by decide))).2
theorem hxT_len {n : Nat} (h : n < dgD) : (hxT n).length ≤ 18 := by
  unfold hxT
  rw [List.length_map]
  exact PySem.StrLaws.toDigits_len (by decide) (Nat.lt_trans h (by decide))
theorem hx18_len {n : Nat} (h : n < dgD) : (hx18 n).length = 18 := by
  unfold hx18
  rw [List.length_append, List.length_replicate]
  have := hxT_len h
  omega
theorem hx18_in (n : Nat) : ∀ c ∈ hx18 n, c ∈ hxs := by
  intro c hc
  rcases List.mem_append.mp hc with hc | hc
  · rw [List.eq_of_mem_replicate hc]; decide
  · exact hxT_in n c hc
/-- the digest of a text -/
def dgs (z : Str) : Str := ⟨(hx18 (dgN z.cps.toList)).toArray⟩
theorem dgs_len (z : Str) : (dgs z).length = 18 := by
  show (hx18 _).toArray.size = 18
  rw [List.size_toArray]
  exact hx18_len (dgN_lt _)
theorem zfill_hx {n : Nat} (h : n < dgD) : PySem.Txt.zfill ⟨(hxT n).toArray⟩ 18 = ⟨(hx18 n).toArray⟩ := by
  have hl := hxT_len h
  unfold PySem.Txt.zfill
  have el : (⟨(hxT n).toArray⟩ : Str).length = (hxT n).length := by show (hxT n).toArray.size = _; rw [List.size_toArray]
  rw [el]
  split
  · have e : (hxT n).length = 18 := by omega
    unfold hx18
    rw [e]; rfl
  · have ne : ∀ c ∈ hxT n, c ≠ 43 ∧ c ≠ 45 := fun c hc => by
      have := hxT_in n c hc
      simp only [hxs, List.mem_cons, List.not_mem_nil, or_false] at this
      omega
    have e1 : zfilled ⟨(hxT n).toArray⟩ ((18 : Int).toNat - (hxT n).length) = Builtin.Str.padded ⟨(hxT n).toArray⟩ ((18 : Int).toNat - (hxT n).length) 0 48 := by
      unfold zfilled
      split
      · rename_i q; rw [List.getElem?_toArray] at q; exact absurd rfl (ne _ (List.mem_of_getElem? q)).1
      · rename_i q; rw [List.getElem?_toArray] at q; exact absurd rfl (ne _ (List.mem_of_getElem? q)).2
      · rfl
    rw [e1]
    unfold Builtin.Str.padded hx18
    simp [List.toArray_replicate]
end SC
/-! z[::-1] of a text -/
namespace SC
open PySem PySem.Spec PyProof.Rows L2
theorem cut_from (z : Str) (k : Nat) : TL.tl (cutS z (some (k : Int)) none) = (TL.tl z).drop k := by
  show (z.cps.toList.drop (HT.sIx z.length 0 (some (k : Int)))).take (HT.sIx z.length z.length none - HT.sIx z.length 0 (some (k : Int))) = _
  rw [HT.sIx_nat, HT.sIx_none]
  have e : z.cps.toList.length = z.length := Array.length_toList
  rw [List.take_of_length_le (by rw [List.length_drop, e]; omega)]
  show z.cps.toList.drop (min k z.length) = z.cps.toList.drop k
  by_cases h : k ≤ z.length
  · rw [Nat.min_eq_left h]
  · rw [Nat.min_eq_right (by omega), List.drop_eq_nil_of_le (by omega), List.drop_eq_nil_of_le (by omega)]
end SC
/-! all(test for mark in text), the test one that reads a captured text of the def around -/
namespace SC
open PySem PySem.Spec PyProof.Rows L2
open GxR (TabB TabG Tabbed Ready GenS keeps_tok trF trF_some all_signs inv_tab sh_eta)
/-- the element: a test of the sign c and of the text z that the def around keeps in a cell under the name y -/
def EltC (prog : Program) (w : World) (mg : Str → Option Value) (scope : Scope) (x y : Str) (elt : Expr) (pf : Str → Nat → Bool) : Prop :=
  ∀ (ce : Env) (A' : Around) (E' : Value → Shared → Prop) (c : Nat) (t : Tok) (s2 : Shared) (m2 : Str → Option Value) (z : Str) (tz : Tok) (cy : Addr), ce.scope = scope → ce.globals = mainGlobals → ce.builtins = builtinsNs → Names2 s2.heap mg →
    s2.heap.Ns ce.locals m2 → m2 x = some (.str ⟨#[c]⟩ t) → ce.cells.lookup y = some cy → s2.heap.IsCell cy (some (.str z tz)) → wpAny (model prog w) A' (eval elt ce) (fun v s3 => v = .bool (pf z c) ∧ Keeps s2 s3) E' s2
/-- the generator's scope: what can be read off it -/
structure GenS0 (scope : Scope) (x : Str) : Prop where
  kind : scope.kind = .function
  co : scope.isCoroutine = false
  cell : ∀ y ∈ scope.names, y.2 ≠ .cell
  dot : scope.names.lookup (".0" : Str) = some NameKind.local
  loc : scope.names.lookup x = some .local
theorem gs0Of {scope : Scope} {x : Str} (h : (match scope.kind with | .function => true | _ => false) && !scope.isCoroutine && (scope.names.all fun y => match y.2 with | .cell => false | _ => true) && (match scope.names.lookup (".0" : Str) with | some .local => true | _ => false) = true)
    (hx : (match scope.names.lookup x with | some .local => true | _ => false) = true) : GenS0 scope x := by
  simp only [Bool.and_eq_true, List.all_eq_true] at h
  obtain ⟨⟨⟨h1, h2⟩, h3⟩, h4⟩ := h
  refine ⟨?_, by simpa using h2, fun y hy e => ?_, ?_, ?_⟩
  · split at h1
    · assumption
    · cases h1
  · have := h3 y hy; rw [e] at this; cases this
  · split at h4
    · assumption
    · cases h4
  · split at hx
    · assumption
    · cases hx
/-- what the generator captures, the def around has -/
def freeOk (scope sc : Scope) : Bool := scope.names.all fun y => match y.2 with
  | .free => (match sc.names.lookup y.1 with | some .cell => true | some .free => true | _ => false)
  | _ => true
theorem GenS0.all {X : Cx} {scope : Scope} {x : Str} (S : GenS0 scope x) (ok : X.Ok) (h : freeOk scope X.env.scope = true) : GenS X.env scope x := by
  refine ⟨S.kind, S.co, S.cell, S.dot, S.loc, fun y hy hf => ok.has y.1 ?_⟩
  unfold freeOk at h
  rw [List.all_eq_true] at h
  have := h y hy
  rw [hf] at this
  simp only at this
  split at this
  · rename_i e; exact .inl e
  · rename_i e; exact .inr e
  · cases this
section
variable {X : Cx} {pins : List (Addr × Obj)} {σ : L2.St} {H : Hp} {s : Shared}
theorem gen_mkC {y : Str} {iy : Nat} {z : Str} {c P : Addr} {elt iter : Expr} {x : Str} {px gpos : Pos} {scope : Scope} {pf : Str → Nat → Bool} {te : TE} {k : Nat} {Q' : Value → Shared → Prop} {R : Str → Hp → Prop}
    (hr : Room k X.A) (TB : TabB X.base X.mg c P) (hcode : X.env.code = .ref c) (S : GenS X.env scope x) (hi : PE X iter te) (hel : EltC X.prog X.w X.mg scope x y elt pf)
    (hN : X.N[iy]? = some y) (hky : X.env.kindOf y = some .cell) (hcl : ∀ cs : List (Str × Addr), (cloFrom cs scope.names []).lookup y = some ((cs.lookup y).getD 0)) (hσ : σ[iy]? = some (some (.str z)))
    (hs : ∀ v, genFold iter X.env v = pure v) (I : Inv X pins σ H s) (h : te σ H fun v H1 => ∃ a : Str, v = .str a ∧ TabG H1 P ∧ R a H1)
    (hQ : ∀ a H1 g s5, R a H1 → Ready X pins σ H1 P a (pf z) g s5 → Q' (.ref g) s5) :
    wpAny (model X.prog X.w) X.A (eval (.GeneratorExp elt [⟨.Name x px, iter, [], 0⟩] scope gpos) X.env) Q' X.xe s := by
  refine wpAny_GeneratorExp_walksQ hr.hd S.co (closure_ok S.free) S.cell S.dot S.loc S.kind (by have := hr.dp; omega) ?_ hs
  refine thn (hi.run pins s σ H _ I h) fun xv t1 ⟨v, H1, J, rv, a, ev, ⟨ps, hP, htr⟩, hR⟩ => ?_
  subst ev
  obtain ⟨tk1, rfl⟩ := rv
  obtain ⟨ml, hnl, hll⟩ := J.loc
  obtain ⟨uy, ruy, lky⟩ := hll iy y (.str z) hN hσ (.inr (.inl hky))
  obtain ⟨tz, rfl⟩ := ruy
  obtain ⟨cy, hcy, hic⟩ : ∃ cy, X.env.cells.lookup y = some cy ∧ t1.heap.IsCell cy (some (.str z tz)) := by
    rcases lky with ⟨hk2, _⟩ | ⟨_, cy, h1, h2⟩
    · rw [hky] at hk2; cases hk2
    · exact ⟨cy, h1, h2⟩
  refine wpAny_pyIter_str fun o St W hst => ?_
  have hPs : t1.heap.get? P = some { cls := .none, data := .fields ps } := J.hok P _ hP
  have hPlt := Heap.lt_size hPs
  have up : ∀ b u, t1.heap.get? b = some u → (t1.heap.push o).get? b = some u := fun b u e => Heap.get?_push_of_some _ e
  have cd : PySem.W.CodeHd (t1.heap.push o) c P := TB.code.keeps fun b u e => up b u (J.bk b u e)
  have lim : (t1.heap.push o).NoLimit := J.nolimit.push o
  have hclt : cStatics < t1.heap.objs.size := let ⟨_, hn, _⟩ := J.nolimit; hn.lt
  have hsz1 : (t1.heap.push o).objs.size = t1.heap.objs.size + 1 := Heap.size_push ..
  refine ⟨lim, ?_⟩
  have go : ∀ (code : Value) (h3 : Heap) (tk : Nat) (qs : Array Value), Heap.ExtBut P (t1.heap.push o) h3 → (t1.heap.push o).objs.size ≤ h3.objs.size → h3.get? P = some { cls := .none, data := .fields qs } →
      (∃ more, qs = ps ++ more) → TriplesOk qs.toList →
      wpAny (model X.prog X.w) X.A (builtinsFor X.env.globals X.env.builtins) (fun bi s4 =>
        ∃ Ia fp wr n0 Pf St0 pz F, Value.ref t1.heap.objs.size = .ref Ia ∧ (∀ A' : Around, A'.handled = none → Walks X.prog X.w A' Ia fp wr n0 Pf St0) ∧ St0 0 s4.heap ∧ (∀ b ∈ fp, b < s4.heap.objs.size) ∧ s4.heap.NoLimit ∧ cStatics ∉ wr ∧
          (∀ href : Heap, (∀ b o, s4.heap.get? b = some o → href.get? b = some o) →
            QuietGen X.prog X.w (genEnv scope (cloFrom X.env.cells scope.names []) s4.heap.objs.size code bi X.env) x [] elt (List.range s4.heap.objs.size) wr Pf pz F href) ∧
          (∀ g h5 tk5 gs, gs.bare = true → s4.heap.objs.size < g → h5.objs.size = g + 1 → (∀ b o, s4.heap.get? b = some o → h5.get? b = some o) →
            WalksS X.prog X.w X.A.in4 g (g :: s4.heap.objs.size :: List.range s4.heap.objs.size) (s4.heap.objs.size :: wr) (GenOnlyQ s4.gens.size) (passing pz n0 0).length
              (fun j y => ∃ i, (passing pz n0 0)[j]? = some i ∧ F i y) (GenAt X.prog X.w X.A.in4 g s4.gens.size s4.heap.objs.size (List.range s4.heap.objs.size) wr pz n0 F) →
            GenAt X.prog X.w X.A.in4 g s4.gens.size s4.heap.objs.size (List.range s4.heap.objs.size) wr pz n0 F 0 { s4 with gens := s4.gens.push gs, toks := tk5, heap := h5 } →
            Q' (.ref g) { s4 with gens := s4.gens.push gs, toks := tk5, heap := h5 })) X.xe { t1 with heap := h3, toks := tk } := by
    intro code h3 tk qs hx hsz hP3 hmore htq
    obtain ⟨bm, ob, e1, e2, e3, e4, e5, e6, e7, e8⟩ := TB.bm
    have ncP : cStatics ≠ P := fun e => by
      obtain ⟨_, hns, _⟩ := J.nolimit
      obtain ⟨o', es, ep, ho, hd, _⟩ := hns
      rw [e, hPs] at ho
      cases ho; cases hd
    have nbP : (builtinsNs : Addr) ≠ P := fun e => by
      obtain ⟨mb, hns, _⟩ := J.mod.blt
      obtain ⟨o', es, ep, ho, hd, _⟩ := hns
      have ho := J.bk _ _ ho
      rw [e, hPs] at ho
      cases ho; cases hd
    have k3 : ∀ b u, b ≠ P → t1.heap.get? b = some u → h3.get? b = some u := fun b u hb e => hx b u hb (up b u e)
    refine wpAny_builtinsFor (m := X.mg) (by rw [J.ok.glob]; exact ((J.mod.glob.keeps J.bk).push o).extBut hx TB.gP) e1 e2 (k3 _ _ e4 (J.bk _ _ e5)) e6 e7 e8 ?_
    refine ⟨t1.heap.objs.size, [t1.heap.objs.size], [t1.heap.objs.size], a.cps.size, SignAt a, St, (fun _ => true), (fun i v => ∃ cc, a.cps[i]? = some cc ∧ v = .bool (pf z cc)), rfl, W, ?_, ?_, lim.extBut hx ncP, ?_, ?_, ?_⟩
    · refine (W X.A hr.hd).frame _ _ _ hst fun b hb u e => hx b u (fun z => ?_) e
      rcases List.mem_cons.mp hb with y | y
      · exact Nat.ne_of_lt hPlt (z.symm.trans y)
      · cases y
    · intro b hb
      rcases List.mem_cons.mp hb with z | z
      · rw [z]
        show t1.heap.objs.size < h3.objs.size
        omega
      · cases z
    · intro z
      rcases List.mem_cons.mp z with z | z
      · exact Nat.ne_of_lt hclt z
      · cases z
    · intro href hh
      refine ⟨fun A' E' i v s2 m2 hA hv hn hm hk => ?_, fun A' E' i v s2 m2 hA hv hp hn hm hk => ?_⟩
      · simp only [List.forIn_nil]
        exact wpAny_pure ⟨rfl, GxR.keeps_refl _⟩
      · obtain ⟨cc, u, hcc, rfl⟩ := hv
        have old : ∀ L, L ≠ P → ∀ q, X.base.get? L = some q → s2.heap.get? L = some q := fun L nL q e => by
          have e1 := J.bk _ _ e
          have l1 := Heap.lt_size e1
          have e2 := k3 L q nL e1
          refine hk L (List.mem_range.mpr (Heap.lt_size e2)) (fun z => ?_) q (hh L q e2)
          rcases List.mem_cons.mp z with z | z
          · rw [z] at l1; exact Nat.lt_irrefl _ l1
          · cases z
        have nm : Names2 s2.heap X.mg := ⟨J.mod.glob.at (old mainGlobals TB.gP), let ⟨mb, q1, q2⟩ := J.mod.blt; ⟨mb, q1.at (old builtinsNs nbP), q2⟩⟩
        have ncyP : cy ≠ P := fun e => by
          obtain ⟨oc, ho, hd⟩ := hic
          rw [e, hPs] at ho
          cases ho; cases hd
        have cy2 : s2.heap.IsCell cy (some (.str z tz)) := by
          obtain ⟨oc, ho, hd⟩ := hic
          have l1 := Heap.lt_size ho
          have e2 := k3 cy oc ncyP ho
          refine ⟨oc, hk cy (List.mem_range.mpr (Heap.lt_size e2)) (fun z => ?_) oc (hh cy oc e2), hd⟩
          rcases List.mem_cons.mp z with z | z
          · rw [z] at l1; exact Nat.lt_irrefl _ l1
          · cases z
        have hcy2 : (cloFrom X.env.cells scope.names []).lookup y = some cy := by rw [hcl, hcy]; rfl
        exact wpAny_mono (hel (genEnv scope (cloFrom X.env.cells scope.names []) h3.objs.size code builtinsNs X.env) A' E' cc u s2 m2 z tz cy rfl J.ok.glob rfl nm hn hm hcy2 cy2) (fun y s3 r => ⟨⟨cc, hcc, r.1⟩, r.2⟩) fun _ _ e => e
    · intro g h5 tk5 gs hgb hag hsz5 hk5 W5 hat
      simp only [GxR.passing_true, List.length_range] at W5
      refine hQ a H1 g _ hR ⟨_, _, _, _, _, W5.in4_1, hat, ?_, fun s' hm => ?_⟩
      · intro j y sj Qj Ej hy hQj
        obtain ⟨i, hij, cc, hcc, rfl⟩ := hy
        obtain ⟨hj, ej⟩ := List.getElem?_eq_some_iff.mp hij
        rw [List.getElem_range] at ej
        subst ej
        have e9 : a.cps.toList[j]? = some cc := by rw [Array.getElem?_toList]; exact hcc
        have hQ2 : Qj (trF (pf z) a.cps.toList j) sj := hQj
        rw [trF_some e9] at hQ2
        exact wpAny_truthy_bool hQ2
      · obtain ⟨more, em⟩ := hmore
        have nwr : ∀ b u, t1.heap.get? b = some u → b ∉ h3.objs.size :: [t1.heap.objs.size] := fun b u e hb => by
          have hl : b < t1.heap.objs.size := Heap.lt_size e
          rcases List.mem_cons.mp hb with z | z
          · rw [z] at hl
            exact absurd hl (Nat.not_lt.mpr (show t1.heap.objs.size ≤ h3.objs.size by omega))
          · rcases List.mem_cons.mp z with z | z
            · rw [z] at hl
              exact Nat.lt_irrefl _ hl
            · cases z
        have J2 := inv_tab (more := more) (h' := s'.heap) (g' := s'.gens) (d' := s'.drawn) (t' := s'.toks) J hP (fun b u hb e => hm.heap b u (nwr b u e) (hk5 b u (k3 b u hb e)))
          (by rw [← em]; exact hm.heap P _ (nwr P _ hPs) (hk5 P _ hP3)) (AllBare.movedS (J.bare.push hgb) hm)
        rw [sh_eta t1 s' hm.os] at J2
        refine ⟨upd H1 P (.tbl (ps ++ more)), ⟨⟨ps ++ more, upd_same, by rw [← em]; exact htq⟩, fun b hb => upd_ne hb⟩, J2⟩
  cases hf : codeAmong gpos ps.toList with
  | none =>
    refine wpAny_genexprCodeX hcode (cd.code (up _ _ hPs) htr) (cd.tab (up _ _ hPs)) hf fun c' h' tk hx hge hlt hco' _ htab' _ => ?_
    obtain ⟨o1, vs, f1, tf, fl, tg, inF, tx, tt, op, _, _, _, _, _, _, _, _, _, hz, _⟩ := hco'
    exact go _ h' tk _ hx (Nat.le_trans hge (Nat.le_of_lt hlt)) htab'.2 ⟨_, rfl⟩ hz
  | some cv =>
    refine wpAny_genexprCode_hit hcode (cd.code (up _ _ hPs) htr) hf ?_
    exact go cv (t1.heap.push o) t1.toks ps (Heap.ExtBut.refl _ _) (Nat.le_refl _) (up _ _ hPs) ⟨#[], by simp⟩ htr
/-- all(test for x in e), the test one of the sign and of the text at the slot iy -/
def tAllC (P : Addr) (iy : Nat) (pf : Str → Nat → Bool) (te : TE) : TE := fun σ H Q => ∃ z, σ[iy]? = some (some (.str z)) ∧ te σ H fun v H1 => ∃ a : Str, v = .str a ∧ TabG H1 P ∧ ∀ H2, Tabbed P H1 H2 → Q (.bl (a.cps.toList.all (pf z))) H2
theorem pe_allC {y : Str} {iy : Nat} {c P : Addr} {elt iter : Expr} {x : Str} {px p pos gpos : Pos} {scope : Scope} {pf : Str → Nat → Bool} {te : TE} {k : Nat}
    (hr : Room k X.A) (B : Blt X.mg) (TB : TabB X.base X.mg c P) (hcode : X.env.code = .ref c) (S : GenS0 scope x) (hfr : freeOk scope X.env.scope = true) (hi : PE X iter te) (hel : EltC X.prog X.w X.mg scope x y elt pf)
    (hN : X.N[iy]? = some y) (hky : X.env.kindOf y = some .cell) (hcl : ∀ cs : List (Str × Addr), (cloFrom cs scope.names []).lookup y = some ((cs.lookup y).getD 0))
    (hs : ∀ v, genFold iter X.env v = pure v) (hg : Gl X "all" := by rfl)
    (he : starEach [.GeneratorExp elt [⟨.Name x px, iter, [], 0⟩] scope gpos] X.env = (false, eval (.GeneratorExp elt [⟨.Name x px, iter, [], 0⟩] scope gpos) X.env) :: starEach [] X.env := by rfl) :
    PE X (.Call (.Name "all" p) [.GeneratorExp elt [⟨.Name x px, iter, [], 0⟩] scope gpos] [] pos) (tAllC P iy pf te) := by
  refine ⟨fun pins s σ H Q I h => ?_⟩
  obtain ⟨z, hσ, h⟩ := h
  refine wpAny_Call_Name_kw (ld_blt I hg B.all (show bootBuiltins "all" = some (.builtin "all") by decide +kernel) ?_)
  refine PyProof.Rows.callWith_builtin1 ?_ he (by rfl)
  rw [he]
  show wpAny _ _ (spliced ((false, eval (.GeneratorExp elt [⟨.Name x px, iter, [], 0⟩] scope gpos) X.env) :: backTo pos (starEach [] X.env))) _ _ s
  refine Calls.spliced_cons (gen_mkC (R := fun a H1 => ∀ H2, Tabbed P H1 H2 → Q (.bl (a.cps.toList.all (pf z))) H2) hr TB hcode (S.all I.ok hfr) hi hel hN hky hcl hσ hs I h fun a H1 g t5 hR hG => ?_)
  obtain ⟨fp, wr, G, F, St, W, hst, htr, hI⟩ := hG
  refine Calls.spliced_nil (call_all_walkS (W.self 0 _ _ _ hst ⟨g, fp, wr, G, _, F, St, _, rfl, W, hst, htr, fun s' hmv => ?_⟩))
  obtain ⟨H2, hT, J⟩ := hI s' hmv
  refine ⟨.bl _, H2, J, rfl, ?_⟩
  rw [all_signs a (pf z)]
  exact hR H2 hT
end
/-- mark in marks -/
theorem elt_in {prog : Program} {w : World} {mg : Str → Option Value} {scope : Scope} {x y : Str} {q1 q2 q3 : Pos}
    (hk : scope.kind = .function) (hl : scope.names.lookup x = some .local) (hy : scope.names.lookup y = some .free) (hd : (x == ("__debug__" : Str)) = false := by decide) (hd2 : (y == ("__debug__" : Str)) = false := by decide) (hcd : (y == ("__classdict__" : Str)) = false := by decide) :
    EltC prog w mg scope x y (.Compare (.Name x q1) [.In] [.Name y q2] q3) (fun z c => decide (c ∈ z.cps.toList)) := by
  intro ce A' E' c t s2 m2 z tz cy hs hg hb nm hn hm hcy hic
  refine wpAny_Compare1 ?_
  refine wpAny_Name (wpAny_loadName_local (by rw [hs]; exact hk) (show ce.scope.names.lookup x = some .local by rw [hs]; exact hl) hn hm ?_) hd
  refine wpAny_Name (wpAny_loadName_free (by rw [hs]; exact hk) (show ce.scope.names.lookup y = some .free by rw [hs]; exact hy) hcy hic ?_ hcd) hd2
  exact PyProof.Rows.in_str ⟨by rw [PySem.StrLaws.found_one z c], keeps_tok _ _⟩
end SC
/-! what a part of a pattern matches (code 42: the star), and the search that takes the first place for each piece -/
namespace SC
open PySem L2
/-- some way to begin later -/
def mtS (f : List Nat → Bool) : List Nat → Bool
  | [] => f []
  | c :: s => f (c :: s) || mtS f s
def mt : List Nat → List Nat → Bool
  | [], s => s.isEmpty
  | c :: p, s => if c = 42 then mtS (mt p) s else match s with
    | [] => false
    | d :: s' => (c == d) && mt p s'
/-- b is a beginning of s -/
def pfx (b s : List Nat) : Bool := s.take b.length == b
/-- the first place of b -/
def fnd (b : List Nat) : List Nat → Option Nat
  | [] => if pfx b [] then some 0 else none
  | c :: t => if pfx b (c :: t) then some 0 else (fnd b t).map (· + 1)
end SC
/-! the texts' own search, cut and ends, said over lists of codes; a, *b, c = a list -/
namespace SC
open PySem L2 PySem.StrLaws
/-- cut at one sign -/
theorem spl_one (s : Nat) : ∀ (l acc : List Nat), s ∉ acc → ∃ p ps, TL.spl [s] 0 acc l = p :: ps ∧ TL.joinL [s] (p :: ps) = acc ++ l ∧ (∀ q ∈ p :: ps, s ∉ q) ∧ ps.length = l.count s
  | [], acc, h => ⟨acc, [], TL.spl_nil _ _ _, by simp [TL.joinL], fun q hq => by rw [List.mem_singleton.mp hq]; exact h, by simp⟩
  | c :: r, acc, h => by
    by_cases hc : c = s
    · subst hc
      have hp : TL.pre [c] (c :: r) = true := by show ((c :: r).take 1 == [c]) = true; simp
      obtain ⟨p, ps, e1, e2, e3, e4⟩ := spl_one c r [] (by simp)
      refine ⟨acc, p :: ps, by rw [TL.spl_hit hp]; show acc :: TL.spl [c] 0 [] r = _; rw [e1], ?_, fun q hq => ?_, ?_⟩
      · show acc ++ ([c] ++ TL.joinL [c] (p :: ps)) = _
        rw [e2]; simp
      · rcases List.mem_cons.mp hq with rfl | hq
        · exact h
        · exact e3 q hq
      · rw [List.length_cons, e4, List.count_cons_self]
    · have hp : TL.pre [s] (c :: r) = false := by
        show ((c :: r).take 1 == [s]) = false
        rw [beq_eq_false_iff_ne]
        intro e
        have e : [c] = [s] := e
        exact hc (List.cons.inj e).1
      obtain ⟨p, ps, e1, e2, e3, e4⟩ := spl_one s r (acc ++ [c]) (fun hm => by
        rcases List.mem_append.mp hm with hm | hm
        · exact h hm
        · exact hc (List.mem_singleton.mp hm).symm)
      refine ⟨p, ps, by rw [TL.spl_miss hp]; exact e1, by rw [e2, List.append_assoc]; rfl, e3, ?_⟩
      rw [e4, List.count_cons_of_ne (fun z => hc z)]
/-- cut at the sign c: the parts, joined, are the text again; no part has the sign -/
theorem split_one (x : Str) (c : Nat) (hc : c < 256) : ∃ p ps, (Txt.split x ⟨#[c]⟩).map TL.tl = p :: ps ∧ TL.joinL [c] (p :: ps) = TL.tl x ∧ (∀ q ∈ p :: ps, c ∉ q) ∧ ps.length = (TL.tl x).count c := by
  have e := TL.split_spl x ⟨#[c]⟩ (by show [c] ≠ []; simp) (TL.kind_ok (by simp [hc]))
  obtain ⟨p, ps, e1, e2, e3, e4⟩ := spl_one c (TL.tl x) [] (by simp)
  exact ⟨p, ps, by rw [e]; exact e1, by rw [e2, List.nil_append], e3, e4⟩
end SC
/-! a generator expression whose element is any expression of the layer (it may call the text's defs), walked by a built-in -/
namespace SC
open PySem PySem.Spec PyProof.Rows L2 GenW
open GxR (TabB TabG Tabbed inv_tab sh_eta)
theorem over_gen {A : Around} {elt : Expr} {gs : List Comprehension} {scope : Scope} {pos : Pos} {it acc : Value} {env : Env} : A.over (.compLoop (.GeneratorExp elt gs scope pos) 0 it acc env) [] = A.deeper env := by
  obtain ⟨hd, d, fr, gd, u⟩ := A
  simp [Around.over, Around.deeper, marksOver, frameCount, unitsOf, envsOf, guardsOf, pushEnvs, pushGuards, Code.envs, Code.env?, Code.isFrame, Code.guards, Code.isGuard, Code.weight, Code.frames, Code.isCreation, Code.isCaller, Code.cUnits]
/-- the frame of the generator, run from a built-in that X's body calls -/
def gxC (X : Cx) (N : List Str) (scope : Scope) (C : Addr) (code : Value) (fp : List Addr) (s4 : Shared) (H4 : Hp) : Cx where
  prog := X.prog
  w := X.w
  K := X.K
  mg := X.mg
  base := X.base
  A := X.A.in1.in1.deeper (genEnv scope (cloFrom X.env.cells scope.names []) C code builtinsNs X.env)
  N := N
  s_0 := s4
  H_0 := H4
  env := genEnv scope (cloFrom X.env.cells scope.names []) C code builtinsNs X.env
  outer := X.stack
  stack := genEnv scope (cloFrom X.env.cells scope.names []) C code builtinsNs X.env :: X.stack
  ex := fp
  fn := fun _ => false
  calm := true
  pn := []
  xe := fun _ _ => False
/-- what can be read off the scope -/
structure GnS (scope : Scope) : Prop where
  kind : scope.kind = .function
  co : scope.isCoroutine = false
  cell : ∀ y ∈ scope.names, y.2 ≠ .cell
  dot : scope.names.lookup (".0" : Str) = some NameKind.local
theorem gnOf {scope : Scope} (h : (match scope.kind with | .function => true | _ => false) && !scope.isCoroutine && (scope.names.all fun y => match y.2 with | .cell => false | _ => true) && (match scope.names.lookup (".0" : Str) with | some .local => true | _ => false) = true) : GnS scope := by
  simp only [Bool.and_eq_true, List.all_eq_true] at h
  obtain ⟨⟨⟨h1, h2⟩, h3⟩, h4⟩ := h
  refine ⟨?_, by simpa using h2, fun y hy e => ?_, ?_⟩
  · split at h1
    · assumption
    · cases h1
  · have := h3 y hy; rw [e] at this; cases this
  · split at h4
    · assumption
    · cases h4
/-- the slots behind the target's nt: captured names, with the slots of X that they have -/
def capOk (N : List Str) (nt : Nat) (fr : List Nat) (XN : List Str) (scope sc : Scope) : Bool :=
  decide (N.length = nt + fr.length) && (List.range fr.length).all fun j => match N[nt + j]?, fr[j]? with
    | some y, some i => XN[i]? == some y && (match scope.names.lookup y with | some .free => true | _ => false) && (match sc.names.lookup y with | some .cell => true | some .free => true | _ => false)
    | _, _ => false
def capSt (nt : Nat) (fr : List Nat) (σ : L2.St) : L2.St := List.replicate nt none ++ fr.map fun i => (σ[i]?).getD none
theorem clo_look {cells : List (Str × Addr)} {names : List (Str × NameKind)} {y : Str} (h : (y, NameKind.free) ∈ names) : (cloFrom cells names []).lookup y = some ((cells.lookup y).getD 0) := by
  obtain ⟨c, hc⟩ := mem_lookup (cloFrom_has (cells := cells) (acc := []) h)
  rcases cloFrom_mem (PySem.mem_of_lookup hc) with z | ⟨_, z⟩
  · cases z
  · rw [hc, z]
theorem clo_from {cells : List (Str × Addr)} {names : List (Str × NameKind)} {y : Str} {c : Addr} (h : (cloFrom cells names []).lookup y = some c) : (y, NameKind.free) ∈ names ∧ c = (cells.lookup y).getD 0 := by
  rcases cloFrom_mem (PySem.mem_of_lookup h) with z | z
  · cases z
  · exact z
section
variable {X : Cx} {pins : List (Addr × Obj)} {σ : L2.St} {H : Hp} {s : Shared}
/-- the generator's frame has been laid behind the state s4 -/
theorem gen_start {N : List Str} {nt : Nat} {fr : List Nat} {scope : Scope} {code it : Value} {fp : List Addr} {a : Addr} {go : Obj} {h' : Heap} {s5 : Shared} (hcalm : X.calm = true) (S : GnS scope) (hfr : freeOk scope X.env.scope = true) (hcap : capOk N nt fr X.N scope X.env.scope = true)
    (I : Inv X pins σ H s) (hf : ∀ b ∈ fp, FpOk X pins H b) (hlt : ∀ b ∈ fp, b < s.heap.objs.size) (hn : h'.Ns s.heap.objs.size (fun y => if y = ".0" then some it else none)) (hk : ∀ b o, s.heap.get? b = some o → s5.heap.get? b = some o)
    (hC : ∀ o, h'.get? s.heap.objs.size = some o → s5.heap.get? s.heap.objs.size = some o) (ho : s5.os = s.os) (hg : AllBare s5.gens) (hpa : s5.heap.get? a = some go) (ha : s.heap.objs.size < a) (hgo : ∀ v, go.data ≠ .cell v) :
    Inv (gxC X N scope s.heap.objs.size code fp s H) [(a, go)] (capSt nt fr σ) H s5 := by
  have ok := I.ok
  unfold capOk at hcap
  rw [Bool.and_eq_true, decide_eq_true_eq, List.all_eq_true] at hcap
  obtain ⟨hNl, hcap⟩ := hcap
  have cel : ∀ x c, (cloFrom X.env.cells scope.names []).lookup x = some c → X.env.cells.lookup x = some c := fun x c h => by
    obtain ⟨h1, h2⟩ := clo_from h
    unfold freeOk at hfr
    rw [List.all_eq_true] at hfr
    have q := hfr _ h1
    simp only at q
    have : X.env.kindOf x = some .cell ∨ X.env.kindOf x = some .free := by
      split at q
      · rename_i e; exact .inl e
      · rename_i e; exact .inr e
      · cases q
    obtain ⟨c0, h0⟩ := ok.has x this
    rw [h2, h0]; rfl
  have young : ∀ b o, X.base.get? b = some o → b ∉ fp := fun b o e hb => by
    rcases (hf b hb).2.2.2.1 with z | z
    · exact ok.noex b o e z
    · have := Heap.lt_size (ok.bs b o e).1
      exact absurd (Nat.lt_of_lt_of_le this z) (Nat.lt_irrefl _)
  have lt0 : ∀ b o, s.heap.get? b = some o → b < s.heap.objs.size := fun b o e => Heap.lt_size e
  refine ⟨⟨ok.mod, S.kind, ok.glob, rfl, Nat.le_refl _, fun x y c h1 h2 => ok.inj x y c (cel x c h1) (cel y c h2), fun x hx => ?_, fun x c h => (nomatch h), fun _ => ok.hd hcalm, Around.frames_deeper ok.frames, .inr ⟨rfl, rfl⟩, fun b hb => ?_, fun b o e => I.bs b o e, Nat.le_trans ok.bsz I.sz, young, fun b hb z => ?_, I.stack, I.stkFree⟩,
    ho, hg, Un.kept hk, ⟨_, hn.at' hC, fun i y v e1 e2 e3 => ?_⟩, fun x c h => ?_, I.hok.fresh (Nat.le_refl _), fun x c h => I.freeC x c (cel x c h), fun p hp => ?_, I.hok.kept hk, ?_⟩
  · have hx : scope.names.lookup x = some .cell ∨ scope.names.lookup x = some .free := hx
    rcases hx with hx | hx
    · exact absurd rfl (S.cell _ (PySem.mem_of_lookup hx))
    · exact ⟨_, clo_look (PySem.mem_of_lookup hx)⟩
  · refine ⟨Nat.ne_of_lt (hlt b hb), fun x c h => (hf b hb).2.2.2.2.1 x c (cel x c h)⟩
  · rcases List.mem_cons.mp (I.stkSub b z) with y | y
    · exact (hf b hb).2.1 y
    · exact (hf b hb).2.2.1 y
  · have hi : i < N.length := (List.getElem?_eq_some_iff.mp e1).1
    unfold capSt at e2
    by_cases hi2 : i < nt
    · rw [List.getElem?_append_left (by simpa using hi2), List.getElem?_replicate] at e2
      split at e2 <;> cases e2
    · obtain ⟨j, rfl⟩ : ∃ j, i = nt + j := ⟨i - nt, by omega⟩
      have hj : j < fr.length := by omega
      rw [List.getElem?_append_right (by simp), List.length_replicate, show nt + j - nt = j by omega, List.getElem?_map] at e2
      have q := hcap j (List.mem_range.mpr hj)
      rw [show N[nt + j]? = some y from e1, List.getElem?_eq_getElem hj] at q
      rw [List.getElem?_eq_getElem hj] at e2
      simp only [Bool.and_eq_true, beq_iff_eq] at q
      obtain ⟨⟨q1, q2⟩, q3⟩ := q
      have e2 : (σ[fr[j]]?).getD none = some v := Option.some.inj e2
      have e4 : σ[fr[j]]? = some (some v) := by
        cases z : σ[fr[j]]? with
        | none => rw [z] at e2; cases e2
        | some w => rw [z] at e2; exact congrArg some e2
      obtain ⟨m, _, hl⟩ := I.loc
      have kd : X.env.kindOf y = some .cell ∨ X.env.kindOf y = some .free := by
        split at q3
        · rename_i z; exact .inl z
        · rename_i z; exact .inr z
        · cases q3
      have kf : scope.names.lookup y = some .free := by
        split at q2
        · assumption
        · cases q2
      obtain ⟨u, ru, lk⟩ := hl _ y v q1 e4 (by rcases kd with z | z; exact .inr (.inl z); exact .inr (.inr z))
      refine ⟨u, ru, .inr ⟨.inr kf, ?_⟩⟩
      obtain ⟨c, hc, hcc⟩ : ∃ c, X.env.cells.lookup y = some c ∧ s.heap.IsCell c (some u) := by
        rcases lk with ⟨z, _⟩ | ⟨_, c, h1, h2⟩
        · rcases kd with w | w <;> rw [z] at w <;> cases w
        · exact ⟨c, h1, h2⟩
      refine ⟨c, ?_, ?_⟩
      · show (cloFrom X.env.cells scope.names []).lookup y = some c
        rw [clo_look (PySem.mem_of_lookup kf), hc]; rfl
      · obtain ⟨oc, hoc, hd⟩ := hcc
        exact ⟨oc, hk _ _ hoc, hd⟩
  · obtain ⟨v, oc, hoc, hd⟩ := I.cell x c (cel x c h)
    exact ⟨v, oc, hk _ _ hoc, hd⟩
  · have e : p = (a, go) := List.mem_singleton.mp hp
    subst e
    refine ⟨hpa, I.hok.fresh (Nat.le_of_lt ha), Nat.ne_of_gt ha, fun z => ?_, hgo⟩
    rcases List.mem_cons.mp (I.stkSub a z) with y | y
    · have := I.lt
      rw [← y] at this
      exact absurd (Nat.lt_trans this ha) (Nat.lt_irrefl _)
    · exact I.nofs (Nat.le_of_lt ha) y
  · unfold capSt
    rw [List.length_append, List.length_replicate, List.length_map]
    exact hNl.symm
end
/-- between two turns: what the consumer keeps for itself at the addresses of Sx may have turned, all else stands -/
structure Sl (Sx : List Addr) (s s' : Shared) : Prop where
  os : s'.os = s.os
  bare : AllBare s'.gens
  keep : ∀ b o, b ∉ Sx → s.heap.get? b = some o → s'.heap.get? b = some o
/-- the consumer's own objects, as they stand -/
def Cp (Sx : List Addr) (cp : List (Addr × Obj)) : Prop := cp.map (·.1) = Sx
theorem Inv.slept {X : Cx} {p0 cp cp' : List (Addr × Obj)} {σ : L2.St} {H : Hp} {s s' : Shared} {Sx : List Addr} (I : Inv X (p0 ++ cp) σ H s) (hc : Cp Sx cp) (hy : ∀ b ∈ Sx, X.s_0.heap.objs.size ≤ b ∧ (∀ x c, X.env.cells.lookup x = some c → c ≠ b)) (h0 : ∀ p ∈ X.pn ++ p0, p.1 ∉ Sx) (z : Sl Sx s s')
    (hc' : Cp Sx cp') (hv : ∀ p ∈ cp', s'.heap.get? p.1 = some p.2 ∧ ∀ v, p.2.data ≠ .cell v) : Inv X (p0 ++ cp') σ H s' := by
  have at_ : ∀ b ∈ Sx, ∃ p ∈ cp, p.1 = b := fun b hb => by
    rw [← hc] at hb
    obtain ⟨p, hp, e⟩ := List.mem_map.mp hb
    exact ⟨p, hp, e⟩
  have pf : ∀ b ∈ Sx, s.heap.get? b ≠ none ∧ H b = none ∧ b ≠ X.env.locals ∧ b ∉ X.fs := fun b hb => by
    obtain ⟨p, hp, rfl⟩ := at_ b hb
    obtain ⟨q1, q2, q3, q4, _⟩ := I.pin p (List.mem_append_right _ (List.mem_append_right _ hp))
    exact ⟨by rw [q1]; simp, q2, q3, q4⟩
  have I0 : Inv X p0 σ H s := I.pins_of fun p hp => I.pin p (List.mem_append_right _ (List.mem_append_left _ hp))
  obtain ⟨h', g', d', t', o'⟩ := s'
  obtain ⟨z1, z2, z3⟩ := z
  have z1 : o' = s.os := z1
  subst z1
  have nt : ∀ b u, H b = some u → b ∉ Sx := fun b u e hb => by rw [(pf b hb).2.1] at e; cases e
  have ex : ∀ b ∈ Sx, ∃ o, h'.get? b = some o := fun b hb => by
    rw [← hc'] at hb
    obtain ⟨p, hp, e⟩ := List.mem_map.mp hb
    exact ⟨p.2, by rw [← e]; exact (hv p hp).1⟩
  have J : Inv X p0 σ H { s with heap := h', gens := g', drawn := d', toks := t' } := by
    refine I0.step (g' := g') (t' := t') (d' := d') (ch := Sx) (fun b hb => ⟨.inr (hy b hb).1, (pf b hb).2.2.1, (hy b hb).2, fun p hp e => h0 p hp (by rw [e]; exact hb)⟩)
      (fun b ob _ _ hc q _ => z3 b ob hc q) (fun b ob _ _ hc q _ => ⟨ob.slots, z3 b ob hc q⟩) (fun _ _ _ _ n => n) (fun b ob hc q => ⟨ob, z3 b ob hc q⟩)
      (fun _ _ q => q) (fun _ _ _ q => q) (fun b ps q => ⟨#[], by rw [q]; simp⟩) (fun m hm => ?_) (fun b u q => ?_) z2
    · obtain ⟨ob, es, ep, ho, r⟩ := hm
      exact ⟨ob, es, ep, z3 _ ob (fun hb => (pf _ hb).2.2.1 rfl) ho, r⟩
    · refine (I0.hok b u q).stay (fun c v hc y => z3 c v ?_ y) (fun _ y => y) fun _ _ y => y
      rcases hc with y | y
      · rw [y]; exact nt b u q
      · exact nt c _ y
  refine J.pins_of fun p hp => ?_
  rcases List.mem_append.mp hp with hp | hp
  · exact J.pin p (List.mem_append_right _ hp)
  · have hb : p.1 ∈ Sx := by rw [← hc']; exact List.mem_map.mpr ⟨p, hp, rfl⟩
    obtain ⟨_, q2, q3, q4⟩ := pf _ hb
    exact ⟨(hv p hp).1, q2, q3, q4, (hv p hp).2⟩
/-- the turns: W before a turn (its number, a measure, the consumer's objects), B what the consumer gets, Dn the end -/
def GTurns (J : It) (g : TG) (tt : TT) (te : TE) (W : Nat → Nat → List (Addr × Obj) → L2.St → Hp → Prop) (B : Nat → Nat → List (Addr × Obj) → V → L2.St → Hp → Prop) (Dn : List (Addr × Obj) → L2.St → Hp → Prop) : Prop :=
  ∀ i m cp σ H, W i m cp σ H → (J.stop i H ∧ Dn cp σ H) ∨ (J.go i H ∧ ∃ (Bt : V → L2.St → Hp → Prop) (Nt : L2.St → Hp → Prop), (∀ y σ' H', Bt y σ' H' → B i m cp y σ' H') ∧ (∀ σ' H', Nt σ' H' → ∃ m', m' < m ∧ W (i + 1) m' cp σ' H') ∧
    ∀ x H', J.yld i H x H' → g x σ H' fun σ2 H2 => tt σ2 H2 fun b H3 => if b = true then te σ2 H3 (fun y H4 => Bt y σ2 H4) else Nt σ2 H3)
/-- an item is handed out -/
def YG (X : Cx) (go : Addr × Obj) (Sx : List Addr) (W : Nat → Nat → List (Addr × Obj) → L2.St → Hp → Prop) (B : Nat → Nat → List (Addr × Obj) → V → L2.St → Hp → Prop) : Protocol := fun n s₀ v s kap =>
  ∃ i m cp y σ H, Cp Sx cp ∧ (∀ p ∈ cp, s₀.heap.get? p.1 = some p.2) ∧ RelV y v ∧ Inv X (go :: cp) σ H s ∧ B i m cp y σ H ∧ m ≤ n ∧ ∀ s' m' cp', Sl Sx s s' → Cp Sx cp' → (∀ p ∈ cp', s'.heap.get? p.1 = some p.2 ∧ ∀ v, p.2.data ≠ .cell v) → m' < m → W (i + 1) m' cp' σ H → kap (.send .none) s'
def RG (X : Cx) (go : Addr × Obj) (Sx : List Addr) (Dn : List (Addr × Obj) → L2.St → Hp → Prop) : Nat → Shared → Shared → Prop := fun _ s₀ s => ∃ cp σ H, Cp Sx cp ∧ (∀ p ∈ cp, s₀.heap.get? p.1 = some p.2) ∧ Inv X (go :: cp) σ H s ∧ Dn cp σ H
section
variable {Y : Cx} {A : Around} {go : Addr × Obj} {Sx fp : List Addr} {it : Addr} {tn : Nat → Heap → Prop} {J : It} {tg elt iter : Expr} {ifs : List Expr} {scope : Scope} {gpos : Pos} {g : TG} {tt : TT} {te : TE} {W : Nat → Nat → List (Addr × Obj) → L2.St → Hp → Prop} {B : Nat → Nat → List (Addr × Obj) → V → L2.St → Hp → Prop} {Dn : List (Addr × Obj) → L2.St → Hp → Prop}
theorem seg_turns (hA : Y.A = A.deeper Y.env) (hxe : ∀ e s, Y.xe e s → False) (hcalm : Y.calm = true) (T : Turn Y.prog Y.w Y.K tg J fp it tn) (hg : PG Y tg g) (ht : PTs Y ifs tt) (he : PE Y elt te) (hco : Y.env.scope.isCoroutine = false) (turn : GTurns J g tt te W B Dn)
    (stat : ∀ (cp : List (Addr × Obj)) (H : Hp), Cp Sx cp → (∀ b ∈ fp, H b = none) → ∀ b ∈ fp, FpOk Y (go :: cp) H b) (hy : ∀ b ∈ Sx, Y.s_0.heap.objs.size ≤ b ∧ (∀ x c, Y.env.cells.lookup x = some c → c ≠ b)) (h0 : ∀ p ∈ Y.pn ++ [go], p.1 ∉ Sx) (hfs : ∀ b ∈ fp, b ∉ Sx) :
    ∀ (m n i : Nat) (s₀ s : Shared) (σ : L2.St) (H : Hp) (cp : List (Addr × Obj)), m < n → Cp Sx cp → (∀ p ∈ cp, s₀.heap.get? p.1 = some p.2) → Inv Y (go :: cp) σ H s → tn i s.heap → (∀ b ∈ fp, H b = none) → W i m cp σ H →
      Seg (model Y.prog Y.w) A (fun n s₀ r s₁ => r = .ok .next ∧ RG Y go Sx Dn n s₀ s₁) (YG Y go Sx W B) n s₀
        (.compLoop (.GeneratorExp elt [⟨tg, iter, ifs, 0⟩] scope gpos) 0 (.ref it) .none Y.env) ((model Y.prog Y.w).den (.compLoop (.GeneratorExp elt [⟨tg, iter, ifs, 0⟩] scope gpos) 0 (.ref it) .none Y.env)) [] s := by
  intro m
  induction m using Nat.strongRecOn with
  | ind m ih =>
    intro n i s₀ s σ H cp hmn hcp hs0 I st fr w
    show Seg _ A _ _ n s₀ _ ((compTurn (.GeneratorExp elt [⟨tg, iter, ifs, 0⟩] scope gpos) 0 (.ref it) .none Y.env).onRaise _) [] s
    rw [compTurn_gen, Sem.onRaise_eq_wrap]
    refine seg_bind_wrap (wpAny_standAt ?_)
    rcases turn i m cp σ H w with ⟨stop, dn⟩ | ⟨goes, Bt, Nt, hBt, hNt, step⟩
    · refine seg_bind_wrap ?_
      rw [over_gen, ← hA]
      refine thn (T.done Y rfl rfl rfl hcalm i (go :: cp) s σ H _ I (stat cp H hcp fr) st stop) fun r s4 ⟨hr, I4⟩ => ?_
      subst hr
      exact seg_end (.ok .next) ⟨rfl, cp, σ, H, hcp, hs0, I4, dn⟩
    · refine seg_bind_wrap ?_
      rw [over_gen, ← hA]
      refine thn (T.item Y rfl rfl rfl hcalm i (go :: cp) s σ H _ I (stat cp H hcp fr) st goes) fun r s4 ⟨u, hr, h4⟩ => ?_
      subst hr
      refine seg_bind_wrap ?_
      rw [over_gen, ← hA]
      refine thn h4 fun _ s5 ⟨x, H5, I5, r5, y5, st5, fr5⟩ => ?_
      have I5' := I5.pinned (stat cp H5 hcp fr5) (T.obj _ _ st5)
      refine seg_bind_wrap ?_
      rw [over_gen, ← hA]
      refine wpAny_mono (hg.run _ s5 σ H5 x u _ I5' r5 (step x H5 y5)) (fun _ s6 ⟨σ6, H6, I6, q6⟩ => ?_) fun _ _ z => (hxe _ _ z).elim
      refine seg_bind_wrap ?_
      rw [over_gen, ← hA]
      refine wpAny_mono (ht.run _ s6 σ6 H6 _ I6 q6) (fun ok s7 ⟨H7, I7, q7⟩ => ?_) fun _ _ z => (hxe _ _ z).elim
      have turned : ∀ {σ8 : L2.St} {H8 : Hp} {s8 : Shared}, Inv Y ((go :: cp) ++ pinsAt fp s5.heap) σ8 H8 s8 → tn (i + 1) s8.heap ∧ (∀ b ∈ fp, H8 b = none) ∧ Inv Y (go :: cp) σ8 H8 s8 := fun {σ8 H8 s8} I8 =>
        ⟨T.keep _ _ _ st5 fun b hb o e => (I8.pin (b, o) (List.mem_append_right _ (List.mem_append_right _ (mem_pinsAt hb e)))).1, fun b hb => by
          obtain ⟨o, e, d⟩ := T.obj _ _ st5 b hb
          exact (I8.pin (b, o) (List.mem_append_right _ (List.mem_append_right _ (mem_pinsAt hb e)))).2.1, I8.unpinned⟩
      cases ok with
      | false =>
        rw [if_neg Bool.false_ne_true] at q7
        obtain ⟨m', hm', w'⟩ := hNt _ _ q7
        simp only [Bool.false_eq_true, if_false]
        obtain ⟨t1, t2, t3⟩ := turned I7
        exact seg_again rfl (ih m' hm' n (i + 1) s₀ _ _ _ cp (by omega) hcp hs0 t3 t1 t2 w')
      | true =>
        rw [if_pos rfl] at q7
        simp only [if_true]
        have hyo : ∀ v, yieldOut Y.env v = yieldValue v := fun v => by simp only [yieldOut, hco, Bool.false_eq_true, if_false]
        simp only [hyo]
        rw [Sem.bind_eq_wrap', Sem.bind_eq_wrap', Sem.wrap_wrap, Sem.wrap_wrap]
        refine seg_wrap ?_
        rw [over_gen, ← hA]
        refine wpAny_mono (he.run _ s7 σ6 H7 _ I7 q7) (fun v s8 ⟨y, H8, I8, r8, q8⟩ => ?_) fun _ _ z => (hxe _ _ z).elim
        obtain ⟨n, rfl⟩ : ∃ k, n = k + 1 := ⟨n - 1, by omega⟩
        obtain ⟨t1, t2, t3⟩ := turned I8
        refine seg_at (seg_yield rfl rfl rfl ⟨i, m, cp, y, σ6, H8, hcp, hs0, r8, t3, hBt _ _ _ q8, by omega, fun s' m' cp' z hcp' hv hm' w' => ?_⟩)
        have I9 := Inv.slept (p0 := [go]) t3 hcp hy h0 z hcp' hv
        refine seg_again rfl (ih m' hm' n (i + 1) s' s' _ _ cp' (by omega) hcp' (fun p hp => (hv p hp).1) I9 (T.keep _ _ _ t1 fun b hb o e => z.keep b o (hfs b hb) e) t2 w')
theorem seg_turns0 (hA : Y.A = A.deeper Y.env) (hxe : ∀ e s, Y.xe e s → False) (hcalm : Y.calm = true) (T : Turn Y.prog Y.w Y.K tg J fp it tn) (hg : PG Y tg g) (ht : PTs Y ifs tt) (he : PE Y elt te) (hco : Y.env.scope.isCoroutine = false) (turn : GTurns J g tt te W B Dn)
    (stat : ∀ (cp : List (Addr × Obj)) (H : Hp), Cp Sx cp → (∀ b ∈ fp, H b = none) → ∀ b ∈ fp, FpOk Y (go :: cp) H b) (hy : ∀ b ∈ Sx, Y.s_0.heap.objs.size ≤ b ∧ (∀ x c, Y.env.cells.lookup x = some c → c ≠ b)) (h0 : ∀ p ∈ Y.pn ++ [go], p.1 ∉ Sx) (hfs : ∀ b ∈ fp, b ∉ Sx)
    {m n : Nat} {s₀ s : Shared} {σ : L2.St} {H : Hp} {cp : List (Addr × Obj)} (hmn : m < n) (hcp : Cp Sx cp) (hs0 : ∀ p ∈ cp, s₀.heap.get? p.1 = some p.2) (I : Inv Y (go :: cp) σ H s) (st : tn 0 s.heap) (fr : ∀ b ∈ fp, H b = none) (w : W 0 m cp σ H) :
      Seg (model Y.prog Y.w) A (fun n s₀ r s₁ => r = .ok .next ∧ RG Y go Sx Dn n s₀ s₁) (YG Y go Sx W B) n s₀
        (.compStart (.GeneratorExp elt [⟨tg, iter, ifs, 0⟩] scope gpos) 0 (.ref it) .none Y.env) ((model Y.prog Y.w).den (.compStart (.GeneratorExp elt [⟨tg, iter, ifs, 0⟩] scope gpos) 0 (.ref it) .none Y.env)) [] s := by
  have loop := seg_turns (iter := iter) (scope := scope) (gpos := gpos) hA hxe hcalm T hg ht he hco turn stat hy h0 hfs m n 0 s₀ s σ H cp hmn hcp hs0 I st fr w
  show Seg _ A _ _ _ s₀ _ ((compStart (.GeneratorExp elt [⟨tg, iter, ifs, 0⟩] scope gpos) 0 (.ref it) .none Y.env).onRaise _) [] s
  unfold compStart
  rw [Sem.onRaise_eq_wrap]
  show Seg _ A _ _ _ s₀ _ ((ask >>= _).wrap _ _ _ _) [] s
  refine seg_bind_wrap (wpAny_askSetting ?_)
  split
  · exact seg_again rfl loop
  · first
      | exact seg_bind_wrap (wpAny_rule (seg_bind_wrap (wpAny_standAt (seg_bind_wrap (T.self _ 0 s _ _ st (seg_again rfl loop))))))
      | (refine seg_bind_wrap (wpAny_rule ?_); show Seg _ A _ _ _ s₀ _ ((standAt iter.pos >>= _).wrap _ _ _ _) [] s; exact seg_bind_wrap (wpAny_standAt (seg_bind_wrap (T.self _ 0 s _ _ st (seg_again rfl loop)))))
theorem inv_kept {X : Cx} {pins : List (Addr × Obj)} {σ : L2.St} {H : Hp} {s s' : Shared} (I : Inv X pins σ H s) (ho : s'.os = s.os) (hg : AllBare s'.gens) (k : ∀ b o, s.heap.get? b = some o → s'.heap.get? b = some o) : Inv X pins σ H s' :=
  I.call' (ch := []) ho (Un.kept k) (I.hok.kept k) hg fun b z => absurd z (by simp)
/-- the generator at go, its number gi, sleeps -/
structure Asl (Y : Cx) (A : Around) (go : Addr × Obj) (gi : Nat) (Sx : List Addr) (W : Nat → Nat → List (Addr × Obj) → L2.St → Hp → Prop) (B : Nat → Nat → List (Addr × Obj) → V → L2.St → Hp → Prop) (Dn : List (Addr × Obj) → L2.St → Hp → Prop) (n : Nat) (s : Shared) : Prop where
  gen : s.heap.IsGen go.1 gi
  nl : s.heap.NoLimit
  gs : ∃ gs, s.gens[gi]? = some gs ∧ gs.Goes (model Y.prog Y.w) A (fun n s₀ r s₁ => r = .ok .next ∧ RG Y go Sx Dn n s₀ s₁) (YG Y go Sx W B) n (.send .none) (s.setGen gi .running)
/-- one step of it -/
theorem next_gen {gi n : Nat} {C : Around} {E : Value → Shared → Prop} {Q : Option Value → Shared → Prop} {s : Shared} (hh : C.handled = none) (hroom : C.depth < recursionLimit) (hgo : ∀ h : Heap, h.get? go.1 = some go.2 → h.IsGen go.1 gi) (a : Asl Y C.in1 go gi Sx W B Dn n s)
    (hY : ∀ (i m : Nat) cp y v σ H s', Cp Sx cp → (∀ p ∈ cp, s.heap.get? p.1 = some p.2) → RelV y v → Inv Y (go :: cp) σ H s' → B i m cp y σ H → (∀ s'' cp', Sl Sx s' s'' → s''.gens = s'.gens → Cp Sx cp' → (∀ p ∈ cp', s''.heap.get? p.1 = some p.2 ∧ ∀ v, p.2.data ≠ .cell v) → s''.heap.get? go.1 = some go.2 → s''.heap.NoLimit → ∀ m', m' < m → W (i + 1) m' cp' σ H → ∃ k, k < n ∧ Asl Y C.in1 go gi Sx W B Dn k s'') → Q (some v) s')
    (hD : ∀ cp σ H s', Cp Sx cp → (∀ p ∈ cp, s.heap.get? p.1 = some p.2) → Inv Y (go :: cp) σ H s' → Dn cp σ H → Q none s') : wpAny (model Y.prog Y.w) C (pyNext (.ref go.1)) Q E s := by
  obtain ⟨ag, al, gs, hgs, hgoes⟩ := a
  have hgl : gi < s.gens.size := (Array.getElem?_eq_some_iff.mp hgs).1
  refine wpAny_gsz (n := gi + 1) hgl (wpAny_pyNext_genexpQ (P := RG Y go Sx Dn) hh al hroom ag hgs hgoes (fun v s₁ gs' hbare hv => ?_) fun s₁ hp h' hk => ?_)
  · intro hsz
    obtain ⟨i, m, cp, y, σ, H, hcp, hs0, rv, I, hB, hmn, kap⟩ := hv
    have hsz1 : gi < s₁.gens.size := by
      have q : (s₁.setGen gi gs').gens.size = s₁.gens.size := setGen_size _ _ _
      have hsz' : gi + 1 ≤ (s₁.setGen gi gs').gens.size := hsz
      omega
    have I2 : Inv Y (go :: cp) σ H (s₁.setGen gi gs') := inv_kept I rfl (allBare_setGen I.bare hbare) fun _ _ e => e
    refine hY i m cp y v σ H _ hcp hs0 rv I2 hB fun s'' cp' z hgens hcp' hv hgo' hnl m' hm' w' => ?_
    have kk := kap (s''.setGen gi .running) m' cp' ⟨z.os, allBare_setGen z.bare rfl, fun b o hb e => z.keep b o hb e⟩ hcp' hv hm' w'
    cases n with
    | zero => exact False.elim kk
    | succ n => exact ⟨n, Nat.lt_succ_self n, hgo _ hgo', hnl, gs', by rw [hgens]; exact setGen_at hsz1, kk⟩
  · intro hsz
    obtain ⟨cp, σ, H, hcp, hs0, I, dn⟩ := hp
    exact hD cp σ H _ hcp hs0 (inv_kept I rfl (allBare_setGen I.bare rfl) hk) dn
/-- all(..) walks it -/
theorem all_loop_gen {gi : Nat} {A : Around} {R : Result → Shared → Prop} {Fl : L2.St → Hp → Prop} (hh : A.handled = none) (hroom : A.depth < recursionLimit) (hgo : ∀ h : Heap, h.get? go.1 = some go.2 → h.IsGen go.1 gi)
    (hB : ∀ i m cp y σ H, B i m cp y σ H → ∃ b, y = .bl b ∧ if b = true then ∃ m', m' < m ∧ W (i + 1) m' [] σ H else Fl σ H)
    (hF : ∀ pins σ H s, Inv Y pins σ H s → Fl σ H → R (.ok (.ret (.bool false))) s) (hT : ∀ pins σ H s cp, Inv Y pins σ H s → Dn cp σ H → R (.ok (.ret (.bool true))) s) :
    ∀ (n : Nat) (s : Shared), Asl Y A.in1.in1 go gi [] W B Dn n s → codeAny (model Y.prog Y.w) A (.builtin "all.loop" ⟨[.ref go.1], []⟩) R s := by
  intro n
  induction n using Nat.strongRecOn with
  | ind n ih =>
    intro s a
    refine codeAny_builtin F.entry_all_loop ?_
    rw [Around.under_plainId F.plain_all_loop _]
    show wpAny _ A.in1 (pyNext (.ref go.1) >>= _) _ _ s
    refine wpAny_bind (next_gen (C := A.in1) hh hroom hgo a (fun i m cp y v σ H s' hcp _ rv I hb again => ?_) fun cp σ H s' hcp _ I dn => ?_)
    · obtain ⟨b, rfl, hb'⟩ := hB i m cp y σ H hb
      obtain rfl : v = .bool b := rv
      refine wpAny_bind (wpAny_holding (wpAny_truthy_bool ?_))
      refine wpAny_bind (wpAny_letGo ?_)
      cases b with
      | true =>
        rw [if_pos rfl] at hb'
        obtain ⟨m', hm', w'⟩ := hb'
        simp only [if_true]
        have e0 : cp = [] := by
          have := congrArg List.length hcp
          rw [List.length_map] at this
          exact List.eq_nil_of_length_eq_zero this
        obtain ⟨k, hk, ak⟩ := again s' [] ⟨rfl, I.bare, fun _ _ _ e => e⟩ rfl rfl (fun p hp => nomatch hp) (I.pin go (List.mem_append_right _ List.mem_cons_self)).1 I.nolimit m' hm' w'
        exact wpAny_pure ⟨plainId_quiet F.plain_all_loop _, ih k hk s' ak⟩
      | false =>
        rw [if_neg Bool.false_ne_true] at hb'
        simp only [Bool.false_eq_true, if_false]
        exact wpAny_bind (wpAny_rule (wpAny_pure (hF _ σ H s' I hb')))
    · exact wpAny_bind (wpAny_rule (wpAny_pure (hT _ σ H s' cp I dn)))
end
section
variable {X : Cx} {pins : List (Addr × Obj)} {σ : L2.St} {H : Hp} {s : Shared} {N : List Str} {nt : Nat} {fr : List Nat} {scope : Scope}
/-- a generator that has not begun: the frame's context, where it was made -/
structure Fresh (X : Cx) (pins : List (Addr × Obj)) (σ : L2.St) (N : List Str) (nt : Nat) (fr : List Nat) (scope : Scope) (tg elt iter : Expr) (ifs : List Expr) (gpos : Pos) (J : It) (H2 : Hp) (a : Addr) (s5 : Shared) : Prop where
  ex : ∃ (s4 : Shared) (code : Value) (fp : List Addr) (it : Addr) (tn : Nat → Heap → Prop) (go : Obj) (gi : Nat),
    Inv X pins σ H2 s4 ∧ (∀ b ∈ fp, FpOk X pins H2 b) ∧ (∀ b ∈ fp, b < s4.heap.objs.size) ∧ s4.heap.objs.size < a ∧ a < s5.heap.objs.size ∧ Turn X.prog X.w X.K tg J fp it tn ∧ tn 0 s5.heap ∧ (∀ h : Heap, h.get? a = some go → h.IsGen a gi) ∧ s5.heap.get? a = some go ∧
    s5.gens[gi]? = some (.fresh (.compStart (.GeneratorExp elt [⟨tg, iter, ifs, 0⟩] scope gpos) 0 (.ref it) .none (genEnv scope (cloFrom X.env.cells scope.names []) s4.heap.objs.size code builtinsNs X.env))) ∧
    Inv (gxC X N scope s4.heap.objs.size code fp s4 H2) [(a, go)] (capSt nt fr σ) H2 s5
theorem gen_mkI {c P : Addr} {elt iter tg : Expr} {ifs : List Expr} {gpos : Pos} {wi : TI} {k : Nat} {Q' : Value → Shared → Prop} {R : It → Hp → Prop} (hcalm : X.calm = true)
    (hr : Room k X.A) (TB : TabB X.base X.mg c P) (hcode : X.env.code = .ref c) (S : GnS scope) (hfr : freeOk scope X.env.scope = true) (hcap : capOk N nt fr X.N scope X.env.scope = true) (hi : PI X tg iter wi)
    (hs : ∀ v, genFold iter X.env v = pure v) (I : Inv X pins σ H s) (h : wi σ H fun J H1 => TabG H1 P ∧ ∀ H2, Tabbed P H1 H2 → R J H2)
    (hQ : ∀ J H2 a s5, R J H2 → Fresh X pins σ N nt fr scope tg elt iter ifs gpos J H2 a s5 → Q' (.ref a) s5) :
    wpAny (model X.prog X.w) X.A (eval (.GeneratorExp elt [⟨tg, iter, ifs, 0⟩] scope gpos) X.env) Q' X.xe s := by
  have hcl : closureFor scope X.env = pure (cloFrom X.env.cells scope.names []) := closure_ok fun y hy hf => by
    refine I.ok.has y.1 ?_
    unfold freeOk at hfr
    rw [List.all_eq_true] at hfr
    have := hfr _ hy
    rw [hf] at this
    simp only at this
    split at this
    · rename_i e; exact .inl e
    · rename_i e; exact .inr e
    · cases this
  refine wpAny_GeneratorExp_make S.co hcl S.cell S.dot S.kind (by have := hr.dp; omega) ?_ hs
  refine thn (hi.run pins s σ H _ I h) fun xv s1 h1 => thn h1 fun itv s2 h2 => ?_
  obtain ⟨it, fp, tn, J, H1, e, I2, T, st2, f2, ⟨ps, hP, htr⟩, hR⟩ := h2
  subst e
  have hPs : s2.heap.get? P = some { cls := .none, data := .fields ps } := I2.hok P _ hP
  have hPlt := Heap.lt_size hPs
  have cd : PySem.W.CodeHd s2.heap c P := TB.code.keeps fun b u e => I2.bk b u e
  have fpP : ∀ b ∈ fp, b ≠ P := fun b hb e => by
    have := (f2 b hb).1
    rw [e, hP] at this
    cases this
  refine ⟨I2.nolimit, ?_⟩
  have fin : ∀ (code : Value) (h3 : Heap) (tk : Nat) (qs : Array Value), Heap.ExtBut P s2.heap h3 → s2.heap.objs.size ≤ h3.objs.size → h3.get? P = some { cls := .none, data := .fields qs } → (∃ more, qs = ps ++ more) → TriplesOk qs.toList →
      wpAny (model X.prog X.w) X.A (builtinsFor X.env.globals X.env.builtins) (fun bi s₄ =>
        ∀ h', h'.Ns s₄.heap.objs.size (fun y => if y = ".0" then some (.ref it) else none) → Heap.SameBut s₄.heap.objs.size (s₄.heap.push { cls := .type "frame", data := .dict #[] }) h' →
          Q' (.ref h'.objs.size) { s₄ with
            gens := s₄.gens.push (.fresh (.compStart (.GeneratorExp elt [⟨tg, iter, ifs, 0⟩] scope gpos) 0 (.ref it) .none (genEnv scope (cloFrom X.env.cells scope.names []) s₄.heap.objs.size code bi X.env))),
            toks := s₄.toks + 1 + 1 + 1,
            heap := h'.push { cls := .type "generator", data := .fields #[.int s₄.gens.size 0, .str "<genexpr>" (s₄.toks + 1), .str (X.env.qual ++ "<genexpr>") (s₄.toks + 1 + 1)] } }) X.xe { s2 with heap := h3, toks := tk } := by
    intro code h3 tk qs hx hsz hP3 hmore htq
    obtain ⟨bm, ob, e1, e2, e3, e4, e5, e6, e7, e8⟩ := TB.bm
    have nbP : (builtinsNs : Addr) ≠ P := fun e => by
      obtain ⟨mb, hns, _⟩ := I2.mod.blt
      obtain ⟨o', es, ep, ho, hd, _⟩ := hns
      have ho := I2.bk _ _ ho
      rw [e, hPs] at ho
      cases ho; cases hd
    refine wpAny_builtinsFor (m := X.mg) (by rw [I2.ok.glob]; exact (I2.mod.glob.keeps I2.bk).extBut hx TB.gP) e1 e2 (hx _ _ e4 (I2.bk _ _ e5)) e6 e7 e8 ?_
    obtain ⟨more, em⟩ := hmore
    intro h' hn' hs'
    have I4 := inv_tab (more := more) (h' := h3) (g' := s2.gens) (d' := s2.drawn) (t' := tk) I2 hP (fun b u hb e => hx b u hb e) (by rw [← em]; exact hP3) I2.bare
    have hsz' : h'.objs.size = h3.objs.size + 1 := by rw [hs'.1, Heap.size_push]
    have keep' : ∀ b o, h3.get? b = some o → h'.get? b = some o := fun b o e => hs'.extBut b o (Nat.ne_of_lt (Heap.lt_size e)) (Heap.get?_push_of_some _ e)
    have lt2 : ∀ b ∈ fp, b < s2.heap.objs.size := fun b hb => by
      obtain ⟨o, e, _⟩ := T.obj 0 _ st2 b hb
      exact Heap.lt_size e
    have f4 : ∀ b ∈ fp, FpOk X pins (upd H1 P (.tbl (ps ++ more))) b := fun b hb => ⟨by rw [upd_ne (fpP b hb)]; exact (f2 b hb).1, (f2 b hb).2⟩
    have lt4 : ∀ b ∈ fp, b < h3.objs.size := fun b hb => Nat.lt_of_lt_of_le (lt2 b hb) hsz
    refine hQ J (upd H1 P (.tbl (ps ++ more))) _ _ (hR _ ⟨⟨ps ++ more, upd_same, by rw [← em]; exact htq⟩, fun b hb => upd_ne hb⟩) ⟨_, code, fp, it, tn, _, s2.gens.size, I4, f4, lt4, ?_, ?_, T, ?_, fun h e => ⟨_, _, _, e, rfl, rfl, rfl⟩, Heap.get?_push_size _ rfl, Array.getElem?_push_size .., gen_start hcalm S hfr hcap I4 f4 lt4 hn' (fun b o e => Heap.get?_push_of_some _ (keep' b o e)) (fun o e => Heap.get?_push_of_some _ e) rfl (I2.bare.push rfl) (Heap.get?_push_size _ rfl) ?_ ?_⟩
    · show h3.objs.size < h'.objs.size
      omega
    · show h'.objs.size < (h'.push _).objs.size
      rw [Heap.size_push]; exact Nat.lt_succ_self _
    · exact T.keep 0 _ _ st2 fun b hb o e => Heap.get?_push_of_some _ (keep' b o (hx b o (fpP b hb) e))
    · show h3.objs.size < h'.objs.size
      omega
    · intro v z; cases z
  cases hf : codeAmong gpos ps.toList with
  | none =>
    refine wpAny_genexprCodeX hcode (cd.code hPs htr) (cd.tab hPs) hf fun c' h' tk hx hge hlt hco' _ htab' _ => ?_
    obtain ⟨o1, vs, f1, tf, fl, tg, inF, tx, tt, op, _, _, _, _, _, _, _, _, _, hz, _⟩ := hco'
    exact fin _ h' tk _ hx (Nat.le_trans hge (Nat.le_of_lt hlt)) htab'.2 ⟨_, rfl⟩ hz
  | some cv =>
    refine wpAny_genexprCode_hit hcode (cd.code hPs htr) hf ?_
    exact fin cv s2.heap s2.toks ps (Heap.ExtBut.refl _ _) (Nat.le_refl _) hPs ⟨#[], by simp⟩ htr
/-- the turns of a for, as a reading -/
def tForB (J : It) (g : TG) (tb : TS) : TS := fun D σ H => ∃ W : Nat → Nat → L2.St → Hp → Prop, (∃ m, W 0 m σ H) ∧ ∀ i m σ H, W i m σ H →
  (J.stop i H ∧ D.nx σ H) ∨ (J.go i H ∧ ∃ N : L2.St → Hp → Prop, (∀ σ' H', N σ' H' → ∃ m', m' < m ∧ W (i + 1) m' σ' H') ∧ ∀ x H', J.yld i H x H' → g x σ H' fun σ2 H2 => tb { D with nx := N, ct := N, bk := D.nx } σ2 H2)
def tbAll (tt : TT) (te : TE) : TS := fun D σ H => tt σ H fun b H3 => if b = true then te σ H3 (fun y H4 => ∃ b, y = .bl b ∧ if b = true then D.nx σ H4 else D.rt (.bl false) H4) else D.nx σ H3
/-- all(elt for tg in iter if ..); st: the captured names -/
def tAllG (P : Addr) (wi : TI) (g : TG) (tt : TT) (te : TE) (st : L2.St → L2.St) : TE := fun σ H Q => wi σ H fun J H1 => TabG H1 P ∧ ∀ H2, Tabbed P H1 H2 → tForB J g (tbAll tt te) { nx := fun _ H => Q (.bl true) H, rt := Q } (st σ) H2
theorem back_to {a : Addr} {s4 s' : Shared} {code : Value} {fp : List Addr} {H2 H' : Hp} {pp : List (Addr × Obj)} {σ' : L2.St} (I4 : Inv X pins σ H2 s4) (hf : ∀ b ∈ fp, FpOk X pins H2 b) (J : Inv (gxC X N scope a code fp s4 H2) pp σ' H' s') : Inv X pins σ H' s' :=
  I4.call' (ch := fp) J.os J.base J.hok J.bare fun b hb => ⟨(hf b hb).2.2.2.1, (hf b hb).2.1, (hf b hb).2.2.2.2.1, (hf b hb).2.2.2.2.2⟩
theorem stat_of {a : Addr} {s4 : Shared} {code : Value} {fp : List Addr} {H2 : Hp} {pp : List (Addr × Obj)} (S : GnS scope) (I4 : Inv X pins σ H2 s4) (hf : ∀ b ∈ fp, FpOk X pins H2 b) (hlt : ∀ b ∈ fp, b < s4.heap.objs.size) (hfr : freeOk scope X.env.scope = true) (ha : s4.heap.objs.size ≤ a) (hpp : ∀ p ∈ pp, s4.heap.objs.size ≤ p.1) {H' : Hp} (h0 : ∀ b ∈ fp, H' b = none) :
    ∀ b ∈ fp, FpOk (gxC X N scope a code fp s4 H2) pp H' b := fun b hb => by
  have lt := hlt b hb
  refine ⟨h0 b hb, Nat.ne_of_lt (Nat.lt_of_lt_of_le lt ha), fun z => ?_, .inl hb, fun x c h => ?_, fun p hp e => ?_⟩
  · rcases List.mem_cons.mp (I4.stkSub b z) with y | y
    · exact (hf b hb).2.1 y
    · exact (hf b hb).2.2.1 y
  · obtain ⟨h1, h2⟩ := clo_from h
    unfold freeOk at hfr
    rw [List.all_eq_true] at hfr
    have q := hfr _ h1
    simp only at q
    have : X.env.kindOf x = some .cell ∨ X.env.kindOf x = some .free := by
      split at q
      · rename_i e; exact .inl e
      · rename_i e; exact .inr e
      · cases q
    obtain ⟨c0, e0⟩ := I4.ok.has x this
    rw [h2, e0]
    exact (hf b hb).2.2.2.2.1 x c0 e0
  · have hp : p ∈ pp := by simpa [gxC] using hp
    have := hpp p hp
    rw [e] at this
    exact absurd (Nat.lt_of_lt_of_le lt this) (Nat.lt_irrefl _)
theorem pe_allG {c P : Addr} {elt iter tg : Expr} {ifs : List Expr} {p pos gpos : Pos} {wi : TI} {g : TG} {tt : TT} {te : TE} {k : Nat} (hcalm : X.calm = true) (hr : Room (k + 2) X.A) (B : Blt X.mg) (TB : TabB X.base X.mg c P) (hcode : X.env.code = .ref c)
    (S : GnS scope) (hfr : freeOk scope X.env.scope = true) (hcap : capOk N nt fr X.N scope X.env.scope = true) (hi : PI X tg iter wi)
    (hg : ∀ C code fp s4 H4, Room k (gxC X N scope C code fp s4 H4).A → PG (gxC X N scope C code fp s4 H4) tg g) (ht : ∀ C code fp s4 H4, Room k (gxC X N scope C code fp s4 H4).A → PTs (gxC X N scope C code fp s4 H4) ifs tt)
    (he : ∀ C code fp s4 H4, Room k (gxC X N scope C code fp s4 H4).A → PE (gxC X N scope C code fp s4 H4) elt te)
    (hs : ∀ v, genFold iter X.env v = pure v) (hgl : Gl X "all" := by rfl)
    (hse : starEach [.GeneratorExp elt [⟨tg, iter, ifs, 0⟩] scope gpos] X.env = (false, eval (.GeneratorExp elt [⟨tg, iter, ifs, 0⟩] scope gpos) X.env) :: starEach [] X.env := by rfl) :
    PE X (.Call (.Name "all" p) [.GeneratorExp elt [⟨tg, iter, ifs, 0⟩] scope gpos] [] pos) (tAllG P wi g tt te (capSt nt fr)) := by
  refine ⟨fun pins s σ H Q I h => ?_⟩
  have hh : X.A.handled = none := I.ok.hd hcalm
  refine wpAny_Call_Name_kw (ld_blt I hgl B.all (show bootBuiltins "all" = some (.builtin "all") by decide +kernel) ?_)
  refine PyProof.Rows.callWith_builtin1 ?_ hse (by rfl)
  rw [hse]
  show wpAny _ _ (spliced ((false, eval (.GeneratorExp elt [⟨tg, iter, ifs, 0⟩] scope gpos) X.env) :: backTo pos (starEach [] X.env))) _ _ s
  refine Calls.spliced_cons (gen_mkI (N := N) (nt := nt) (fr := fr) (R := fun J H2 => tForB J g (tbAll tt te) { nx := fun _ H => Q (.bl true) H, rt := Q } (capSt nt fr σ) H2) hcalm hr TB hcode S hfr hcap hi hs I h fun J H2 a s5 hR hF => ?_)
  refine Calls.spliced_nil ?_
  obtain ⟨s4, code, fp, it, tn, go, gi, I4, hf, hlt, ha, ha2, T, st5, hgo, hga, hgs, I5⟩ := hF
  obtain ⟨W, ⟨m0, w0⟩, turn⟩ := hR
  have hrA : Room k (gxC X N scope s4.heap.objs.size code fp s4 H2).A := by
    have r1 := hr.dp
    have r2 := hr.un
    have q1 : (gxC X N scope s4.heap.objs.size code fp s4 H2).A.depth = X.A.depth + 1 := rfl
    have q2 : (gxC X N scope s4.heap.objs.size code fp s4 H2).A.units = X.A.units + 1 + 1 + 3 := rfl
    exact ⟨hh, by omega, by omega⟩
  refine call_function_tree F.kind_all F.plain_all F.entry_all (F.args_all1 _) ?_
  unfold Builtin.«all»
  refine wpAny_bind (m := oneArg "all" _) (wpAny_pure ?_)
  refine wpAny_bind (wpAny_pyIter_gen (hgo _ hga) ?_)
  refine wpAny_pure ⟨plainId_quiet F.plain_all_loop _, ?_⟩
  have depth : X.A.depth < recursionLimit := by have := hr.dp; omega
  refine all_loop_gen (Y := gxC X N scope s4.heap.objs.size code fp s4 H2) (go := (a, go)) (gi := gi) (W := fun i m cp σ H => W i m σ H) (B := fun i m cp y σ H => ∃ b, y = .bl b ∧ if b = true then ∃ m', m' < m ∧ W (i + 1) m' σ H else Q (.bl false) H) (Dn := fun _ _ H => Q (.bl true) H) (Fl := fun _ H => Q (.bl false) H)
    hh depth hgo (fun i m cp y σ H hb => hb) (fun pp σ' H' s' J' q => ⟨.bl false, H', back_to I4 hf J', rfl, q⟩) (fun pp σ' H' s' cp J' q => ⟨.bl true, H', back_to I4 hf J', rfl, q⟩) (m0 + 1) s5 ⟨hgo _ hga, I5.nolimit, _, hgs, rfl, ?_⟩
  refine seg_turns0 (Y := gxC X N scope s4.heap.objs.size code fp s4 H2) (fp := fp) (tn := tn) (J := J) (tg := tg) (g := g) (tt := tt) (te := te) rfl (fun _ _ z => z) rfl T (hg _ _ _ _ _ hrA) (ht _ _ _ _ _ hrA) (he _ _ _ _ _ hrA) S.co (fun i m cp σ H w => ?_)
    (fun cp H' hcp h0 => stat_of S I4 hf hlt hfr (Nat.le_refl _) (fun p hp => ?_) h0) (fun b hb => absurd hb List.not_mem_nil) (fun p hp hb => absurd hb List.not_mem_nil) (fun b hb hb2 => absurd hb2 List.not_mem_nil) (Nat.lt_succ_self m0) (cp := []) rfl (fun p hp => nomatch hp) (inv_kept I5 rfl (allBare_setGen I5.bare rfl) fun _ _ e => e) st5 (fun b hb => (hf b hb).1) w0
  · rcases turn i m σ H w with ⟨q1, q2⟩ | ⟨q1, Nt, hN, q2⟩
    · exact .inl ⟨q1, q2⟩
    · refine .inr ⟨q1, fun y σ' H' => ∃ b, y = .bl b ∧ if b = true then Nt σ' H' else Q (.bl false) H', Nt, fun y σ' H' ⟨b, e, z⟩ => ⟨b, e, ?_⟩, hN, q2⟩
      cases b with
      | true => rw [if_pos rfl] at z ⊢; exact hN _ _ z
      | false => rw [if_neg Bool.false_ne_true] at z ⊢; exact z
  · have e0 : cp = [] := by
      have := congrArg List.length hcp
      rw [List.length_map] at this
      exact List.eq_nil_of_length_eq_zero this
    subst e0
    rw [List.mem_singleton.mp hp]
    exact Nat.le_of_lt ha
end
end SC
/-! several tables of code at once; the state of a law that has them -/
namespace SC
open PySem L2
def Tabs (Ts : List Addr) (H : Hp) : Prop := ∀ P ∈ Ts, GxR.TabG H P
section
variable {Ts S : List Addr} {P st p : Addr} {H0 H H' : Hp} {K : PySem.W.Frag}
theorem Tabs.kp1 (h : Tabs Ts H) (k : Kp [P] H H') (g : GxR.TabG H' P) : Tabs Ts H' := fun Q m => if e : Q = P then e ▸ g else tabG_kp (h Q m) k (by simpa using e)
theorem Tabs.kp (h : Tabs Ts H) (k : Kp S H H') (n : ∀ P ∈ Ts, P ∉ S) : Tabs Ts H' := fun Q m => tabG_kp (h Q m) k (n Q m)
theorem Tabs.kp0 (h : Tabs Ts H) (k : Kp [] H H') : Tabs Ts H' := h.kp k fun _ _ => List.not_mem_nil
theorem Tabs.ne (h : Tabs Ts H) {b : Addr} {o : HO} (e : H b = some o) (no : ∀ ps, o ≠ .tbl ps := by intro ps z; cases z) : b ∉ Ts := fun m => by
  obtain ⟨ps, q, _⟩ := h b m
  rw [e] at q
  exact no ps (Option.some.inj q)
theorem Tabs.ne0 (h : Tabs Ts H) {b : Addr} (e : H b = none) : b ∉ Ts := fun m => by
  obtain ⟨ps, q, _⟩ := h b m
  rw [e] at q
  cases q
theorem Tabs.new (h : Tabs Ts H) (e : H p = none) (o : HO) : Tabs Ts (upd H p o) := h.kp0 (Kp.new e o)
theorem Tabs.tab (h : Tabs Ts H) (t : GxR.Tabbed P H H') (m : P ∈ Ts) : Tabs Ts H' := h.kp1 (Kp.tab (h P m) t (List.mem_singleton.mpr rfl)) t.1
theorem Kp.in1 (k : Kp [P] H H') (m : P ∈ Ts) : Kp Ts H H' := k.mono fun b hb => by rw [List.mem_singleton.mp hb]; exact m
theorem Kp.in0 (k : Kp [] H H') : Kp S H H' := k.mono fun b hb => absurd hb List.not_mem_nil
theorem Kp.get {b : Addr} {o : HO} (k : Kp Ts H H') (g : Tabs Ts H) (h : H b = some o) (no : ∀ ps, o ≠ .tbl ps := by intro ps z; cases z) : H' b = some o := k.keep b o (g.ne h no) h
theorem Kp.tys {v : V} {t : String} (k : Kp Ts H H') (g : Tabs Ts H) (h : tyN H v = some t) : tyN H' v = some t := by
  cases v with
  | ref p =>
    unfold tyN at h
    simp only at h
    split at h
    · rename_i xs q; cases h; exact tyN_lst (k.get g q)
    · rename_i xs q; cases h; exact tyN_tup (k.get g q)
    · rename_i xs q; cases h; exact tyN_dK (k.get g q)
    · cases h
  | _ => exact h
theorem Kp.seqs {a : Addr} {xs : List V} (k : Kp Ts H H') (g : Tabs Ts H) (h : SqL K H a xs) : SqL K H' a xs := by
  rcases h with (h | ⟨o, h⟩) | h
  · exact .inl (.inl (k.get g h))
  · exact .inl (.inr ⟨o, k.get g h⟩)
  · exact .inr h
/-- a law's state: tables may have grown, the stream stands, all else that was there is as it was -/
structure LT (Ts : List Addr) (st : Addr) (H0 H : Hp) : Prop where
  k : Kp Ts H0 H
  g : Tabs Ts H
  s : Strm H st
  g0 : Tabs Ts H0
  fr : H0 st = none
theorem LT.ne (L : LT Ts st H0 H) : st ∉ Ts := let ⟨_, _, e⟩ := L.s; L.g.ne e
/-- what is written: a table, or what was not there at the beginning -/
theorem LT.go (L : LT Ts st H0 H) (k : Kp S H H') (hS : ∀ b ∈ S, b ∈ Ts ∨ H0 b = none) (g : Tabs Ts H') (s : Strm H' st) : LT Ts st H0 H' := by
  refine ⟨⟨fun b o n q => ?_, fun b xs q => k.tup b xs (L.k.tup b xs q)⟩, g, s, L.g0, L.fr⟩
  refine k.keep b o (fun m => ?_) (L.k.keep b o n q)
  rcases hS b m with z | z
  · exact n z
  · rw [q] at z; cases z
theorem LT.take (L : LT Ts st H0 H) (k : Kp [st] H H') (s : Strm H' st) : LT Ts st H0 H' :=
  L.go k (fun b hb => .inr (by rw [List.mem_singleton.mp hb]; exact L.fr)) (L.g.kp k fun P m z => L.ne (by rw [← List.mem_singleton.mp z]; exact m)) s
theorem LT.tabs (L : LT Ts st H0 H) (k : Kp Ts H H') (g : Tabs Ts H') : LT Ts st H0 H' := L.go k (fun b hb => .inl hb) g (L.s.kp k L.ne)
theorem LT.kp0 (L : LT Ts st H0 H) (k : Kp [] H H') : LT Ts st H0 H' := L.go k (fun b hb => absurd hb List.not_mem_nil) (L.g.kp0 k) (L.s.kp k List.not_mem_nil)
theorem LT.new (L : LT Ts st H0 H) (h : H p = none) (o : HO) : LT Ts st H0 (upd H p o) := L.kp0 (Kp.new h o)
theorem LT.free (L : LT Ts st H0 H) (h : H p = none) : H0 p = none := by
  cases e : H0 p with
  | none => rfl
  | some o =>
    exfalso
    by_cases m : p ∈ Ts
    · exact L.g.ne0 h m
    · have := L.k.keep p o m e
      rw [h] at this; cases this
theorem LT.seq {a : Addr} {xs : List V} (L : LT Ts st H0 H) (h : SqL K H0 a xs) : SqL K H a xs := L.k.seqs L.g0 h
theorem LT.lst (L : LT Ts st H0 H) {xs ys : List V} (h0 : H0 p = none) (h : H p = some (.lst xs)) (n : p ≠ st) : LT Ts st H0 (upd H p (.lst ys)) := by
  have k : Kp [p] H (upd H p (.lst ys)) := Kp.lst h (List.mem_singleton.mpr rfl)
  exact L.go k (fun b hb => .inr (by rw [List.mem_singleton.mp hb]; exact h0)) (L.g.kp k fun P m z => by rw [List.mem_singleton.mp z] at m; exact L.g.ne h (by intro ps z; cases z) m) (L.s.kp k (by simpa using n.symm))
end
/-- a method of the class at C that keeps its promise -/
structure CalM (P : Program) (w : World) (K : PySem.W.Frag) (mg : Str → Option Value) (base : Heap) (CX : CXT) (k : Nat) (C : Addr) (x : Str) (sp : Sp) : Prop where
  ex : ∃ f fd ps, FnOk P w K mg base CX k f fd ps sp ∧ Meth K C x f ∧ Binds K fd ps []
  cl : Cls K C
/-- a class that is made without arguments -/
structure CalK (P : Program) (w : World) (K : PySem.W.Frag) (mg : Str → Option Value) (base : Heap) (CX : CXT) (k : Nat) (C : Addr) (x : Str) (sp : Sp) : Prop where
  ex : ∃ f fd ps, FnOk P w K mg base CX k f fd ps sp ∧ Mk K C f ∧ Binds K fd ps []
  mg : mg x = some (.ref C)
section
variable {P : Program} {w : World} {K : PySem.W.Frag} {mg : Str → Option Value} {base : Heap} {CX : CXT} {C : Addr} {x : Str} {sp : Sp}
theorem CalM.mono {j k : Nat} (c : CalM P w K mg base CX j C x sp) (h : j ≤ k) : CalM P w K mg base CX k C x sp :=
  let ⟨f, fd, ps, F, m, b⟩ := c.ex
  ⟨⟨f, fd, ps, F.mono h, m, b⟩, c.cl⟩
theorem CalM.imp {k : Nat} {sp' : Sp} (c : CalM P w K mg base CX k C x sp) (h : ∀ vs H Q E, sp' vs H Q E → sp vs H Q E) : CalM P w K mg base CX k C x sp' :=
  let ⟨f, fd, ps, F, m, b⟩ := c.ex
  ⟨⟨f, fd, ps, F.imp h, m, b⟩, c.cl⟩
end
section
variable {X : Cx} {x : Str} {p pos apos : Pos} {o e : Expr} {es : List Expr} {ta : TE} {t : TA} {sp : Sp} {j k : Nat} {CX : CXT} {E : XK} {C : Addr} {pl : Sem Bool}
theorem CalM.pex (c : CalM X.prog X.w X.K X.mg X.base CX j C x sp) (hr : Room k X.A) (hx : Passes CX X E) (ho : PE X o ta) (ha : PA X (e :: es) t) (hjk : j ≤ k := by first | decide | omega)
    (hst : starEach (e :: es) X.env = (false, eval e X.env) :: starEach es X.env := by rfl) (hpl : (backTo pos (starEach es X.env)).any (·.1) = false := by rfl)
    (ht : eval (.Call (.Attribute o x apos) (e :: es) [] pos) X.env = (do
      let ov ← eval o X.env
      standAt apos.atName
      let (f, first) ← holding [ov] (getMethod ov x pl)
      callWith pos f first (backTo pos (starEach (e :: es) X.env)) (backToKw pos (keywordEach [] X.env))) := by rfl) :
    PE X (.Call (.Attribute o x apos) (e :: es) [] pos) (tMeth C x sp [] E ta t) :=
  let ⟨_, _, _, F, m, b⟩ := c.ex
  pe_meth ho c.cl m F (hr.mono hjk) b .nil hx ha hst hpl ht
theorem CalM.pe (c : CalM X.prog X.w X.K X.mg X.base CX0 j C x sp) (hr : Room k X.A) (ho : PE X o ta) (ha : PA X (e :: es) t) (hjk : j ≤ k := by first | decide | omega)
    (hst : starEach (e :: es) X.env = (false, eval e X.env) :: starEach es X.env := by rfl) (hpl : (backTo pos (starEach es X.env)).any (·.1) = false := by rfl)
    (ht : eval (.Call (.Attribute o x apos) (e :: es) [] pos) X.env = (do
      let ov ← eval o X.env
      standAt apos.atName
      let (f, first) ← holding [ov] (getMethod ov x pl)
      callWith pos f first (backTo pos (starEach (e :: es) X.env)) (backToKw pos (keywordEach [] X.env))) := by rfl) :
    PE X (.Call (.Attribute o x apos) (e :: es) [] pos) (tMeth C x sp [] E0 ta t) := c.pex hr pass0 ho ha hjk hst hpl ht
/-- of a method that may raise, where it does not -/
theorem CalM.peL (c : CalM X.prog X.w X.K X.mg X.base (L2.CX X.prog X.w) j C x sp) (hr : Room k X.A) (ho : PE X o ta) (ha : PA X (e :: es) t) (hjk : j ≤ k := by first | decide | omega)
    (hst : starEach (e :: es) X.env = (false, eval e X.env) :: starEach es X.env := by rfl) (hpl : (backTo pos (starEach es X.env)).any (·.1) = false := by rfl)
    (ht : eval (.Call (.Attribute o x apos) (e :: es) [] pos) X.env = (do
      let ov ← eval o X.env
      standAt apos.atName
      let (f, first) ← holding [ov] (getMethod ov x pl)
      callWith pos f first (backTo pos (starEach (e :: es) X.env)) (backToKw pos (keywordEach [] X.env))) := by rfl) :
    PE X (.Call (.Attribute o x apos) (e :: es) [] pos) (tMeth C x sp [] E0 ta t) := c.pex hr passL ho ha hjk hst hpl ht
theorem CalM.pe0 (c : CalM X.prog X.w X.K X.mg X.base CX0 j C x sp) (hr : Room k X.A) (ho : PE X o ta) (hjk : j ≤ k := by first | decide | omega)
    (ht : eval (.Call (.Attribute o x apos) [] [] pos) X.env = (do
      let ov ← eval o X.env
      standAt apos.atName
      let (f, first) ← holding [ov] (getMethod ov x pl)
      callWith pos f first (backTo pos (starEach [] X.env)) (backToKw pos (keywordEach [] X.env))) := by rfl) :
    PE X (.Call (.Attribute o x apos) [] [] pos) (tMeth C x sp [] E0 ta tNil) :=
  let ⟨_, _, _, F, m, b⟩ := c.ex
  pe_meth0 ho c.cl m F (hr.mono hjk) b .nil pass0 ht
theorem CalK.pe0 (c : CalK X.prog X.w X.K X.mg X.base CX0 j C x sp) (hr : Room k X.A) (hjk : j + 1 ≤ k := by first | decide | omega) (hg : Gl X x := by rfl) (hdb : (x == ("__debug__" : Str)) = false := by decide) :
    PE X (.Call (.Name x p) [] [] pos) (tMake C sp [] E0 tNil) :=
  let ⟨_, _, _, F, m, b⟩ := c.ex
  pe_make0 m F (hr.mono hjk) hg c.mg b .nil pass0 hdb
end
end SC
/-! try with several clauses that name the caught error, all by one name -/
namespace SC
open PySem PySem.Spec PyProof.Rows L2
/-- how the name at the slot i goes behind a suite -/
def dropE (i : Nat) (D : Ends) : Ends := { nx := fun τ G => D.nx (τ.set i none) G, rt := D.rt, bk := fun τ G => D.bk (τ.set i none) G, ct := fun τ G => D.ct (τ.set i none) G }
/-- o.m(..) of a method that may raise, the wish by the slots -/
def tMethV (C : Addr) (m : Str) (sp : Sp) (E : L2.St → XK) (ta : TE) (t : TA) : TE := fun σ H Q => ta σ H fun x H1 => ∃ a dx fs, x = .ref a ∧ H1 a = some (.ins C dx fs) ∧ fs.lookup m = none ∧ t σ H1 fun vs H2 => sp (x :: vs) H2 Q (E σ)
end SC
set_option maxHeartbeats 3200000
/-! sorted(set(xs)) and sorted(xs) of texts, of any number -/
namespace SC
open PySem PySem.Spec PyProof.Rows L2
open PySem.Froz (SD sObj TxOk addTx tailTx add_ok is_str)
section
variable {P : Program} {w : World} {A : Around} {E : Value → Shared → Prop} {s : Shared}
/-- the set at a holds the texts l, each once; its table rises and can be walked -/
structure TxR (P : Program) (w : World) (h : Heap) (a : Addr) (l : List Str) : Prop where
  ex : ∃ D, h.get? a = some (sObj "set" D) ∧ TxOk P w D l ∧ Ris D.2.2.place.toList ∧ (w.params.followText "set-order" = true ∨ D.2.2.led = true)
  nd : l.Nodup
theorem TxR.at {h h' : Heap} {a : Addr} {l : List Str} (R : TxR P w h a l) (k : ∀ o, h.get? a = some o → h'.get? a = some o) : TxR P w h' a l :=
  let ⟨D, e, r⟩ := R.ex
  ⟨⟨D, k _ e, r⟩, R.nd⟩
/-- the set that set() makes, before the first item -/
abbrev newSetObj (w : World) : Obj := { cls := .type "set", dict := none, data := .set #[] 0 (.fresh 0 0 (!w.params.followText "set-order")) }
theorem TxR.fresh {h : Heap} {a : Addr} (e : h.get? a = some (newSetObj w)) : TxR P w h a [] := by
  refine ⟨⟨(#[], 0, .fresh 0 0 (!w.params.followText "set-order")), e, TxOk.nil rfl, List.Pairwise.nil, ?_⟩, List.nodup_nil⟩
  show _ ∨ (!w.params.followText "set-order") = true
  cases w.params.followText "set-order" <;> simp
theorem addTx_walk {hs : Int} {v : Value} {D : SD} (r : Ris D.2.2.place.toList) (g : w.params.followText "set-order" = true ∨ D.2.2.led = true) :
    Ris (addTx hs v D).2.2.place.toList ∧ (w.params.followText "set-order" = true ∨ (addTx hs v D).2.2.led = true) := by
  obtain ⟨es, ep, t⟩ := D
  have r1 := layNew_ris t es hs v r
  have l1 := layNew_led t es hs v
  unfold addTx tailTx
  dsimp only
  generalize layNew t es hs v = L at r1 l1 ⊢
  obtain ⟨e1, t1, wd, gv⟩ := L
  dsimp only at r1 l1 ⊢
  have r2 : Ris (if t1.plain = true then { t1 with plain := false } else t1).place.toList := by split <;> exact r1
  have l2 : (if t1.plain = true then { t1 with plain := false } else t1).led = t.led := by split <;> exact l1
  generalize (if t1.plain = true then { t1 with plain := false } else t1) = t2 at r2 l2 ⊢
  split
  · refine ⟨relayAll_ris t2 e1 _, g.imp id fun q => ?_⟩
    rw [relayAll_led, l2]; exact q
  · exact ⟨r2, g.imp id fun q => by rw [l2]; exact q⟩
/-- one text is put in -/
theorem TxR.add {a : Addr} {l : List Str} {k : Str} {u : Tok} {Q : Bool → Shared → Prop} (R : TxR P w s.heap a l) (few : l.length + 1 < scanBound)
    (q : ∀ h' b, Heap.SameBut a s.heap h' → TxR P w h' a (if k ∈ l then l else k :: l) → Q b { s with heap := h' }) : wpAny (model P w) A (setAddHashed a (.str k u) (hashStr w k)) Q E s := by
  obtain ⟨D, at_, ok, ris, walk⟩ := R.ex
  by_cases m : k ∈ l
  · obtain ⟨es, ep, t⟩ := D
    have few0 : es.size < scanBound := by have : es.size = l.length := ok.sz; omega
    unfold setAddHashed setAddHashedIn
    refine wpAny_holding (wpAny_bind (wpAny_setState_of at_ (show (sObj "set" (es, ep, t)).data = .set es ep t from rfl) ok.fit ?_))
    dsimp only
    rw [byScan_of (x := Value.str k u) rfl few0 ok.el, if_pos rfl]
    unfold setAddByScan
    refine wpAny_bind (wpAny_bind (wpAny_rule (wpAny_bind (wpAny_setScan_of (knd := strKind P w) (k := k) (is_str k u) at_ (show (sObj "set" (es, ep, t)).data = .set es ep t from rfl) ok.fit ok.el ?_))))
    obtain ⟨e, he, hp⟩ := (ok.mem k).mp m
    cases fnd : List.findIdx? (fun e => (strKind P w).is k e.2) es.toList with
    | none =>
      have := List.findIdx?_eq_none_iff.mp fnd e he
      rw [hp] at this; cases this
    | some j =>
      have z := q s.heap false (Heap.SameBut.refl a s.heap) (by rw [if_pos m]; exact R)
      exact wpAny_pure (wpAny_pure z)
  · refine PySem.Froz.add_x at_ ok m few (q _ _ ?_ ?_)
    · exact ⟨by rw [Heap.size_update], fun b hb => Heap.get?_update_other _ _ (Ne.symm hb)⟩
    · rw [if_neg m]
      exact ⟨⟨addTx (hashStr w k) (.str k u) D, PySem.Froz.get_upd _ at_ rfl, add_ok u ok, addTx_walk ris walk⟩, List.nodup_cons.mpr ⟨m, R.nd⟩⟩
/-- what the first i of xs make of the set at S -/
def Upto (P : Program) (w : World) (S : Addr) (xs : List Str) (i : Nat) (h : Heap) : Prop := ∃ l, TxR P w h S l ∧ (∀ z, z ∈ l ↔ z ∈ xs.take i) ∧ l.length ≤ i
theorem Upto.at {h h' : Heap} {S : Addr} {xs : List Str} {i : Nat} (u : Upto P w S xs i h) (k : ∀ o, h.get? S = some o → h'.get? S = some o) : Upto P w S xs i h' := let ⟨l, r, m⟩ := u; ⟨l, r.at k, m⟩
theorem Upto.more {h' : Heap} {S : Addr} {xs l : List Str} {i : Nat} {z : Str} (at_ : xs[i]? = some z) (mem : ∀ y, y ∈ l ↔ y ∈ xs.take i) (len : l.length ≤ i) (R : TxR P w h' S (if z ∈ l then l else z :: l)) : Upto P w S xs (i + 1) h' := by
  refine ⟨_, R, fun y => ?_, ?_⟩
  · rw [List.take_add_one, at_, List.mem_append, Option.toList_some, List.mem_singleton, ← mem y]
    split
    · rename_i m
      exact ⟨.inl, fun q => q.elim id fun e => by rw [e]; exact m⟩
    · rw [List.mem_cons]
      exact or_comm
  · split
    · omega
    · exact Nat.succ_le_succ len
theorem loop_txts {it S : Addr} {fp wr : List Addr} {G : Array GenState → Array GenState → Prop} {n : Nat} {Pv : Nat → Value → Prop} {St : Nat → Shared → Prop} {R : Result → Shared → Prop} {xs : List Str}
    (W : WalksS P w A.in1 it fp wr G n Pv St) (off : S ∉ fp) (len : n = xs.length) (few : xs.length + 1 < scanBound) (vals : ∀ i v, Pv i v → ∃ z u, xs[i]? = some z ∧ v = Value.str z u) :
    ∀ (k i : Nat) (s : Shared), n - i = k → i ≤ n → St i s → Upto P w S xs i s.heap → (∀ s', Moved (S :: wr) G s s' → Upto P w S xs n s'.heap → R (.ok (.ret .none)) s') →
      codeAny (model P w) A (.builtin "set.update.loop" ⟨[.ref S, .ref it], []⟩) R s := by
  have offW : S ∉ wr := fun m => off (W.sub _ m)
  intro k
  induction k with
  | zero =>
    intro i s left le st up out
    obtain rfl : i = n := by omega
    refine codeAny_builtin F.entry_set_update_loop (by
      rw [Around.under_plainId F.plain_set_update_loop _]
      exact wpAny_bind (m := pyNext (.ref it)) (W.done s _ _ st fun s' moved => wpAny_pure (out s' (moved.mono fun b hb => List.mem_cons_of_mem _ hb) (up.at fun o e => moved.heap S o offW e))))
  | succ k ih =>
    intro i s left le st up out
    have lt : i < n := by omega
    refine codeAny_builtin F.entry_set_update_loop (by
      rw [Around.under_plainId F.plain_set_update_loop _]
      refine wpAny_bind (m := pyNext (.ref it)) (W.item i s _ _ lt st fun v s' is_ st' moved => ?_)
      obtain ⟨z, u, at_, rfl⟩ := vals i v is_
      obtain ⟨l, tr, mem, ll⟩ := up.at (h' := s'.heap) fun o e => moved.heap S o offW e
      refine wpAny_bind (m := holding [Value.str z u] (setAdd S (.str z u))) (wpAny_holding ?_)
      unfold setAdd
      refine wpAny_holding (wpAny_bind ((strKind P w).pyHash (k := z) (is_str z u) ?_))
      refine TxR.add (s := { s' with toks := s'.toks + 1 }) tr (by omega) fun h' b same R2 => ?_
      have frame : ∀ c ∈ fp, ∀ o, s'.heap.get? c = some o → h'.get? c = some o := fun c hc o e => by rw [same.2 c (fun z : c = S => off (by rw [← z]; exact hc))]; exact e
      refine wpAny_pure ⟨plainId_quiet F.plain_set_update_loop _, ih (i + 1) _ (by omega) lt (W.frame _ s' _ _ st' (Nat.le_succ _) frame) (Upto.more at_ mem ll R2) fun s2 moved2 up2 => out s2 (Moved.trans W.gtrans (((moved.mono fun b hb => List.mem_cons_of_mem _ hb)).then_heap (Nat.le_succ _) fun b o off2 e => ?_) moved2) up2⟩
      rw [same.2 b fun z : b = S => off2 (by rw [z]; exact List.mem_cons_self)]
      exact e)
local macro_rules | `(tactic| walk_at "go") => `(tactic| repeat (any_goals (first | assumption | wp_step)))
/-- set(xs), xs a list of texts -/
theorem set_of_txts {l : Addr} {items : Array Value} {xs : List Str} {Q : Value → Shared → Prop} (hh : A.handled = none) (isL : s.heap.IsList l items) (txt : StrsAre items.toList xs) (few : xs.length + 1 < scanBound)
    (q : ∀ (h' : Heap) (tk : Nat), Upto P w s.heap.objs.size xs xs.length h' → (∀ b o, s.heap.get? b = some o → h'.get? b = some o) → Q (.ref s.heap.objs.size) { s with heap := h', toks := tk }) :
    wpAny (model P w) A (call (.type "set") [.ref l]) Q E s := by
  have size : items.size = xs.length := by have z := StrsAre.length txt; rwa [Array.length_toList] at z
  let S := s.heap.objs.size
  let h1 := s.heap.push (newSetObj w)
  have at1 : h1.get? S = some (newSetObj w) := Heap.get?_push_size _ rfl
  have size1 : h1.objs.size = S + 1 := Heap.size_push ..
  obtain ⟨c, tl, mro⟩ := F.called_set.mro
  have made := F.called_set.made
  have sub := F.called_set.sub
  refine wpAny_call (codeAny_of_tree (wpAny_pure ⟨Code.quiet_builtin _ (by decide +kernel), codeAny_builtin F.entry_type_call ?_⟩))
  rw [Around.under_plain (weight_type_call_type "set" [.ref l] []) rfl]
  have nt := F.called_set.notType
  have cc := F.called_set.canCreate
  have tc := F.typeCall_set_1 (.ref l)
  walk_at "go"
  refine codeAny_mono (code_set_led1 (.ref l) (E := E) (Q₁ := fun obj t => obj = .ref S ∧ t = { s with heap := h1 }) ⟨rfl, rfl⟩) fun r t hr => ?_
  cases r with
  | error e => exact hr
  | ok fl =>
    cases fl with
    | next => exact hr.elim
    | brk => exact hr.elim
    | cont => exact hr.elim
    | ret obj =>
      obtain ⟨rfl, rfl⟩ := hr
      have ty : Shared.TypeIs { s with heap := h1 } (.ref S) "set" := ⟨_, at1, rfl⟩
      have li := F.called_set.init.lookup
      have bi := F.called_set.init.bind (.ref S)
      walk_at "go"
      refine codeAny_mono (codeAny_call_builtin (R := wants (fun r t2 => r = .none ∧ ∃ h' tk, t2 = { s with heap := h', toks := tk } ∧ Upto P w S xs xs.length h' ∧ ∀ b o, s.heap.get? b = some o → h'.get? b = some o) E) F.called_set.init.plain F.entry_set_init (check_set_init_1 ty ?_)) fun r2 t2 hr2 => ?_
      · obtain ⟨⟨cls, dct, dat, sls⟩, got, isCls, nn, isDat⟩ := isL
        simp only at isCls isDat
        subst isCls isDat
        have got1 : h1.get? l = some { cls := .type "list", dict := dct, data := .seq items nn, slots := sls } := Heap.get?_push_of_some _ got
        have q1 := F.sub_list_set
        have q2 := F.sub_list_frozenset
        have q3 : (Value.type "list" == Value.type "dict") = false := by decide
        have isL1 : h1.IsList l items := ⟨_, got1, rfl, nn, rfl⟩
        have ltS : l < S := Heap.lt_size got
        unfold Builtin.«set.__init__» noKeywords Builtin.Frozenset.updateFrom
        generalize keepIter : pyIter = PI
        wp_walk
        subst keepIter
        refine wpAny_pyIter_list isL1 (wpAny_bind (wpAny_runValue ?_))
        have calm : A.in1.in1.in1.handled = none := by simp [hh]
        have neIt : l ≠ h1.objs.size := by rw [size1]; exact Nat.ne_of_lt (Nat.lt_succ_of_lt ltS)
        have off : S ∉ [h1.objs.size, l] := by
          rw [size1]
          intro m
          rcases List.mem_cons.mp m with z | z
          · exact Nat.ne_of_lt (Nat.lt_succ_self _) z
          · exact Nat.ne_of_gt ltS (List.mem_singleton.mp z)
        have vals : ∀ (i : Nat) (v : Value), items[i]? = some v → ∃ z u, xs[i]? = some z ∧ v = Value.str z u := fun i v hv => by
          have hi : i < xs.length := by rw [← size]; exact (Array.getElem?_eq_some_iff.mp hv).1
          obtain ⟨u, e⟩ := SS.strs_at txt i v (by rw [Array.getElem?_toList]; exact hv)
          refine ⟨xs[i], u, List.getElem?_eq_getElem hi, e.trans ?_⟩
          rw [List.getD_eq_getElem?_getD, List.getElem?_eq_getElem hi]
          all_goals rfl
        refine loop_txts (xs := xs) (P := P) (w := w) ((Walks.list calm _ l neIt items).toS) off size few vals (items.size - 0) 0 _ (by omega) (Nat.zero_le _) ⟨⟨_, Heap.get?_push_size _ rfl, rfl, rfl⟩, isL1.push _⟩ ?first ?last
        case first => exact ⟨[], TxR.fresh (Heap.get?_push_of_some _ at1), fun z => by simp, Nat.le_refl _⟩
        case last =>
          rintro ⟨h', g', d', tk', os'⟩ moved up
          obtain rfl : g' = s.gens := moved.gens
          obtain rfl : d' = s.drawn := moved.drawn
          obtain rfl : os' = s.os := moved.os
          rw [size] at up
          refine wpAny_pure (wpAny_pure ⟨rfl, h', tk', rfl, up, fun b o e => ?_⟩)
          have ltb : b < S := Heap.lt_size e
          refine moved.heap b o (fun m => ?_) (Heap.get?_push_of_some _ (Heap.get?_push_of_some _ e))
          rcases List.mem_cons.mp m with z | z
          · exact Nat.ne_of_lt ltb z
          · have z := List.mem_singleton.mp z
            rw [size1] at z
            exact absurd z (Nat.ne_of_lt (Nat.lt_succ_of_lt ltb))
      · cases r2 with
        | error e => exact hr2
        | ok fl2 =>
          cases fl2 with
          | next => exact hr2.elim
          | brk => exact hr2.elim
          | cont => exact hr2.elim
          | ret r =>
            obtain ⟨rfl, h', tk, rfl, up, kept⟩ := hr2
            walk_at "go"
            exact q _ _ up kept
end
end SC
namespace SC
open PySem PySem.Spec PyProof.Rows L2
open PySem.Froz (SD sObj TxOk)
/-! the order of texts -/
def lt (x y : Str) : Bool := ltCps (TL.tl x) (TL.tl y)
theorem ltc_irr : ∀ a : List Nat, ltCps a a = false
  | [] => rfl
  | x :: r => by
    show (decide (x < x) || (x == x && ltCps r r)) = false
    rw [ltc_irr r, decide_eq_false (Nat.lt_irrefl x), Bool.and_false]; rfl
theorem ltc_trans : ∀ a b c : List Nat, ltCps a b = true → ltCps b c = true → ltCps a c = true
  | [], [], _, h, _ => by cases h
  | [], _ :: _, [], _, h => by cases h
  | [], _ :: _, _ :: _, _, _ => rfl
  | _ :: _, [], _, h, _ => by cases h
  | _ :: _, _ :: _, [], _, h => by cases h
  | x :: a, y :: b, z :: c, h1, h2 => by
    have k1 : (decide (x < y) || (x == y && ltCps a b)) = true := h1
    have k2 : (decide (y < z) || (y == z && ltCps b c)) = true := h2
    show (decide (x < z) || (x == z && ltCps a c)) = true
    clear h1 h2
    simp only [Bool.or_eq_true, Bool.and_eq_true, decide_eq_true_eq, beq_iff_eq] at k1 k2 ⊢
    rcases k1 with k1 | ⟨e1, k1⟩
    · rcases k2 with k2 | ⟨e2, _⟩
      · exact .inl (Nat.lt_trans k1 k2)
      · exact .inl (by omega)
    · rcases k2 with k2 | ⟨e2, k2⟩
      · exact .inl (by omega)
      · exact .inr ⟨e1.trans e2, ltc_trans a b c k1 k2⟩
theorem ltc_tri : ∀ a b : List Nat, a = b ∨ ltCps a b = true ∨ ltCps b a = true
  | [], [] => .inl rfl
  | [], _ :: _ => .inr (.inl rfl)
  | _ :: _, [] => .inr (.inr rfl)
  | x :: a, y :: b => by
    show _ ∨ (decide (x < y) || (x == y && ltCps a b)) = true ∨ (decide (y < x) || (y == x && ltCps b a)) = true
    simp only [Bool.or_eq_true, Bool.and_eq_true, decide_eq_true_eq, beq_iff_eq]
    rcases Nat.lt_trichotomy x y with h | rfl | h
    · exact .inr (.inl (.inl h))
    · rcases ltc_tri a b with rfl | h | h
      · exact .inl rfl
      · exact .inr (.inl (.inr ⟨rfl, h⟩))
      · exact .inr (.inr (.inr ⟨rfl, h⟩))
    · exact .inr (.inr (.inl h))
theorem lt_irr (x : Str) : lt x x = false := ltc_irr _
theorem lt_trans {x y z : Str} (h1 : lt x y = true) (h2 : lt y z = true) : lt x z = true := ltc_trans _ _ _ h1 h2
theorem lt_tri (x y : Str) : x = y ∨ lt x y = true ∨ lt y x = true := (ltc_tri (TL.tl x) (TL.tl y)).imp TL.ext_tl id
theorem lt_asym {x y : Str} (h : lt x y = true) : lt y x = false := by
  cases e : lt y x with
  | false => rfl
  | true =>
    have := lt_trans h e
    rw [lt_irr] at this; cases this
/-- strictly ascending -/
def asc : List Str → Bool
  | [] => true
  | x :: r => (match r with | [] => true | y :: _ => lt x y) && asc r
theorem asc_cons {x : Str} {r : List Str} : asc (x :: r) = true ↔ (∀ y ∈ r, lt x y = true) ∧ asc r = true := by
  induction r generalizing x with
  | nil => exact ⟨fun _ => ⟨fun y h => absurd h List.not_mem_nil, rfl⟩, fun _ => rfl⟩
  | cons y r ih =>
    show (lt x y && asc (y :: r)) = true ↔ _
    rw [Bool.and_eq_true]
    constructor
    · rintro ⟨h1, h2⟩
      refine ⟨fun z hz => ?_, h2⟩
      rcases List.mem_cons.mp hz with rfl | hz
      · exact h1
      · exact lt_trans h1 ((ih.mp h2).1 z hz)
    · rintro ⟨h1, h2⟩
      exact ⟨h1 y List.mem_cons_self, h2⟩
theorem asc_nodup : ∀ {l : List Str}, asc l = true → l.Nodup
  | [], _ => List.nodup_nil
  | x :: r, h => by
    obtain ⟨h1, h2⟩ := asc_cons.mp h
    refine List.nodup_cons.mpr ⟨fun m => ?_, asc_nodup h2⟩
    have := h1 x m
    rw [lt_irr] at this; cases this
/-- an ascending list is known by its members -/
theorem asc_eq : ∀ {l m : List Str}, asc l = true → asc m = true → (∀ z, z ∈ l ↔ z ∈ m) → l = m
  | [], [], _, _, _ => rfl
  | [], y :: _, _, _, h => absurd ((h y).mpr List.mem_cons_self) List.not_mem_nil
  | x :: _, [], _, _, h => absurd ((h x).mp List.mem_cons_self) List.not_mem_nil
  | x :: l, y :: m, h1, h2, h => by
    obtain ⟨a1, a2⟩ := asc_cons.mp h1
    obtain ⟨b1, b2⟩ := asc_cons.mp h2
    have e : x = y := by
      rcases List.mem_cons.mp ((h x).mp List.mem_cons_self) with e | e
      · exact e
      rcases List.mem_cons.mp ((h y).mpr List.mem_cons_self) with e2 | e2
      · exact e2.symm
      have := lt_asym (b1 x e)
      rw [a1 y e2] at this; cases this
    subst e
    congr 1
    refine asc_eq a2 b2 fun z => ?_
    constructor
    · intro hz
      rcases List.mem_cons.mp ((h z).mp (List.mem_cons_of_mem _ hz)) with e | e
      · subst e
        have := a1 z hz
        rw [lt_irr] at this; cases this
      · exact e
    · intro hz
      rcases List.mem_cons.mp ((h z).mpr (List.mem_cons_of_mem _ hz)) with e | e
      · subst e
        have := b1 z hz
        rw [lt_irr] at this; cases this
      · exact e
theorem rise_cons : ∀ (p : Str) (l : List Str), risingS p l = true → (p :: l).Nodup → asc (p :: l) = true
  | _, [], _, _ => rfl
  | p, x :: r, h, n => by
    have h : (!ltCps x.cps.toList p.cps.toList && risingS x r) = true := h
    rw [Bool.and_eq_true] at h
    show (lt p x && asc (x :: r)) = true
    rw [rise_cons x r h.2 (List.nodup_cons.mp n).2, Bool.and_true]
    rcases lt_tri p x with e | e | e
    · exact absurd (by rw [e]; exact List.mem_cons_self) (List.nodup_cons.mp n).1
    · exact e
    · have e : ltCps x.cps.toList p.cps.toList = true := e
      rw [e] at h; cases h.1
theorem asc_of {l : List Str} (h : sortedS l = true) (n : l.Nodup) : asc l = true := by
  cases l with
  | nil => rfl
  | cons x r => exact rise_cons x r h n
theorem perm_sub {α : Type} [DecidableEq α] : ∀ (l m : List α), l.Nodup → (∀ x ∈ l, x ∈ m) → m.length ≤ l.length → l.Perm m
  | [], m, _, _, h => by
    have : m = [] := List.eq_nil_of_length_eq_zero (Nat.le_zero.mp h)
    rw [this]
  | x :: l, m, n, s, h => by
    obtain ⟨n1, n2⟩ := List.nodup_cons.mp n
    have hx := s x List.mem_cons_self
    have p := List.perm_cons_erase hx
    refine ((perm_sub l (m.erase x) n2 (fun y hy => ?_) ?_).cons x).trans p.symm
    · exact (List.mem_erase_of_ne (fun e => n1 (by rw [← e]; exact hy))).mpr (s y (List.mem_cons_of_mem _ hy))
    · have := p.length_eq
      rw [List.length_cons] at this
      rw [List.length_cons] at h
      omega
section
variable {P : Program} {w : World} {A : Around} {E : Value → Shared → Prop} {s : Shared}
def txtOf : Value → Str
  | .str z _ => z
  | _ => Str.empty
theorem strsAre_map : ∀ (vs : List Value), (∀ v ∈ vs, ∃ z u, v = Value.str z u) → StrsAre vs (vs.map txtOf)
  | [], _ => .nil
  | v :: r, h => by
    obtain ⟨z, u, rfl⟩ := h v List.mem_cons_self
    exact .cons z u (strsAre_map r fun y hy => h y (List.mem_cons_of_mem _ hy))
/-- sorted(S), S a set of texts -/
theorem sorted_txts {a : Addr} {l : List Str} {Q : Value → Shared → Prop} (R : TxR P w s.heap a l) (few : l.length < scanBound) (hh : A.handled = none)
    (q : ∀ (s' : Shared) (p : Addr) (out : Array Value) (c : Nat) (ys : List Str), (∀ b o, s.heap.get? b = some o → s'.heap.get? b = some o) → s'.gens = s.gens → s'.os = s.os → s.heap.objs.size ≤ p → s'.heap.get? p = some (seqObj "list" out c) → StrsAre out.toList ys → ys.Perm l → sortedS ys = true → Q (.ref p) s') :
    wpAny (model P w) A (call (.builtin "sorted") [.ref a]) Q E s := by
  obtain ⟨⟨es, ep, t⟩, at_, ok, ris, walk⟩ := R.ex
  have size : es.size = l.length := ok.sz
  refine Calls.call_function_entry kind_sorted plain_sorted entry_sorted (args_sorted1 _) ?_
  unfold Builtin.«sorted»
  refine wpAny_bind (m := checkCount "sorted" 1 1 _) (wpAny_pure (wpAny_bind (collect_set (A := A.in1) hh ⟨_, at_, rfl, rfl⟩ ok.fit (by rw [size]; exact few) ris walk fun s1 vs kept bigger gens os perm => ?_)))
  have lenV : vs.length = l.length := by rw [perm.length_eq, List.length_map, Array.length_toList]; exact size
  have allT : ∀ v ∈ vs, ∃ z u, v = Value.str z u ∧ z ∈ l := fun v hv => by
    obtain ⟨e, he, rfl⟩ := List.mem_map.mp (perm.mem_iff.mp hv)
    obtain ⟨⟨k, isK, _⟩, _⟩ := ok.el e he
    have m : k ∈ l := (ok.mem k).mpr ⟨e, he, isK⟩
    have isK : Value.isStrOf k e.2 = true := isK
    cases q : e.2 <;> rw [q] at isK <;> first | (cases isK; done) | skip
    rename_i z u
    have : z = k := by simpa [Value.isStrOf] using isK
    exact ⟨z, u, rfl, by rw [this]; exact m⟩
  have txt := strsAre_map vs fun v hv => let ⟨z, u, e, _⟩ := allT v hv; ⟨z, u, e⟩
  have permL : (vs.map txtOf).Perm l := by
    refine (perm_sub l (vs.map txtOf) R.nd (fun z hz => ?_) (by rw [List.length_map, lenV]; exact Nat.le_refl _)).symm
    obtain ⟨e, he, isK⟩ := (ok.mem z).mp hz
    have mv : e.2 ∈ vs := perm.mem_iff.mpr (List.mem_map.mpr ⟨e, he, rfl⟩)
    obtain ⟨y, u, ey, _⟩ := allT _ mv
    have isK : Value.isStrOf z e.2 = true := isK
    rw [ey] at isK mv
    have : y = z := by simpa [Value.isStrOf] using isK
    exact List.mem_map.mpr ⟨_, mv, this⟩
  have fits : vs.length ≤ sizeLine := by rw [lenV]; exact Nat.le_trans (Nat.le_of_lt few) (by rw [sizeLine_eq]; decide)
  refine wpAny_bind (wpAny_newList ?_ fits)
  have atL : (s1.heap.push (seqObj "list" vs.toArray 0)).get? s1.heap.objs.size = some (seqObj "list" vs.toArray 0) := Heap.get?_push_size _ rfl
  refine wpAny_bind (wpAny_holding (wpAny_call_entry slot_list_sort ⟨_, atL, rfl⟩ entry_list_sort (list_sort_treeKAny strKind_oneLt atL txt.keysOf (fun v1 v2 rest e => keyKind_strs (by rw [← e]; exact txt)) fits fun st hp hs => ?_) (args_list_sort _)))
  obtain ⟨ys, isY, permY, srt⟩ := sorted_out_str txt hp hs
  obtain ⟨c, atS⟩ := sortedHeap_at (vs := vs) (out := (arrOf st).map (·.2)) atL
  refine ⟨_, rfl, wpAny_pure ⟨_, rfl, q _ s1.heap.objs.size _ c ys (fun b u e => ?_) gens os bigger atS isY (permY.trans permL) srt⟩⟩
  have old := Heap.lt_size (kept b u e)
  show (sortedHeap (s1.heap.push (seqObj "list" vs.toArray 0)) s1.heap.objs.size vs ((arrOf st).map (·.2))).get? b = some u
  rw [sortedHeap_old (Nat.ne_of_lt old) (by rw [Heap.size_push]; exact Nat.lt_succ_of_lt old)]
  exact Heap.get?_push_of_some _ (kept b u e)
end
section
variable {X : Cx}
theorem strsOf : ∀ {ys : List Str} {us : List Value}, Vals (ys.map V.str) us → StrsAre us ys
  | [], _, .nil => .nil
  | y :: ys, _, .cons r t => by
    obtain ⟨k, rfl⟩ := r
    exact .cons y k (strsOf t)
/-- sorted(xs) of texts, of any number -/
def rSortedA (K : PySem.W.Frag) : List V → Hp → VK → Prop := fun vs H Q => ∃ (a : Addr) (xs : List Str), vs = [V.ref a] ∧ SqL K H a (xs.map V.str) ∧ ∀ (ys : List Str) (p : Addr), ys.Perm xs → sortedS ys = true → H p = none → Q (.ref p) (upd H p (.lst (ys.map V.str)))
theorem cr_sortedA : CallR X (.builtin "sorted") (rSortedA X.K) := by
  intro pins s σ H vs us Q I r h
  obtain ⟨a, xs, rfl, isL, q⟩ := h
  obtain ⟨its, rv, hl, fits⟩ := I.list isL
  rw [Vals.ref1 r]
  refine sorted_strsAny hl.isList (strsOf rv) (by rw [← rv.length]; exact fits) fun out ys isY perm srt => ?_
  obtain ⟨c, atS⟩ := sortedAll_at s.heap its out
  have len : (ys.map V.str).length ≤ sizeLine := by
    rw [List.length_map] at fits ⊢
    rw [perm.length_eq]; exact fits
  have J := I.laid (a := s.heap.objs.size + 1) (o := .lst (ys.map V.str)) (t' := s.toks) (fun _ _ => sortedAll_old) (Nat.le_succ _) ⟨len, out.toList, c, vals_of_strs isY, atS⟩
  exact ⟨.ref _, _, J, rfl, q ys _ perm srt (I.hok.fresh (Nat.le_succ _))⟩
/-- sorted(set(xs)), xs a list of texts -/
def tSortSet (K : PySem.W.Frag) (ta : TE) : TE := fun σ H Q => ta σ H fun x H1 => ∃ (l : Addr) (xs : List Str), x = .ref l ∧ SqL K H1 l (xs.map V.str) ∧ xs.length ≤ 1000 ∧
  ∀ (ys : List Str) (p : Addr), asc ys = true → (∀ z, z ∈ ys ↔ z ∈ xs) → H1 p = none → Q (.ref p) (upd H1 p (.lst (ys.map V.str)))
theorem pe_sortSet {e : Expr} {ta : TE} {p1 p2 p3 p4 : Pos} (calm : X.calm = true) (g1 : Gl X "sorted") (m1 : X.mg "sorted" = none) (g2 : Gl X "set") (m2 : X.mg "set" = none) (he : PE X e ta)
    (one : starEach [e] X.env = (false, eval e X.env) :: starEach [] X.env := by rfl) : PE X (.Call (.Name "sorted" p1) [.Call (.Name "set" p2) [e] [] p3] [] p4) (tSortSet X.K ta) := by
  refine ⟨fun held s σ H Q I pre => Call_ (ld_blt I g1 m1 (show bootBuiltins "sorted" = some (.builtin "sorted") by decide +kernel) (callWith_builtin1 (args_cons (Call_ (ld_blt I g2 m2 (show bootBuiltins "set" = some (.type "set") by decide +kernel) (callWith_type1 (args_cons (thn (he.run held s σ H _ I pre) fun u s1 gives => args_nil ?_) one) one rfl))) rfl) rfl rfl))⟩
  obtain ⟨v, H1, I1, rel, l, xs, rfl, isL, few, q⟩ := gives
  cases (show u = Value.ref l from rel)
  obtain ⟨its, rv, hl, _⟩ := I1.list isL
  have bound : xs.length + 1 < scanBound := Nat.lt_of_le_of_lt (Nat.succ_le_succ few) (by decide)
  have hh : X.A.handled = none := I1.ok.hd calm
  refine set_of_txts hh hl.isList (by simpa using strsOf rv) bound fun h' tk up kept => args_nil ?_
  obtain ⟨ms, tr, mem, le⟩ := up
  rw [List.take_of_length_le (Nat.le_refl _)] at mem
  have lms : ms.length < scanBound := Nat.lt_of_le_of_lt le (Nat.lt_of_succ_lt bound)
  refine sorted_txts (s := { s1 with heap := h', toks := tk }) tr lms hh fun s' p out c ys kept2 gens os bigger atS isY perm srt => ?_
  have old : ∀ b o, s1.heap.get? b = some o → s'.heap.get? b = some o := fun b o q => kept2 b o (kept b o q)
  obtain ⟨_, atD, _⟩ := id tr.ex
  have ge : s1.heap.objs.size ≤ p := Nat.le_trans (Nat.le_of_lt (Heap.lt_size atD)) bigger
  have free : H1 p = none := I1.hok.fresh ge
  have len : (ys.map V.str).length ≤ sizeLine := by
    rw [List.length_map, perm.length_eq]
    exact Nat.le_trans (Nat.le_of_lt lms) (by rw [sizeLine_eq]; decide)
  have J : Inv X held σ (upd H1 p (.lst (ys.map V.str))) { s1 with heap := s'.heap, gens := s'.gens, drawn := s'.drawn, toks := s'.toks } :=
    I1.call (ch := []) (Un.laid old ge free) (I1.hok.laid old ge ⟨len, out.toList, c, vals_of_strs isY, atS⟩) (by rw [gens]; exact I1.bare) (fun _ z => nomatch z)
  have same : s' = { s1 with heap := s'.heap, gens := s'.gens, drawn := s'.drawn, toks := s'.toks } := by
    obtain ⟨a1, a2, a3, a4, a5⟩ := s'
    obtain rfl : a5 = s1.os := os
    rfl
  rw [same]
  exact ⟨.ref p, _, J, rfl, q ys p (asc_of srt (perm.nodup_iff.mpr tr.nd)) (fun z => (perm.mem_iff).trans (mem z)) free⟩
end
end SC
set_option maxHeartbeats 2000000 -- from here on
/-! sum(..) over a generator expression whose element is any expression of the layer -/
namespace SC
open PySem PySem.Spec PyProof.Rows L2 GenW
open GxR (TabB TabG Tabbed inv_tab sh_eta)
/-- the list in which sum keeps what it has -/
def sob (a : Int) (t : Tok) (c : Nat) : Obj := { cls := .type "list", dict := none, data := .seq #[.int a t] c, slots := #[] }
section
variable {Y : Cx} {go : Addr × Obj} {W : Nat → Nat → List (Addr × Obj) → L2.St → Hp → Prop} {B : Nat → Nat → List (Addr × Obj) → V → L2.St → Hp → Prop} {Dn : List (Addr × Obj) → L2.St → Hp → Prop}
theorem cp_one {S : Addr} {cp : List (Addr × Obj)} {h : Heap} {o : Obj} (e : h.get? S = some o) (hcp : Cp [S] cp) (hs0 : ∀ p ∈ cp, h.get? p.1 = some p.2) : cp = [(S, o)] := by
  unfold Cp at hcp
  cases cp with
  | nil => cases hcp
  | cons p r =>
    rw [List.map_cons, List.cons.injEq, List.map_eq_nil_iff] at hcp
    obtain ⟨rfl, rfl⟩ := hcp
    have := hs0 p List.mem_cons_self
    rw [e] at this
    rw [Option.some.inj this]
/-- sum(..) walks it -/
theorem sum_loop_gen {gi : Nat} {A : Around} {R : Result → Shared → Prop} {S : Addr} {V : Nat → Nat → Int → L2.St → Hp → Prop} {Dv : Int → L2.St → Hp → Prop} (hh : A.handled = none) (hroom : A.depth < recursionLimit) (hgo : ∀ h : Heap, h.get? go.1 = some go.2 → h.IsGen go.1 gi) (nS : cStatics ≠ S) (ngo : S ≠ go.1)
    (hW : ∀ i m a t c σ H, V i m a σ H → W i m [(S, sob a t c)] σ H)
    (hB : ∀ i m y σ H a t c, B i m [(S, sob a t c)] y σ H → ∃ k, y = .int k ∧ InLong k ∧ InLong (a + k) ∧ ∃ m', m' < m ∧ V (i + 1) m' (a + k) σ H)
    (hD : ∀ a t c σ H, Dn [(S, sob a t c)] σ H → Dv a σ H) (hR : ∀ pp a σ H s t, Inv Y pp σ H s → Dv a σ H → R (.ok (.ret (.int a t))) s) :
    ∀ (n : Nat) (s : Shared) (a : Int) (t : Tok) (c : Nat), Asl Y A.in1.in1 go gi [S] W B Dn n s → s.heap.get? S = some (sob a t c) → codeAny (model Y.prog Y.w) A (.builtin "sum.loop" ⟨[.ref go.1, .ref S, rawInt 0, rawInt 0], []⟩) R s := by
  intro n
  induction n using Nat.strongRecOn with
  | ind n ih =>
    intro s a t c al hS
    refine codeAny_builtin F.entry_sum_loop ?_
    rw [Around.under_plainId F.plain_sum_loop _]
    show wpAny _ A.in1 (seqItems? (.ref S) >>= _) _ _ s
    refine wpAny_bind (wpAny_seqItems hS rfl ?_)
    show wpAny _ A.in1 (tryCatch (pyNext (.ref go.1)) _ >>= _) _ _ s
    refine wpAny_bind (wpAny_tryCatch (next_gen (C := A.in1) hh hroom hgo al (fun i m cp y v σ H s' hcp hs0 rv I hb again => ?_) fun cp σ H s' hcp hs0 I dn => ?_))
    · obtain rfl := cp_one hS hcp hs0
      obtain ⟨k, rfl, ⟨f1, f2⟩, ⟨f3, f4⟩, m', hm', w'⟩ := hB i m y σ H a t c hb
      obtain ⟨t2, rfl⟩ : ∃ t2, v = .int k t2 := rv
      have hS' : s'.heap.get? S = some (sob a t c) := (I.pin (S, sob a t c) (List.mem_append_right _ (List.mem_cons_of_mem _ List.mem_cons_self))).1
      have hc : ((decide (-(2 ^ 63) ≤ k) && decide (k < 2 ^ 63)) && (decide (-(2 ^ 63) ≤ a + k) && decide (a + k < 2 ^ 63))) = true := by
        simp only [Bool.and_eq_true, decide_eq_true_eq]
        exact ⟨⟨f1, f2⟩, f3, f4⟩
      show wpAny _ A.in1 (if (_ : Bool) = true then (mkInt (a + k) >>= _) else _) _ _ _
      split
      · refine wpAny_bind (wpAny_mkInt ?_)
        show wpAny _ A.in1 (updateSeq S (fun _ => #[.int (a + k) s'.toks]) >>= _) _ _ _
        refine wpAny_bind ?_
        refine wpAny_updateSeq hS' rfl ?_
        have e2 : (s'.heap.update S (Obj.mapSeq fun _ => #[Value.int (a + k) s'.toks])).get? S = some (sob (a + k) s'.toks _) := Heap.get?_update_self _ hS' rfl
        have oth : ∀ b o, b ≠ S → s'.heap.get? b = some o → (s'.heap.update S (Obj.mapSeq fun _ => #[Value.int (a + k) s'.toks])).get? b = some o := fun b o hb e => (Heap.get?_update_other _ _ (Ne.symm hb)).trans e
        obtain ⟨j, hj, aj⟩ := again { s' with heap := s'.heap.update S (Obj.mapSeq fun _ => #[Value.int (a + k) s'.toks]), toks := s'.toks + 1 } [(S, sob (a + k) s'.toks _)] ⟨rfl, I.bare, fun b o hb e => oth b o (by simpa using hb) e⟩ rfl rfl
          (fun p hp => by rw [List.mem_singleton.mp hp]; exact ⟨e2, fun v z => by cases z⟩)
          (oth _ _ (Ne.symm ngo) (I.pin go (List.mem_append_right _ List.mem_cons_self)).1) (I.nolimit.at fun o e => oth _ _ nS e) m' hm' (hW _ _ _ _ _ _ _ w')
        exact wpAny_pure ⟨plainId_quiet F.plain_sum_loop _, ih j hj _ _ _ _ aj e2⟩
      · rename_i hneg
        exact absurd hc hneg
    · obtain rfl := cp_one hS hcp hs0
      exact wpAny_pure (hR _ a σ H s' t I (hD _ _ _ _ _ dn))
end
end SC
namespace SC
open PySem PySem.Spec PyProof.Rows L2 GenW
open GxR (TabB TabG Tabbed inv_tab sh_eta)
section
variable {X : Cx} {N : List Str} {nt : Nat} {fr : List Nat} {scope : Scope}
theorem sob_inj {S : Addr} {a b : Int} {t u : Tok} {c d : Nat} (h : [(S, sob a t c)] = [(S, sob b u d)]) : a = b := by
  have h := (Prod.mk.inj (List.cons.inj h).1).2
  have h := congrArg Obj.data h
  have h : Data.seq #[Value.int a t] c = Data.seq #[Value.int b u] d := h
  injection h with h _
  have h := congrArg Array.toList h
  injection h with h _
  injection h
/-- the turns of a sum, as a reading -/
def tForS (J : It) (g : TG) (tt : TT) (te : TE) (σ : L2.St) (H : Hp) (Q : VK) : Prop := ∃ V : Nat → Nat → Int → L2.St → Hp → Prop, (∃ m, V 0 m 0 σ H) ∧ ∀ i m a σ H, V i m a σ H →
  (J.stop i H ∧ Q (.int a) H) ∨ (J.go i H ∧ ∃ Nx : Int → L2.St → Hp → Prop, (∀ b σ' H', Nx b σ' H' → ∃ m', m' < m ∧ V (i + 1) m' b σ' H') ∧ ∀ x H', J.yld i H x H' → g x σ H' fun σ2 H2 => tt σ2 H2 fun b H3 =>
    if b = true then te σ2 H3 (fun y H4 => ∃ k, y = .int k ∧ InLong k ∧ InLong (a + k) ∧ Nx (a + k) σ2 H4) else Nx a σ2 H3)
/-- sum(elt for tg in iter if ..); st: the captured names -/
def tSumG (P : Addr) (wi : TI) (g : TG) (tt : TT) (te : TE) (st : L2.St → L2.St) : TE := fun σ H Q => wi σ H fun J H1 => TabG H1 P ∧ ∀ H2, Tabbed P H1 H2 → tForS J g tt te (st σ) H2 Q
theorem pe_sumG {c P : Addr} {elt iter tg : Expr} {ifs : List Expr} {p pos gpos : Pos} {wi : TI} {g : TG} {tt : TT} {te : TE} {k : Nat} (hcalm : X.calm = true) (hr : Room (k + 2) X.A) (hz : X.mg "sum" = none) (TB : TabB X.base X.mg c P) (hcode : X.env.code = .ref c)
    (S : GnS scope) (hfr : freeOk scope X.env.scope = true) (hcap : capOk N nt fr X.N scope X.env.scope = true) (hi : PI X tg iter wi)
    (hg : ∀ C code fp s4 H4, Room k (gxC X N scope C code fp s4 H4).A → PG (gxC X N scope C code fp s4 H4) tg g) (ht : ∀ C code fp s4 H4, Room k (gxC X N scope C code fp s4 H4).A → PTs (gxC X N scope C code fp s4 H4) ifs tt)
    (he : ∀ C code fp s4 H4, Room k (gxC X N scope C code fp s4 H4).A → PE (gxC X N scope C code fp s4 H4) elt te)
    (hs : ∀ v, genFold iter X.env v = pure v) (hgl : Gl X "sum" := by rfl)
    (hse : starEach [.GeneratorExp elt [⟨tg, iter, ifs, 0⟩] scope gpos] X.env = (false, eval (.GeneratorExp elt [⟨tg, iter, ifs, 0⟩] scope gpos) X.env) :: starEach [] X.env := by rfl) :
    PE X (.Call (.Name "sum" p) [.GeneratorExp elt [⟨tg, iter, ifs, 0⟩] scope gpos] [] pos) (tSumG P wi g tt te (capSt nt fr)) := by
  refine ⟨fun pins s σ H Q I h => ?_⟩
  have hh : X.A.handled = none := I.ok.hd hcalm
  refine wpAny_Call_Name_kw (ld_blt I hgl hz (show bootBuiltins "sum" = some (.builtin "sum") by decide +kernel) ?_)
  refine PyProof.Rows.callWith_builtin1 ?_ hse (by rfl)
  rw [hse]
  show wpAny _ _ (spliced ((false, eval (.GeneratorExp elt [⟨tg, iter, ifs, 0⟩] scope gpos) X.env) :: backTo pos (starEach [] X.env))) _ _ s
  refine Calls.spliced_cons (gen_mkI (N := N) (nt := nt) (fr := fr) (R := fun J H2 => tForS J g tt te (capSt nt fr σ) H2 Q) hcalm hr TB hcode S hfr hcap hi hs I h fun J H2 a s5 hR hF => ?_)
  refine Calls.spliced_nil ?_
  obtain ⟨s4, code, fp, it, tn, go, gi, I4, hf, hlt, ha, ha2, T, st5, hgo, hga, hgs, I5⟩ := hF
  obtain ⟨V, ⟨m0, w0⟩, turn⟩ := hR
  have hrA : Room k (gxC X N scope s4.heap.objs.size code fp s4 H2).A := by
    have r1 := hr.dp
    have r2 := hr.un
    have q1 : (gxC X N scope s4.heap.objs.size code fp s4 H2).A.depth = X.A.depth + 1 := rfl
    have q2 : (gxC X N scope s4.heap.objs.size code fp s4 H2).A.units = X.A.units + 1 + 1 + 3 := rfl
    exact ⟨hh, by omega, by omega⟩
  refine call_function_tree F.kind_sum F.plain_sum F.entry_sum (F.args_sum1 _) ?_
  unfold Builtin.«sum»
  simp only [List.length_cons, List.length_nil]
  rw [if_neg (by decide)]
  refine wpAny_bind (wpAny_of_eq (show Builtin.Builtins.bindParams "sum" ["start"] 0 { } = pure [none] from rfl) ?_)
  refine wpAny_bind (wpAny_pyIter_gen (hgo _ hga) ?_)
  refine wpAny_bind (wpAny_mkInt ?_)
  refine wpAny_bind (wpAny_pure ?_)
  simp only [List.forIn_cons, List.forIn_nil]
  refine wpAny_bind (wpAny_bind (wpAny_bind (wpAny_isInstance (T := "int") (b := false) (typeIs_int _ _ _) PySem.sub_int_str ?_)))
  simp only [Bool.false_eq_true, if_false]
  refine wpAny_pure (wpAny_bind (wpAny_bind (wpAny_isInstance (T := "int") (b := false) (typeIs_int _ _ _) PySem.sub_int_bytes ?_)))
  simp only [Bool.false_eq_true, if_false]
  refine wpAny_pure (wpAny_bind (wpAny_bind (wpAny_isInstance (T := "int") (b := false) (typeIs_int _ _ _) PySem.sub_int_bytearray ?_)))
  simp only [Bool.false_eq_true, if_false]
  refine wpAny_pure (wpAny_pure ?_)
  refine wpAny_bind (wpAny_newObj_type ?_)
  have depth : X.A.depth < recursionLimit := by have := hr.dp; omega
  have sz : s4.heap.objs.size < s5.heap.objs.size := Nat.lt_trans ha ha2
  have hn2 : H2 s5.heap.objs.size = none := I5.hok.fresh (Nat.le_refl _)
  have fo := I5.fpOk (Nat.le_refl _) hn2
  have nS : cStatics ≠ s5.heap.objs.size := let ⟨_, b, _⟩ := I5.nolimit; Nat.ne_of_lt b.lt
  have e6 : (s5.heap.push (sob 0 s5.toks 0)).get? s5.heap.objs.size = some (sob 0 s5.toks 0) := Heap.get?_push_size _ rfl
  have I6 : L2.Inv (gxC X N scope s4.heap.objs.size code fp s4 H2) [(a, go)] (capSt nt fr σ) H2 { s5 with heap := s5.heap.push (sob 0 s5.toks 0), toks := s5.toks + 1 } := inv_kept I5 rfl I5.bare fun b o e => Heap.get?_push_of_some _ e
  have I7 := I6.pinned (fp := [s5.heap.objs.size]) (fun b hb => by rw [List.mem_singleton.mp hb]; exact fo) (fun b hb => by rw [List.mem_singleton.mp hb]; exact ⟨_, e6, fun v z => by cases z⟩)
  have ep : pinsAt [s5.heap.objs.size] (s5.heap.push (sob 0 s5.toks 0)) = [(s5.heap.objs.size, sob 0 s5.toks 0)] := by
    unfold pinsAt
    rw [List.filterMap_cons, e6]; rfl
  rw [show pinsAt [s5.heap.objs.size] ({ s5 with heap := s5.heap.push (sob 0 s5.toks 0), toks := s5.toks + 1 } : Shared).heap = _ from ep] at I7
  refine wpAny_pure ⟨plainId_quiet F.plain_sum_loop _, ?_⟩
  refine sum_loop_gen (Y := gxC X N scope s4.heap.objs.size code fp s4 H2) (go := (a, go)) (gi := gi) (S := s5.heap.objs.size) (V := V)
    (W := fun i m cp σ H => ∃ b t c, cp = [(s5.heap.objs.size, sob b t c)] ∧ V i m b σ H)
    (B := fun i m cp y σ H => ∃ b t c k, cp = [(s5.heap.objs.size, sob b t c)] ∧ y = .int k ∧ InLong k ∧ InLong (b + k) ∧ ∃ m', m' < m ∧ V (i + 1) m' (b + k) σ H)
    (Dn := fun cp _ H => ∃ b t c, cp = [(s5.heap.objs.size, sob b t c)] ∧ Q (.int b) H) (Dv := fun b _ H => Q (.int b) H)
    hh depth hgo nS (Nat.ne_of_gt ha2) (fun i m b t c σ H v => ⟨b, t, c, rfl, v⟩) (fun i m y σ H b t c ⟨b2, t2, c2, k, e, q1, q2, q3, q4⟩ => by
      have := sob_inj e; subst this; exact ⟨k, q1, q2, q3, q4⟩) (fun b t c σ H ⟨b2, t2, c2, e, q⟩ => by have := sob_inj e; subst this; exact q)
    (fun pp b σ' H' s' t J' q => ⟨.int b, H', back_to I4 hf J', ⟨_, rfl⟩, q⟩) (m0 + 1) _ 0 s5.toks 0 ⟨hgo _ (Heap.get?_push_of_some _ hga), I6.nolimit, _, hgs, rfl, ?_⟩ e6
  refine seg_turns0 (Y := gxC X N scope s4.heap.objs.size code fp s4 H2) (fp := fp) (tn := tn) (J := J) (tg := tg) (g := g) (tt := tt) (te := te) rfl (fun _ _ z => z) rfl T (hg _ _ _ _ _ hrA) (ht _ _ _ _ _ hrA) (he _ _ _ _ _ hrA) S.co (fun i m cp σ H w => ?_)
    (fun cp H' hcp h0 => stat_of S I4 hf hlt hfr (Nat.le_refl _) (fun p hp => ?_) h0) (fun b hb => ?_) (fun p hp hb => ?_) (fun b hb hb2 => ?_) (Nat.lt_succ_self m0) (cp := [(s5.heap.objs.size, sob 0 s5.toks 0)]) rfl (fun p hp => ?_) (inv_kept I7 rfl (allBare_setGen I7.bare rfl) fun _ _ e => e) (T.keep 0 _ _ st5 fun b hb o e => Heap.get?_push_of_some _ e) (fun b hb => (hf b hb).1) ⟨0, s5.toks, 0, rfl, w0⟩
  · obtain ⟨b, t, c, rfl, v⟩ := w
    rcases turn i m b σ H v with ⟨q1, q2⟩ | ⟨q1, Nt, hN, q2⟩
    · exact .inl ⟨q1, b, t, c, rfl, q2⟩
    · exact .inr ⟨q1, fun y σ' H' => ∃ k, y = .int k ∧ InLong k ∧ InLong (b + k) ∧ Nt (b + k) σ' H', Nt b, fun y σ' H' ⟨k, e, z1, z2, z3⟩ => ⟨b, t, c, k, rfl, e, z1, z2, hN _ _ _ z3⟩, fun σ' H' z => let ⟨m', hm, vv⟩ := hN _ _ _ z; ⟨m', hm, b, t, c, rfl, vv⟩, q2⟩
  · rcases List.mem_cons.mp hp with e | hp
    · rw [e]; exact Nat.le_of_lt ha
    · have h1 : p.1 ∈ cp.map (·.1) := List.mem_map_of_mem hp
      rw [hcp] at h1
      rw [List.mem_singleton.mp h1]; exact Nat.le_of_lt sz
  · rw [List.mem_singleton.mp hb]
    exact ⟨Nat.le_of_lt sz, fo.2.2.2.2.1⟩
  · exact fo.2.2.2.2.2 p hp (List.mem_singleton.mp hb)
  · rw [List.mem_singleton.mp hb2] at hb
    exact absurd (Nat.lt_trans (hlt _ hb) sz) (Nat.lt_irrefl _)
  · rw [List.mem_singleton.mp hp]; exact e6
theorem sum_tup {K : PySem.W.Frag} {a : Addr} {xs : List L2.V} {g : TG} {tt : TT} {te : TE} {σ : L2.St} {H : Hp} {Q : VK} (Pv : Nat → Int → L2.St → Hp → Prop) (h0 : Pv 0 0 σ H) (hl : ∀ i b σ H, i ≤ xs.length → Pv i b σ H → SqT K H a xs)
    (hs : ∀ i b x σ H, xs[i]? = some x → Pv i b σ H → g x σ H fun σ2 H2 => tt σ2 H2 fun c H3 => if c = true then te σ2 H3 (fun y H4 => ∃ k, y = .int k ∧ InLong k ∧ InLong (b + k) ∧ Pv (i + 1) (b + k) σ2 H4) else Pv (i + 1) b σ2 H3)
    (hd : ∀ b σ H, Pv xs.length b σ H → Q (.int b) H) : tForS (Itt K a) g tt te σ H Q := by
  refine ⟨fun i m b σ H => m = xs.length - i ∧ i ≤ xs.length ∧ Pv i b σ H, ⟨xs.length, by simp, Nat.zero_le _, h0⟩, ?_⟩
  rintro i m b σ H ⟨rfl, hi, p⟩
  have q := hl i b σ H hi p
  by_cases hlt : i < xs.length
  · refine .inr ⟨⟨xs, xs[i], q, by simp [hlt]⟩, Pv (i + 1), fun b' σ' H' p' => ⟨xs.length - (i + 1), by omega, rfl, hlt, p'⟩, fun x H' y => ?_⟩
    obtain ⟨e, y⟩ := y
    subst e
    exact hs i b x σ _ (y xs q) p
  · have e : i = xs.length := by omega
    subst e
    exact .inl ⟨⟨xs, q, Nat.le_refl _⟩, hd b σ H p⟩
end
end SC
/-! values as data: documents that are drawn, and what is spoilt in them; x * n of texts, t[::-1] of tuples -/
namespace SC
open PySem L2
mutual
/-- a value of the tracked heap, as data -/
inductive Rq (H : Hp) : V → PyData → Prop
  | non : Rq H .non .none
  | bl (b : Bool) : Rq H (.bl b) (.bool b)
  | int (i : Int) : Rq H (.int i) (.int i)
  | str (z : Str) : Rq H (.str z) (.str z)
  | lst {a : Addr} {xs : List V} {ds : List PyData} : H a = some (.lst xs) → RqA H xs ds → Rq H (.ref a) (.list ds)
  | tup {a : Addr} {xs : List V} {ds : List PyData} : H a = some (.tup xs) → RqA H xs ds → Rq H (.ref a) (.tuple ds)
inductive RqA (H : Hp) : List V → List PyData → Prop
  | nil : RqA H [] []
  | cons {v : V} {vs : List V} {d : PyData} {ds : List PyData} : Rq H v d → RqA H vs ds → RqA H (v :: vs) (d :: ds)
end
def tyD : PyData → String
  | .none => "NoneType" | .bool _ => "bool" | .int _ => "int" | .str _ => "str" | .list _ => "list" | .tuple _ => "tuple" | .dict _ => "dict"
theorem Rq.ty {H : Hp} {v : V} {d : PyData} (h : Rq H v d) : tyN H v = some (tyD d) := by
  cases h with
  | lst e _ => exact tyN_lst e
  | tup e _ => exact tyN_tup e
  | _ => rfl
theorem Rq.tyx {H : Hp} {v : V} {d : PyData} (h : Rq H v d) : ∃ t, tyN H v = some t := ⟨_, h.ty⟩
theorem RqA.len {H : Hp} : ∀ {xs : List V} {ds : List PyData}, RqA H xs ds → xs.length = ds.length
  | _, _, .nil => rfl
  | _, _, .cons _ h => congrArg (· + 1) h.len
theorem RqA.app {H : Hp} : ∀ {xs ys : List V} {ds es : List PyData}, RqA H xs ds → RqA H ys es → RqA H (xs ++ ys) (ds ++ es)
  | _, _, _, _, .nil, h => h
  | _, _, _, _, .cons a b, h => .cons a (b.app h)
theorem RqA.get {H : Hp} : ∀ {xs : List V} {ds : List PyData} {i : Nat} {x : V}, RqA H xs ds → xs[i]? = some x → ∃ d, ds[i]? = some d ∧ Rq H x d
  | _, _, _, _, .nil, h => by simp at h
  | _, _, 0, _, .cons a _, h => by
    have e := Option.some.inj h
    subst e
    exact ⟨_, rfl, a⟩
  | _, _, i + 1, _, .cons _ b, h => b.get (i := i) h
theorem RqA.at {H : Hp} {xs : List V} {ds : List PyData} (r : RqA H xs ds) {i : Nat} (h : i < ds.length) : ∃ x, xs[i]? = some x ∧ Rq H x (ds.getD i .none) := by
  obtain ⟨d, e, q⟩ := r.get (i := i) (x := xs[i]'(by rw [r.len]; exact h)) (List.getElem?_eq_getElem _)
  refine ⟨_, List.getElem?_eq_getElem (by rw [r.len]; exact h), ?_⟩
  rw [List.getD_eq_getElem?_getD, e]
  exact q
theorem RqA.ix {H : Hp} {xs : List V} {ds : List PyData} (r : RqA H xs ds) {i : Nat} (h : i < ds.length) : ∃ x, atI xs (i : Int) = some x ∧ Rq H x (ds.getD i .none) :=
  let ⟨x, e, q⟩ := r.at h
  ⟨x, atI_nat e, q⟩
theorem RqA.take {H : Hp} : ∀ {xs : List V} {ds : List PyData} (n : Nat), RqA H xs ds → RqA H (xs.take n) (ds.take n)
  | _, _, 0, _ => .nil
  | _, _, _ + 1, .nil => .nil
  | _, _, n + 1, .cons a b => .cons a (b.take n)
theorem RqA.drop {H : Hp} : ∀ {xs : List V} {ds : List PyData} (n : Nat), RqA H xs ds → RqA H (xs.drop n) (ds.drop n)
  | _, _, 0, h => h
  | _, _, _ + 1, .nil => .nil
  | _, _, n + 1, .cons _ b => b.drop n
mutual
theorem Rq.tabs {Ts : List Addr} {H H' : Hp} (k : Kp Ts H H') (g : Tabs Ts H) : ∀ {v : V} {d : PyData}, Rq H v d → Rq H' v d
  | _, _, .non => .non
  | _, _, .bl b => .bl b
  | _, _, .int i => .int i
  | _, _, .str z => .str z
  | _, _, .lst e r => .lst (k.get g e) (r.tabs k g)
  | _, _, .tup e r => .tup (k.tup _ _ e) (r.tabs k g)
theorem RqA.tabs {Ts : List Addr} {H H' : Hp} (k : Kp Ts H H') (g : Tabs Ts H) : ∀ {vs : List V} {ds : List PyData}, RqA H vs ds → RqA H' vs ds
  | _, _, .nil => .nil
  | _, _, .cons a b => .cons (a.tabs k g) (b.tabs k g)
end
theorem tabs_nil {H : Hp} : Tabs [] H := fun _ m => absurd m List.not_mem_nil
theorem Rq.kp0 {H H' : Hp} {v : V} {d : PyData} (h : Rq H v d) (k : Kp [] H H') : Rq H' v d := h.tabs k tabs_nil
theorem RqA.kp0 {H H' : Hp} {v : List V} {d : List PyData} (h : RqA H v d) (k : Kp [] H H') : RqA H' v d := h.tabs k tabs_nil
mutual
theorem Rq.dp {K : PySem.W.Frag} {H : Hp} : ∀ {v : V} {d : PyData}, Rq H v d → Dp K H v d
  | _, _, .non => .non
  | _, _, .bl b => .bl b
  | _, _, .int i => .int i
  | _, _, .str z => .str z
  | _, _, .lst e r => .lst (SqL.of e) r.dp
  | _, _, .tup e r => .tup (SqT.of e) r.dp
theorem RqA.dp {K : PySem.W.Frag} {H : Hp} : ∀ {vs : List V} {ds : List PyData}, RqA H vs ds → DpAll K H vs ds
  | _, _, .nil => .nil
  | _, _, .cons a b => .cons a.dp b.dp
end
mutual
/-- sizes of what is spoilt -/
def okD (n : Nat) : PyData → Bool
  | .none => true
  | .bool _ => true
  | .int i => decide (-99999999999999999999 ≤ i) && decide (i ≤ 99999999999999999999)
  | .str z => decide (z.length ≤ 200000) && PyData.strOk z
  | .list ds => match n with
    | 0 => false
    | m + 1 => decide (ds.length ≤ 200000) && okDs m ds
  | .tuple ds => match n with
    | 0 => false
    | m + 1 => decide (ds.length ≤ 200000) && okDs m ds
  | .dict _ => false
def okDs (n : Nat) : List PyData → Bool
  | [] => true
  | d :: ds => okD n d && okDs n ds
end
theorem okDs_all {n : Nat} : ∀ {ds : List PyData}, okDs n ds = true ↔ ∀ d ∈ ds, okD n d = true
  | [] => ⟨fun _ d m => absurd m List.not_mem_nil, fun _ => rfl⟩
  | d :: ds => by
    show (okD n d && okDs n ds) = true ↔ _
    rw [Bool.and_eq_true, okDs_all (ds := ds), List.forall_mem_cons]
theorem okD_tup {n : Nat} {ds : List PyData} : okD (n + 1) (.tuple ds) = true ↔ ds.length ≤ 200000 ∧ ∀ d ∈ ds, okD n d = true := by
  show (decide (ds.length ≤ 200000) && okDs n ds) = true ↔ _
  rw [Bool.and_eq_true, decide_eq_true_eq, okDs_all]
theorem okD_lst {n : Nat} {ds : List PyData} : okD (n + 1) (.list ds) = true ↔ ds.length ≤ 200000 ∧ ∀ d ∈ ds, okD n d = true := by
  show (decide (ds.length ≤ 200000) && okDs n ds) = true ↔ _
  rw [Bool.and_eq_true, decide_eq_true_eq, okDs_all]
theorem okD_str {n : Nat} {z : Str} : okD n (.str z) = true ↔ z.length ≤ 200000 ∧ PyData.strOk z = true := by
  rw [show okD n (.str z) = (decide (z.length ≤ 200000) && PyData.strOk z) by cases n <;> rfl, Bool.and_eq_true, decide_eq_true_eq]
theorem okD_int {n : Nat} {i : Int} : okD n (.int i) = true ↔ -99999999999999999999 ≤ i ∧ i ≤ 99999999999999999999 := by
  rw [show okD n (.int i) = (decide (-99999999999999999999 ≤ i) && decide (i ≤ 99999999999999999999)) by cases n <;> rfl, Bool.and_eq_true, decide_eq_true_eq, decide_eq_true_eq]
theorem strOk_low {z : Str} (h : ∀ c ∈ z.cps.toList, c < 128) : PyData.strOk z = true := by
  unfold PyData.strOk
  rw [← Array.all_toList, List.all_eq_true]
  exact fun c hc => decide_eq_true (Nat.lt_of_lt_of_le (h c hc) (by decide))
mutual
theorem ok_mono : ∀ (n m : Nat) (d : PyData), n ≤ m → okD n d = true → okD m d = true
  | n, m, .int i, _, h => okD_int.mpr (okD_int.mp h)
  | n, m, .str z, _, h => okD_str.mpr (okD_str.mp h)
  | _, m, .none, _, _ => by cases m <;> rfl
  | _, m, .bool _, _, _ => by cases m <;> rfl
  | 0, _, .tuple _, _, h => by cases h
  | 0, _, .list _, _, h => by cases h
  | n + 1, 0, .tuple _, q, _ => by omega
  | n + 1, 0, .list _, q, _ => by omega
  | n + 1, m + 1, .tuple ds, q, h => by
    have z : (decide (ds.length ≤ 200000) && okDs n ds) = true := h
    rw [Bool.and_eq_true] at z
    show (decide (ds.length ≤ 200000) && okDs m ds) = true
    rw [z.1, oks_mono n m ds (by omega) z.2]; rfl
  | n + 1, m + 1, .list ds, q, h => by
    have z : (decide (ds.length ≤ 200000) && okDs n ds) = true := h
    rw [Bool.and_eq_true] at z
    show (decide (ds.length ≤ 200000) && okDs m ds) = true
    rw [z.1, oks_mono n m ds (by omega) z.2]; rfl
  | n, _, .dict _, _, h => by cases n <;> cases h
theorem oks_mono : ∀ (n m : Nat) (ds : List PyData), n ≤ m → okDs n ds = true → okDs m ds = true
  | _, _, [], _, _ => rfl
  | n, m, d :: ds, q, h => by
    have h : (okD n d && okDs n ds) = true := h
    rw [Bool.and_eq_true] at h
    show (okD m d && okDs m ds) = true
    rw [ok_mono n m d q h.1, oks_mono n m ds q h.2]; rfl
end
mutual
theorem ok_lay : ∀ (n : Nat) (d : PyData), okD n d = true → PyData.canLay0 d = true ∧ PyData.depth d ≤ n
  | n, .int _, _ => ⟨by simp [PyData.canLay0], by simp [PyData.depth]⟩
  | n, .str z, h => ⟨by simp [PyData.canLay0, (okD_str.mp h).2], by simp [PyData.depth]⟩
  | n, .none, _ => ⟨by simp [PyData.canLay0], by simp [PyData.depth]⟩
  | n, .bool _, _ => ⟨by simp [PyData.canLay0], by simp [PyData.depth]⟩
  | 0, .tuple _, h => by cases h
  | 0, .list _, h => by cases h
  | n + 1, .tuple ds, h => by
    have z : (decide (ds.length ≤ 200000) && okDs n ds) = true := h
    rw [Bool.and_eq_true] at z
    obtain ⟨a, b⟩ := oks_lay n ds z.2
    exact ⟨by simp [PyData.canLay0, a], by simp only [PyData.depth]; omega⟩
  | n + 1, .list ds, h => by
    have z : (decide (ds.length ≤ 200000) && okDs n ds) = true := h
    rw [Bool.and_eq_true] at z
    obtain ⟨a, b⟩ := oks_lay n ds z.2
    exact ⟨by simp [PyData.canLay0, a], by simp only [PyData.depth]; omega⟩
  | n, .dict _, h => by cases n <;> cases h
theorem oks_lay : ∀ (n : Nat) (ds : List PyData), okDs n ds = true → PyData.canLayAll0 ds = true ∧ PyData.depthAll ds ≤ n
  | n, [], _ => ⟨by simp [PyData.canLayAll0], by simp [PyData.depthAll]⟩
  | n, d :: ds, h => by
    have h : (okD n d && okDs n ds) = true := h
    rw [Bool.and_eq_true] at h
    obtain ⟨a1, a2⟩ := ok_lay n d h.1
    obtain ⟨b1, b2⟩ := oks_lay n ds h.2
    exact ⟨by simp [PyData.canLayAll0, a1, b1], by simp only [PyData.depthAll]; omega⟩
end
theorem ok_shaped {n : Nat} {d : PyData} (h : okD n d = true) (hn : n ≤ 64) : SeqAt.shaped d = true := by
  obtain ⟨a, b⟩ := ok_lay n d h
  unfold SeqAt.shaped
  rw [a, decide_eq_true (by omega)]; rfl
mutual
/-- no list within -/
def purD : PyData → Bool
  | .list _ => false
  | .dict _ => false
  | .tuple ds => purDs ds
  | _ => true
def purDs : List PyData → Bool
  | [] => true
  | d :: ds => purD d && purDs ds
end
theorem purDs_all : ∀ {ds : List PyData}, purDs ds = true ↔ ∀ d ∈ ds, purD d = true
  | [] => ⟨fun _ d m => absurd m List.not_mem_nil, fun _ => rfl⟩
  | d :: ds => by
    show (purD d && purDs ds) = true ↔ _
    rw [Bool.and_eq_true, purDs_all (ds := ds), List.forall_mem_cons]
theorem purD_tup {ds : List PyData} : purD (.tuple ds) = true ↔ ∀ d ∈ ds, purD d = true := by
  show purDs ds = true ↔ _
  exact purDs_all
mutual
theorem Rq.pure {S : List Addr} {H H' : Hp} (k : Kp S H H') : ∀ {v : V} {d : PyData}, Rq H v d → purD d = true → Rq H' v d
  | _, _, .int i, _ => .int i
  | _, _, .str z, _ => .str z
  | _, _, .non, _ => .non
  | _, _, .bl b, _ => .bl b
  | _, _, .tup e r, h => .tup (k.tup _ _ e) (r.pure k h)
  | _, _, .lst _ _, h => by cases h
theorem RqA.pure {S : List Addr} {H H' : Hp} (k : Kp S H H') : ∀ {vs : List V} {ds : List PyData}, RqA H vs ds → purDs ds = true → RqA H' vs ds
  | _, _, .nil, _ => .nil
  | _, _, .cons (d := d) (ds := ds) a b, h => by
    have h : (purD d && purDs ds) = true := h
    rw [Bool.and_eq_true] at h
    exact .cons (a.pure k h.1) (b.pure k h.2)
end
/-! the parts of a value -/
def tupB (a b : Nat) : PyData → Bool
  | .tuple ds => decide (a ≤ ds.length) && decide (ds.length ≤ b)
  | _ => false
def itD : PyData → List PyData
  | .tuple ds => ds
  | _ => []
def ixD (d : PyData) (i : Nat) : PyData := (itD d).getD i .none
def numB (lo hi : Int) : PyData → Bool
  | .int i => decide (lo ≤ i) && decide (i ≤ hi)
  | _ => false
def strD : PyData → Str
  | .str z => z
  | _ => Str.empty
def isS : PyData → Bool
  | .str _ => true
  | _ => false
def eqS (s : Str) : PyData → Bool
  | .str z => decide (z = s)
  | _ => false
theorem tupB_of {a b : Nat} {H : Hp} {v : V} {d : PyData} (r : Rq H v d) (h : tupB a b d = true) : ∃ (p : Addr) (xs : List V) (ds : List PyData), v = .ref p ∧ H p = some (.tup xs) ∧ d = .tuple ds ∧ RqA H xs ds ∧ a ≤ ds.length ∧ ds.length ≤ b := by
  cases r with
  | tup e r =>
    rename_i p xs ds
    have h : (decide (a ≤ ds.length) && decide (ds.length ≤ b)) = true := h
    rw [Bool.and_eq_true, decide_eq_true_eq, decide_eq_true_eq] at h
    exact ⟨_, _, _, rfl, e, rfl, r, h.1, h.2⟩
  | _ => cases h
theorem isS_of {H : Hp} {v : V} {d : PyData} (r : Rq H v d) (h : isS d = true) : ∃ z, v = .str z ∧ d = .str z := by
  cases r with
  | str z => exact ⟨z, rfl, rfl⟩
  | _ => cases h
theorem rqa_strs {H : Hp} : ∀ {xs : List V} {ds : List PyData}, RqA H xs ds → (∀ d ∈ ds, isS d = true) → xs = (ds.map strD).map V.str
  | _, _, .nil, _ => rfl
  | _, _, .cons a b, h => by
    obtain ⟨z, rfl, rfl⟩ := isS_of a (h _ List.mem_cons_self)
    rw [rqa_strs b fun d m => h d (List.mem_cons_of_mem _ m)]
    rfl
theorem getD_mem {ds : List PyData} {i : Nat} (h : i < ds.length) : ds.getD i .none ∈ ds := by
  rw [List.getD_eq_getElem?_getD, List.getElem?_eq_getElem h]
  exact List.getElem_mem h
/-- all(p(x) for x in a tuple), p a promise -/
theorem all_rq {K : PySem.W.Frag} {Ts : List Addr} {b : Addr} {xs : List V} {ds : List PyData} {f : PyData → Bool} {te : TE} {D : Ends} {H2 : Hp} {o : Option V} {cap : L2.St} (eb : H2 b = some (.tup xs)) (r : RqA H2 xs ds) (g : Tabs Ts H2)
    (step : ∀ (x : V) (d : PyData) (H' : Hp) (R : VK), Rq H' x d → d ∈ ds → Kp Ts H2 H' → Tabs Ts H' → (∀ H'', Kp Ts H' H'' → Tabs Ts H'' → R (.bl (f d)) H'') → te (some x :: cap) H' R)
    (qf : ∀ H', Kp Ts H2 H' → Tabs Ts H' → ds.all f = false → D.rt (.bl false) H') (qt : ∀ σ H', Kp Ts H2 H' → Tabs Ts H' → ds.all f = true → D.nx σ H') :
    tForB (Itt K b) (gName 0) (tbAll tYes te) D (o :: cap) H2 := by
  refine for_tup (K := K) (a := b) (xs := xs) (fun i σ H' => (∃ o : Option V, σ = o :: cap) ∧ Kp Ts H2 H' ∧ Tabs Ts H' ∧ (ds.take i).all f = true)
    ⟨⟨_, rfl⟩, Kp.refl _ _, g, rfl⟩ (fun i σ H' _ ⟨_, k, _, _⟩ => SqT.of (k.get g eb)) (fun i x σ H' hx ⟨⟨o, hσ⟩, k3, g3, ha⟩ => ?_) (fun σ H' ⟨⟨o, hσ⟩, k3, g3, ha⟩ => ?_)
  · subst hσ
    obtain ⟨d, hd, Rd⟩ := r.get hx
    have tk : ds.take (i + 1) = ds.take i ++ [d] := by rw [List.take_add_one, hd]; rfl
    have md := List.mem_of_getElem? hd
    unfold tbAll
    simp only [tYes, if_true, gName, List.set_cons_zero]
    refine step x d H' _ (Rd.tabs k3 g) md k3 g3 fun H4 k4 g4 => ⟨_, rfl, ?_⟩
    cases hb : f d with
    | true =>
      rw [if_pos rfl]
      exact ⟨⟨_, rfl⟩, k3.trans k4, g4, by rw [tk, List.all_append, ha]; simp [hb]⟩
    | false =>
      rw [if_neg (by decide)]
      have e : ds.all f = false := by
        rw [List.all_eq_false]
        exact ⟨d, md, by rw [hb]; decide⟩
      exact qf H4 (k3.trans k4) g4 e
  · rw [r.len, List.take_length] at ha
    exact qt _ H' k3 g3 ha
end SC
namespace SC
open PySem L2
theorem rq2 {H : Hp} {xs : List V} {ds : List PyData} (r : RqA H xs ds) (l : ds.length = 2) : ∃ x0 x1 d0 d1, xs = [x0, x1] ∧ ds = [d0, d1] ∧ Rq H x0 d0 ∧ Rq H x1 d1 := by
  cases r with
  | nil => cases l
  | cons a r =>
  cases r with
  | nil => cases l
  | cons b r =>
  cases r with
  | nil => exact ⟨_, _, _, _, rfl, rfl, a, b⟩
  | cons c r => simp at l
theorem rq3 {H : Hp} {xs : List V} {ds : List PyData} (r : RqA H xs ds) (l : ds.length = 3) : ∃ x0 x1 x2 d0 d1 d2, xs = [x0, x1, x2] ∧ ds = [d0, d1, d2] ∧ Rq H x0 d0 ∧ Rq H x1 d1 ∧ Rq H x2 d2 := by
  cases r with
  | nil => cases l
  | cons a r =>
    obtain ⟨x0, x1, d0, d1, rfl, rfl, b, c⟩ := rq2 r (by simpa using l)
    exact ⟨_, _, _, _, _, _, rfl, rfl, a, b, c⟩
theorem rq4 {H : Hp} {xs : List V} {ds : List PyData} (r : RqA H xs ds) (l : ds.length = 4) : ∃ x0 x1 x2 x3 d0 d1 d2 d3, xs = [x0, x1, x2, x3] ∧ ds = [d0, d1, d2, d3] ∧ Rq H x0 d0 ∧ Rq H x1 d1 ∧ Rq H x2 d2 ∧ Rq H x3 d3 := by
  cases r with
  | nil => cases l
  | cons a r =>
    obtain ⟨x0, x1, x2, d0, d1, d2, rfl, rfl, b, c, d⟩ := rq3 r (by simpa using l)
    exact ⟨_, _, _, _, _, _, _, _, rfl, rfl, a, b, c, d⟩
theorem rq6 {H : Hp} {xs : List V} {ds : List PyData} (r : RqA H xs ds) (l : ds.length = 6) : ∃ x0 x1 x2 x3 x4 x5 d0 d1 d2 d3 d4 d5, xs = [x0, x1, x2, x3, x4, x5] ∧ ds = [d0, d1, d2, d3, d4, d5] ∧ Rq H x0 d0 ∧ Rq H x1 d1 ∧ Rq H x2 d2 ∧ Rq H x3 d3 ∧ Rq H x4 d4 ∧ Rq H x5 d5 := by
  cases r with
  | nil => cases l
  | cons a r =>
  cases r with
  | nil => cases l
  | cons b r =>
    obtain ⟨x0, x1, x2, x3, d0, d1, d2, d3, rfl, rfl, c, d, e, f⟩ := rq4 r (by simpa using l)
    exact ⟨_, _, _, _, _, _, _, _, _, _, _, _, rfl, rfl, a, b, c, d, e, f⟩
/-- t[lo:hi] -/
theorem sl_q {K : PySem.W.Frag} {H : Hp} {a : Addr} {xs : List V} {lo hi : Option Int} {Q : VK} (e : H a = some (.tup xs)) (q : ∀ (z : Addr) (H' : Hp), Kp [] H H' → H' z = some (.tup (cutV xs lo hi)) → Q (.ref z) H') : rSlA K (.ref a) lo hi H Q := by
  refine ⟨a, xs, rfl, SqT.of e, fun h => q a H (Kp.refl _ _) ?_, fun _ d hd => q d _ (Kp.new hd _) upd_same⟩
  rw [e]
  unfold cutV
  rw [h.1, h.2, List.drop_zero, Nat.sub_zero, List.take_length]
def cutD (ds : List PyData) (lo hi : Option Int) : List PyData := (ds.drop (HT.sIx ds.length 0 lo)).take (HT.sIx ds.length ds.length hi - HT.sIx ds.length 0 lo)
theorem RqA.cut {H : Hp} {xs : List V} {ds : List PyData} (r : RqA H xs ds) (lo hi : Option Int) : RqA H (cutV xs lo hi) (cutD ds lo hi) := by
  unfold cutV cutD
  rw [r.len]
  exact (r.drop _).take _
end SC
/-! t[::-1] of a tuple -/
/-! any(..) over a generator expression whose element is any expression of the layer -/
/-! a def that raises out of an except suite what it caught otherwise: its body's callees let out exceptions without a context -/
namespace SC
open PySem PySem.Spec PyProof.Rows L2
section
variable {P : Program} {w : World} {K : PySem.W.Frag} {mg : Str → Option Value} {base : Heap}
theorem _root_.L2.Fun.okXN {x qual : Str} {st : Stmt} {f : Addr} {fd : FuncData} {N ps : List Str} {k : Nat} {sp : Sp} (F : Fun K x qual st f fd) (S : FnScope N ps (defScope st)) (len : ∀ vs H Q E, sp vs H Q E → vs.length = ps.length)
    (hbody : ∀ (cdv : Value) (A : Around) (outer : List Env) (s : Shared) (H : Hp) (vs : List V) (Q : VK) (E : XK), Room k (A.deeper (envOfC qual (defScope st) s.heap.objs.size f cdv)) → sp vs H Q E →
      ∃ t, PSs (cxOf (L2N.CX P w) P w K mg base N qual (defScope st) f cdv A outer s H E) (defBody st) t ∧ t { nx := fun _ H' => Q .non H', rt := Q } (start N vs) H) : FnOk P w K mg base (L2N.CX P w) (k + 1) f fd ps sp := by
  obtain ⟨oc, od, kV, doc, pm, an, cdv, ct, osl, rfl, lk, hcd⟩ := F.ex
  exact fn_of lk hcd S len fun A outer s H vs Q E hr hsp => hbody cdv A outer s H vs Q E hr hsp
end
section
variable {X : Cx} {W : WX} {x m : Str} {C : Addr} {j : Nat} {p p2 pos pos2 : Pos}
theorem Err.pmkN (T : Err X.K X.mg x C) (hg : Gl X x := by rfl) (hdb : (x == ("__debug__" : Str)) = false := by decide) : L2N.PMk X (.Call (.Name x p) [.Constant (.str m) j p2] [] pos) (fun _ H Q => Q (.ref C) none H) :=
  L2N.pmk_own PySem.F.excBase_ValueError T.e T.g T.k (raises_own T.b T.t) hg hdb
theorem Err.raiseN (T : Err X.K X.mg x C) (tk : L2N.Takes X W) (hc : X.calm = true := by rfl) (hg : Gl X x := by rfl) (hdb : (x == ("__debug__" : Str)) = false := by decide) :
    PS X (.Raise (some (.Call (.Name x p) [.Constant (.str m) j p2] [] pos)) none pos2) (tErr C W) := L2N.ps_raise hc tk (T.pmkN hg hdb)
/-- in an except suite -/
theorem Err.raiseH (T : Err X.K X.mg x C) (hot : L2H.HotC X) (tk : Takes X W) (hg : Gl X x := by rfl) (hdb : (x == ("__debug__" : Str)) = false := by decide) :
    PS X (.Raise (some (.Call (.Name x p) [.Constant (.str m) j p2] [] pos)) none pos2) (tErr C W) := L2H.ps_raiseH hot tk (T.pmkN hg hdb)
theorem passXN {E : XK} (tk : L2N.Takes X W) (h : ∀ cls d σ H, E cls d H → W cls d σ H) : Passes (L2N.CX X.prog X.w) X E := L2N.passes_call tk h
end
end SC
/-! a caught error that is handed to a def of the program; isinstance of it there, with or without fields -/
namespace SC
open PySem PySem.Spec PyProof.Rows L2
/-! ### a def that is handed the error that its caller handles: what is known of it is said once -/
structure FnP (P : Program) (w : World) (K : PySem.W.Frag) (mg : Str → Option Value) (base : Heap) (k : Nat) (f : Addr) (fd : FuncData) (ps : List Str) (p : Addr × Obj) (sp : Sp) : Prop where
  len : ∀ vs H Q E, sp vs H Q E → vs.length = ps.length
  run : ∀ (A : Around) (outer : List Env) (s : Shared) (H : Hp) (args : Args) (us : List Value) (vs : List V) (Q : VK) (E : XK), L2H.RoomH k A → L2H.Hot1 A p → L2H.PinOk outer H s p → Env0 P w K mg base A outer s H → BindsTo s fd args (ps.zip us) → Vals vs us → sp vs H Q E →
    codeAny (model P w) A (.call (.ref f) args) (CR CX0 outer P w H s Q E) s
structure CalP (P : Program) (w : World) (K : PySem.W.Frag) (mg : Str → Option Value) (base : Heap) (k : Nat) (x : Str) (who : Addr × Obj → Prop) (sp : Addr × Obj → Sp) : Prop where
  ex : ∃ f fd ps, (∀ p, who p → FnP P w K mg base k f fd ps p (sp p)) ∧ mg x = some (.ref f) ∧ PySem.W.keepIn K (.ref f) = true ∧ Binds K fd ps []
section
variable {X : Cx} {x : Str} {q pos : Pos} {e : Expr} {es : List Expr} {t : TA} {j k : Nat} {who : Addr × Obj → Prop} {sp : Addr × Obj → Sp} {p : Addr × Obj}
/-- x(e, ..) in the suite that handles p -/
theorem CalP.pe (c : CalP X.prog X.w X.K X.mg X.base j x who sp) (hr : L2H.RoomH k X.A) (hot : L2H.Hot1 X.A p) (hp : p ∈ X.pn) (hw : who p) (ha : PA X (e :: es) t) (hjk : j ≤ k := by first | decide | omega) (hg : Gl X x := by rfl) (hdb : (x == ("__debug__" : Str)) = false := by decide)
    (he : starEach (e :: es) X.env = (false, eval e X.env) :: starEach es X.env := by rfl) (hpl : (backTo pos (starEach es X.env)).any (·.1) = false := by rfl) :
    PE X (.Call (.Name x q) (e :: es) [] pos) (tCallS (sp p) (fun _ => E0) t) := by
  obtain ⟨f, fd, ps, F, hm, hk, hb⟩ := c.ex
  have F := F p hw
  refine ⟨fun pins s σ H Q I h => wpAny_Call_Name_kw (ld_glob I hg hm (PySem.W.callWith_K (h₀ := X.base) I.ok.mod.kin hk (thn (ha.run pos pins s σ H _ I h) fun us s1 told => ?_) he hpl) hdb)⟩
  obtain ⟨vs, H1, I1, r, wish⟩ := told
  have lens : us.length = ps.length := by rw [← r.length]; exact F.len _ _ _ _ wish
  have b := hb s1 us I1.kIn (by rw [List.append_nil]; exact lens)
  rw [List.append_nil] at b
  have pinned := I1.pin p (List.mem_append_left _ hp)
  have there : L2H.PinOk X.stack H1 s1 p := ⟨pinned.1, pinned.2.1, fun m => (List.mem_cons.mp (I1.stkSub p.1 m)).elim pinned.2.2.1 pinned.2.2.2.1, pinned.2.2.2.2⟩
  refine ⟨I1.kIn, wpAny_call (codeAny_mono (F.run X.A X.stack s1 H1 ⟨us, []⟩ us vs Q E0 (hr.mono hjk) hot there I1.env0 b r wish) fun res s2 ended => ?_)⟩
  match res, ended with
  | .error _, z => exact False.elim z
  | .ok (.ret u), z => exact I1.after z
  | .ok .next, z => exact False.elim z
  | .ok .brk, z => exact False.elim z
  | .ok .cont, z => exact False.elim z
end
/-- C(e, ..) of an error with an __init__ of its own, its context None -/
theorem pmkN_own {X : Cx} {CX : CXT} {x : Str} {e : Expr} {es : List Expr} {ta : TA} {p pos : Pos} {C fI : Addr} {k : Nat} {fd : FuncData} {ps : List Str} {sp : Sp} (T : OexC X.K C) (iC : PySem.W.findIn X.K (.ref C) "__init__" = some (some (.ref fI))) (tI : PySem.W.typeIn X.K (.ref fI) = some (.type "function"))
    (made : FnOk X.prog X.w X.K X.mg X.base CX k fI fd ps sp) (hr : Room (k + 1) X.A) (hb : Binds X.K fd ps []) (hx : Passes CX X (fun _ _ _ => False)) (hg : Gl X x) (hm : X.mg x = some (.ref C)) (ha : PA X (e :: es) ta)
    (hdb : (x == ("__debug__" : Str)) = false := by decide) (he : starEach (e :: es) X.env = (false, eval e X.env) :: starEach es X.env := by rfl) (hpl : (backTo pos (starEach es X.env)).any (·.1) = false := by rfl) :
    L2N.PMk X (.Call (.Name x p) (e :: es) [] pos) (tMkO C sp [] ta) := by
  intro pins s σ H Q I h
  obtain ⟨nm, q, N, bs, bm, sn, sub, ab, col, dd, k0, k1, k2, k3, k5, clsAt, inRefs⟩ := T.cls
  refine wpAny_Call_Name_kw (ld_glob I hg hm (PySem.W.callWith_K (h₀ := X.base) I.ok.mod.kin T.kC (thn (ha.run pos pins s σ H _ I h) fun us s1 told => ?_) he hpl) hdb)
  obtain ⟨vs, H1, I1, rels, few, wish⟩ := told
  refine ⟨I1.kIn, ?_⟩
  show wpAny _ _ (call (.ref C) us) _ _ _
  obtain ⟨hp, g, dr, tk, os⟩ := s1
  generalize eA : hp.objs.size + 1 = a
  have above : hp.objs.size ≤ a := by omega
  have init := wish a (I1.hok.fresh above)
  rw [List.append_nil] at init
  have old : ∀ b o, hp.get? b = some o → ((hp.push (PySem.W.kdv_tup us)).push (PySem.HandSPX.excO C hp.objs.size)).get? b = some o := fun b o e => Heap.get?_push_of_some _ (Heap.get?_push_of_some _ e)
  have new : ((hp.push (PySem.W.kdv_tup us)).push (PySem.HandSPX.excO C hp.objs.size)).get? a = some (PySem.HandSPX.excO C hp.objs.size) := by
    subst eA
    heap_get
  have I2 : Inv X pins σ (upd H1 a (exo a C none)) ⟨(hp.push (PySem.W.kdv_tup us)).push (PySem.HandSPX.excO C hp.objs.size), g, dr, tk, os⟩ := I1.laid (t' := tk) (a := a) (o := exo a C none) old above (exo_ok new)
  have rels2 : Vals (V.ref a :: vs) (Value.ref a :: us) := .cons rfl rels
  have count : (Value.ref a :: us).length = ps.length := by
    rw [← rels2.length]
    exact made.len _ _ _ _ init
  have fewer : us.length ≤ sizeLine := by
    rw [← Paired.length rels, sizeLine_eq]
    omega
  have binds := hb _ (Value.ref a :: us) I2.kIn (by rw [List.append_nil]; exact count)
  rw [List.append_nil] at binds
  subst eA
  refine wpAny_call (PySem.HandSPX.call_own F.excBase_ValueError (fun Y => PySem.HandSPX.refsVE_contains Y bm inRefs) (I1.kIn _ _ clsAt) (PySem.W.looks_findIn I1.kIn iC) (fun self => PySem.W.bind_fn I1.kIn self tI) fewer
    (codeAny_mono (made.run _ X.stack _ _ ⟨_ :: us, []⟩ (_ :: us) _ _ (fun _ _ _ => False) (hr.make C us []) (I2.env0.make C us []) binds rels2 init) fun res s2 ended => ?_))
  match res, ended with
  | .error _, z => exact hx pins σ _ _ _ s2 I2 z
  | .ok .next, z => exact False.elim z
  | .ok .brk, z => exact False.elim z
  | .ok .cont, z => exact False.elim z
  | .ok (.ret u), ⟨v, H2, os2, bare2, un2, hok2, rv, ev, d, fs, ea, ed, fresh, wish2⟩ =>
    subst ev
    obtain ⟨h2, g2, d2, t2, os'⟩ := s2
    obtain ⟨t0, G, J, kept, gone, there, unseen⟩ := mk_end0 (d2 := d2) (t2 := t2) I1 above old un2 hok2 os2 bare2 ea ed fresh
    exact ⟨rv, _, _, _, ⟨G, g2, d2, t2, os'⟩, _, .ref C, some d, rfl, J, kept, gone, there, ⟨rfl, rfl, fun vs hv => by cases hv; rfl⟩, rfl, rfl, unseen, rfl, bare2, raises_own T.exC T.tyC, wish2⟩
end SC
/-! methods without arguments that may raise; tables of texts -/
namespace SC
open PySem PySem.Spec PyProof.Rows L2
/-- the reading is found first, then what was wished for -/
theorem by_given {X : Cx} {b : List Stmt} {t u : TS} (h : PSs X b t) (e : t = u) : PSs X b u := e ▸ h
/-! try with several clauses, some of which name the caught error -/
/-! tables of texts -/
def txK (tx : List (Str × Str)) : List (Key × V) := tx.map fun p => (Sum.inr p.1, V.str p.2)
def getT (tx : List (Str × Str)) (n : Str) : Option Str := (tx.find? fun p => decide (p.1 = n)).map (·.2)
def putT (tx : List (Str × Str)) (n t : Str) : List (Str × Str) :=
  if (tx.any fun p => decide (p.1 = n)) = true then tx.map (fun p => if p.1 = n then (p.1, t) else p) else tx ++ [(n, t)]
theorem txK_val (n : Str) : ∀ tx : List (Str × Str), valV (txK tx) (Sum.inr n) = (getT tx n).map V.str
  | [] => rfl
  | p :: r => by
    have ih := txK_val n r
    by_cases e : p.1 = n
    · rw [show txK (p :: r) = (Sum.inr p.1, V.str p.2) :: txK r from rfl, valV_pos (by rw [e])]
      simp [getT, List.find?_cons, e]
    · rw [show txK (p :: r) = (Sum.inr p.1, V.str p.2) :: txK r from rfl, valV_neg (fun z => e (Sum.inr.inj z)), ih]
      simp [getT, List.find?_cons, e]
theorem txK_put (n t : Str) (tx : List (Str × Str)) : putK (txK tx) (Sum.inr n) (.str t) = txK (putT tx n t) := by
  unfold putK putT
  have a : ((txK tx).any fun kv => decide (kv.1 = (Sum.inr n : Key))) = tx.any fun p => decide (p.1 = n) := by
    unfold txK
    rw [List.any_map]
    congr 1
    funext p
    exact decide_eq_decide.mpr ⟨fun z => Sum.inr.inj z, fun z => congrArg _ z⟩
  rw [a]
  by_cases h : (tx.any fun p => decide (p.1 = n)) = true
  · rw [if_pos h, if_pos h]
    unfold txK
    rw [List.map_map, List.map_map]
    refine List.map_congr_left fun p _ => ?_
    show (if (Sum.inr p.1 : Key) = Sum.inr n then ((Sum.inr p.1 : Key), V.str t) else (Sum.inr p.1, V.str p.2)) = ((Sum.inr (if p.1 = n then (p.1, t) else p).1 : Key), V.str (if p.1 = n then (p.1, t) else p).2)
    by_cases e : p.1 = n
    · rw [if_pos (by rw [e]), if_pos e]
    · rw [if_neg (fun z => e (Sum.inr.inj z)), if_neg e]
  · rw [if_neg h, if_neg h]
    unfold txK
    rw [List.map_append]
    rfl
theorem txK_len (tx : List (Str × Str)) : (txK tx).length = tx.length := List.length_map ..
theorem putT_len (tx : List (Str × Str)) (n t : Str) : (putT tx n t).length ≤ tx.length + 1 := by
  unfold putT
  split
  · rw [List.length_map]; omega
  · rw [List.length_append]; exact Nat.le_refl _
theorem putT_mem {tx : List (Str × Str)} {n t : Str} {p : Str × Str} (h : p ∈ putT tx n t) : p ∈ tx ∨ p = (n, t) := by
  unfold putT at h
  split at h
  · obtain ⟨q, hq, e⟩ := List.mem_map.mp h
    by_cases c : q.1 = n
    · rw [if_pos c, c] at e; exact .inr e.symm
    · rw [if_neg c] at e; exact .inl (e ▸ hq)
  · rcases List.mem_append.mp h with h | h
    · exact .inl h
    · exact .inr (List.mem_singleton.mp h)
theorem getT_mem {tx : List (Str × Str)} {n t : Str} (h : getT tx n = some t) : (n, t) ∈ tx := by
  unfold getT at h
  obtain ⟨p, hp, e⟩ := Option.map_eq_some_iff.mp h
  have h1 := List.find?_some hp
  have h2 := List.mem_of_find?_eq_some hp
  have h3 : p.1 = n := of_decide_eq_true h1
  rw [← e, ← h3]; exact h2
theorem getT_put (tx : List (Str × Str)) (n t m : Str) : getT (putT tx n t) m = if m = n then some t else getT tx m := by
  have h := valV_put (txK tx) (Sum.inr n) (Sum.inr m) (.str t)
  rw [txK_put, txK_val, txK_val] at h
  by_cases e : m = n
  · rw [if_pos (by rw [e])] at h
    rw [if_pos e]
    cases g : getT (putT tx n t) m with
    | none => rw [g] at h; cases h
    | some x => rw [g] at h; cases h; rfl
  · rw [if_neg (fun z => e (Sum.inr.inj z))] at h
    rw [if_neg e]
    cases g : getT (putT tx n t) m with
    | none =>
      rw [g] at h
      cases g2 : getT tx m with
      | none => rfl
      | some y => rw [g2] at h; cases h
    | some x =>
      rw [g] at h
      cases g2 : getT tx m with
      | none => rw [g2] at h; cases h
      | some y => rw [g2] at h; cases h; rfl
theorem cutV_to (xs : List V) (m : Nat) : cutV xs none (some (m : Int)) = xs.take m := by
  unfold cutV
  rw [HT.sIx_nat, HT.sIx_none, List.drop_zero, Nat.sub_zero]
  rcases Nat.le_total m xs.length with h | h
  · rw [Nat.min_eq_left h]
  · rw [Nat.min_eq_right h, List.take_of_length_le (Nat.le_refl _), List.take_of_length_le h]
theorem cutV_from (xs : List V) (m : Nat) : cutV xs (some (m : Int)) none = xs.drop m := by
  unfold cutV
  rw [HT.sIx_nat, HT.sIx_none, List.take_of_length_le (by rw [List.length_drop]; exact Nat.le_refl _)]
  rcases Nat.le_total m xs.length with h | h
  · rw [Nat.min_eq_left h]
  · rw [Nat.min_eq_right h, List.drop_of_length_le (Nat.le_refl _), List.drop_of_length_le h]
end SC
/-! errors with errors behind them: a raise out of an except suite, whatever the chain of contexts is -/
namespace SC
open PySem PySem.Spec PyProof.Rows L2
/-- errors, each one the context of the one before -/
def Lnk : List (Addr × Obj) → Prop
  | [] => True
  | p :: r => (∃ fs : Array Value, p.2.data = .fields fs ∧ fs[2]? = some (match r with | [] => Value.none | q :: _ => Value.ref q.1)) ∧ Lnk r
theorem Lnk.fields : ∀ {l : List (Addr × Obj)}, Lnk l → ∀ p ∈ l, ∃ fs : Array Value, p.2.data = .fields fs
  | [], _, p, m => absurd m List.not_mem_nil
  | q :: r, h, p, m => by
    rcases List.mem_cons.mp m with rfl | m
    · exact ⟨_, h.1.choose_spec.1⟩
    · exact Lnk.fields h.2 p m
def Stands (h : Heap) (l : List (Addr × Obj)) : Prop := ∀ p ∈ l, h.get? p.1 = some p.2
theorem Lnk.behind : ∀ {pre r : List (Addr × Obj)}, Lnk (pre ++ r) → Lnk r
  | [], _, h => h
  | _ :: pre, _, h => Lnk.behind (pre := pre) h.2
section
variable {prog : Program} {w : World} {A : Around} {E : Value → Shared → Prop} {s : Shared}
theorem quiet_uc (args : Args) : (Code.builtin "proto.unchain" args).quiet = true := Code.quiet_builtin args (by decide +kernel)
theorem ref_beq {x y : Addr} (h : x ≠ y) : (Value.ref x == Value.ref y) = false := by
  first
  | simp [h]
  | exact beq_eq_false_iff_ne.mpr fun e => h (Value.ref.inj e)
theorem unchain_walk {a : Addr} {R : Result → Shared → Prop} (done : R (.ok (.ret .none)) s) : ∀ (ps pre T : List (Addr × Obj)) (x y : Addr × Obj) (t : Bool), Lnk (y :: T) → y :: T = pre ++ x :: ps → Stands s.heap (y :: T) → (∀ p ∈ y :: T, p.1 ≠ a) →
    codeAny (model prog w) A (.builtin "proto.unchain" ⟨[.ref a, .ref x.1, .ref y.1, .bool t], []⟩) R s
  | [], pre, T, x, y, t, lk, e, st, ne => by
    refine codeAny_builtin HotX.entry_unchain ?_
    have lx : Lnk [x] := Lnk.behind (pre := pre) (e ▸ lk)
    obtain ⟨⟨fs, hd, h2⟩, _⟩ := lx
    have hx : s.heap.get? x.1 = some x.2 := st x (by rw [e]; exact List.mem_append_right _ List.mem_cons_self)
    show wpAny _ _ (field (.ref x.1) 2 >>= _) _ _ s
    refine wpAny_bind (wpAny_field hx hd h2 ?_)
    rw [if_pos (show (Value.none == Value.none) = true from rfl)]
    first
    | exact wpAny_bind (wpAny_pure (wpAny_pure done))
    | exact wpAny_pure done
  | z :: ps, pre, T, x, y, t, lk, e, st, ne => by
    refine codeAny_builtin HotX.entry_unchain ?_
    have lx : Lnk (x :: z :: ps) := Lnk.behind (pre := pre) (e ▸ lk)
    obtain ⟨fs, hd, h2⟩ := lx.1
    have hx : s.heap.get? x.1 = some x.2 := st x (by rw [e]; exact List.mem_append_right _ List.mem_cons_self)
    have hz : z.1 ≠ a := ne z (by rw [e]; exact List.mem_append_right _ (List.mem_cons_of_mem _ List.mem_cons_self))
    show wpAny _ _ (field (.ref x.1) 2 >>= _) _ _ s
    refine wpAny_bind (wpAny_field hx hd h2 ?_)
    rw [if_neg (show ¬ ((Value.ref z.1 == Value.none) = true) from by simp)]
    rw [if_neg (show ¬ ((Value.ref z.1 == Value.ref a) = true) from by rw [ref_beq hz]; decide)]
    by_cases c : z.1 = y.1
    · rw [if_pos (show (Value.ref z.1 == Value.ref y.1) = true from by rw [c]; simp)]
      exact wpAny_bind (wpAny_rule (wpAny_pure done))
    · rw [if_neg (show ¬ ((Value.ref z.1 == Value.ref y.1) = true) from by rw [ref_beq c]; decide)]
      have e2 : y :: T = (pre ++ [x]) ++ z :: ps := by rw [e, List.append_assoc]; rfl
      cases t with
      | false =>
        refine wpAny_bind (wpAny_pure ?_)
        exact wpAny_pure (a := Fin.again (.builtin "proto.unchain" ⟨[.ref a, .ref z.1, .ref y.1, .bool (!false)], []⟩)) ⟨quiet_uc _, unchain_walk done ps (pre ++ [x]) T z y (!false) lk e2 st ne⟩
      | true =>
        cases pre with
        | nil =>
          have e3 : y :: T = x :: z :: ps := e
          cases e3
          refine wpAny_bind (wpAny_field hx hd h2 ?_)
          exact wpAny_pure (a := Fin.again (.builtin "proto.unchain" ⟨[.ref a, .ref z.1, .ref z.1, .bool (!true)], []⟩)) ⟨quiet_uc _, unchain_walk done ps [] ps z z (!true) lk.2 rfl (fun p m => st p (List.mem_cons_of_mem _ m)) (fun p m => ne p (List.mem_cons_of_mem _ m))⟩
        | cons p0 pre =>
          have e3 : y :: T = p0 :: (pre ++ x :: z :: ps) := e
          cases e3
          cases pre with
          | nil =>
            obtain ⟨⟨gs, gd, g2⟩, _⟩ := lk
            refine wpAny_bind (wpAny_field (st y List.mem_cons_self) gd g2 ?_)
            exact wpAny_pure (a := Fin.again (.builtin "proto.unchain" ⟨[.ref a, .ref z.1, .ref x.1, .bool (!true)], []⟩)) ⟨quiet_uc _, unchain_walk done ps [x] (z :: ps) z x (!true) lx rfl (fun p m => st p (List.mem_cons_of_mem _ m)) (fun p m => ne p (List.mem_cons_of_mem _ m))⟩
          | cons p1 pre =>
            obtain ⟨⟨gs, gd, g2⟩, lk2⟩ := lk
            refine wpAny_bind (wpAny_field (st y List.mem_cons_self) gd g2 ?_)
            exact wpAny_pure (a := Fin.again (.builtin "proto.unchain" ⟨[.ref a, .ref z.1, .ref p1.1, .bool (!true)], []⟩)) ⟨quiet_uc _, unchain_walk done ps (p1 :: pre ++ [x]) (pre ++ x :: z :: ps) z p1 (!true) lk2 (by simp) (fun p m => st p (List.mem_cons_of_mem _ m)) (fun p m => ne p (List.mem_cons_of_mem _ m))⟩
/-- the chain of the handled error, from itself -/
def Held (A : Around) (l : List (Addr × Obj)) (h : Heap) : Prop := ∃ p r, l = p :: r ∧ A.handled = some (.ref p.1) ∧ Lnk l ∧ Stands h l
theorem raise_held {α : Type} {a : Addr} {oe : Obj} {vs : Array Value} {l : List (Addr × Obj)} {x1 : Addr} {Q : α → Shared → Prop} (hot : Held A l s.heap) (first : ∀ p ∈ l.head?, p.1 = x1) (off : ∀ p ∈ l, p.1 ≠ a) (ha : s.heap.get? a = some oe) (da : oe.data = .fields vs) (hi : 2 < vs.size)
    (hE : E (.ref a) { s with heap := s.heap.update a (Obj.mapFields (·.setIfInBounds 2 (.ref x1))) }) : wpAny (model prog w) A (raiseNew (.ref a) : Sem α) Q E s := by
  obtain ⟨p, r, rfl, hh, lk, st⟩ := hot
  have e1 : p.1 = x1 := first p rfl
  subst e1
  have neq : (Value.ref p.1 != Value.ref a) = true := HotX.ref_bne (off p List.mem_cons_self)
  have walked : ∀ {Q2 : Value → Shared → Prop}, Q2 .none s → wpAny (model prog w) A (holding [Value.ref a] (runValue (.builtin "proto.unchain" ⟨[.ref a, .ref p.1, .ref p.1, .bool false], []⟩))) Q2 E s := fun {Q2} q =>
    wpAny_holding (wpAny_runValue (unchain_walk (R := fun r s' => match r with | .ok (.ret v) => Q2 v s' | .ok _ => False | .error e => E e s') q r [] r p p false lk rfl st off))
  unfold raiseNew
  refine wpAny_bind (wpAny_handled ?_)
  rw [hh]
  first
  | (show wpAny _ _ (if (Value.ref p.1 != Value.ref a) = true then _ else _) _ _ _
     rw [if_pos neq]
     first
     | exact wpAny_bind (walked (wpAny_bind (HotX.chained ha da hi (wpAny_throw hE))))
     | exact wpAny_bind (wpAny_bind (walked (HotX.chained ha da hi (wpAny_throw hE)))))
  | (refine wpAny_bind ?_
     show wpAny _ _ (if (Value.ref p.1 != Value.ref a) = true then _ else _) _ _ _
     rw [if_pos neq]
     exact wpAny_bind (walked (HotX.chained ha da hi (wpAny_throw hE))))
/-- raise of an error that was just made, while another one is handled -/
theorem raise_stmt_held {env : Env} {made : Sem Value} {Q : Flow → Shared → Prop} {l : List (Addr × Obj)} {x1 : Addr} (first : ∀ p ∈ l.head?, p.1 = x1)
    (h : wpAny (model prog w) A made (fun u t => ∃ a ob fs kind, u = .ref a ∧ t.heap.get? a = some ob ∧ ob.cls = kind ∧ ob.data = .fields fs ∧ fs[1]? = some .none ∧ 2 < fs.size ∧ (∀ p ∈ l, p.1 ≠ a) ∧ Held A l t.heap ∧
      PySem.W.Looks (model prog w) t.heap (isSubtype kind (.type "BaseException")) true ∧ PySem.W.Looks (model prog w) t.heap (typeOf kind) (.type "type") ∧ E (.ref a) { t with heap := t.heap.update a (Obj.mapFields (·.setIfInBounds 2 (.ref x1))) }) E s) :
    wpAny (model prog w) A (raiseStmt env (some made) none) Q E s := by
  unfold raiseStmt
  dsimp only
  refine wpAny_bind (wpAny_mono h (fun u t gives => ?_) fun _ _ z => z)
  obtain ⟨a, ob, fs, kind, rfl, at1, isKind, isFields, noTrace, room, off, held, sub, meta1, goal⟩ := gives
  have kindIs : PySem.W.Looks (model prog w) t.heap (typeOf (.ref a)) kind := fun A Q E s keeps q => wpAny_typeOf_ref (keeps _ _ at1) (by rw [isKind]; exact q)
  have isExc : PySem.W.Looks (model prog w) t.heap (isInstance (.ref a) (.type "BaseException")) true := kindIs.andThen sub
  have noClass : ∀ {Q2 : Bool → Shared → Prop}, Q2 false t → wpAny (model prog w) A (isType (.ref a)) Q2 E t := by
    intro Q2 q2
    simp only [isType, loadHead]
    refine wpAny_bind (wpAny_loadPart at1 ?_)
    rw [isFields]
    exact wpAny_pure q2
  refine wpAny_bind (wpAny_pure ?_)
  dsimp only
  refine wpAny_bind (wpAny_holding ?_)
  unfold excFromValue isExcClass
  refine wpAny_bind (wpAny_bind (noClass ?_))
  simp only [Bool.false_eq_true, if_false]
  refine wpAny_pure ?_
  simp only [Bool.false_eq_true, if_false]
  refine wpAny_bind (isExc.here ?_)
  simp only [if_true]
  refine wpAny_pure ?_
  refine wpAny_bind (noClass ?_)
  simp only [Bool.false_eq_true, if_false]
  unfold raisedInstance
  refine wpAny_bind (wpAny_bind (kindIs.here (wpAny_bind (meta1.here ?_))))
  rw [if_pos (beq_self_eq_true _)]
  refine wpAny_pure ?_
  unfold setFlight
  refine wpAny_bind (wpAny_bind (wpAny_field at1 isFields noTrace ?_))
  rw [if_neg (by decide)]
  refine wpAny_pure ?_
  exact raise_held held first off at1 isFields room goal
end
/-! ### an error in the air, with the errors behind it -/
/-- what is kept of the error's object: class, dict, and the errors behind it -/
def Zg (ps : List (Addr × Obj)) (cls : Value) (d : Option Addr) : Obj → Prop := fun o => (o.cls = cls ∧ o.dict = d) ∧ ∀ fs, o.data = .fields fs → fs[2]? = some (match ps with | [] => Value.none | q :: _ => Value.ref q.1)
theorem Zg.steady {ps : List (Addr × Obj)} {cls : Value} {d : Option Addr} : PySem.PXN.Steady1 (Zg ps cls d) := fun o v h => by
  refine ⟨⟨PySem.PXN.steady_cls o v h.1.1, PySem.PXN.steady_dict o v h.1.2⟩, ?_⟩
  have h2 := h.2
  clear h
  obtain ⟨c, dd, dt, sl⟩ := o
  cases dt with
  | fields gs =>
    intro fs e
    have e2 : gs.setIfInBounds 1 v = fs := Data.fields.inj e
    have e3 : (gs.setIfInBounds 1 v)[2]? = gs[2]? := by
      first
      | exact Array.getElem?_setIfInBounds_ne (by decide)
      | simp [Array.getElem?_setIfInBounds]
    rw [← e2, e3]
    exact h2 gs rfl
  | _ =>
    intro fs e
    first
    | exact Data.noConfusion e
    | cases e
theorem Zg.zc {ps : List (Addr × Obj)} {cls : Value} {d : Option Addr} {o : Obj} (h : Zg ps cls d o) : Zc cls d o := h.1
theorem Zg.ofN {cls : Value} {d : Option Addr} {o : Obj} (h : L2N.Zn cls d o) : Zg [] cls d o := ⟨⟨h.1, h.2.1⟩, h.2.2⟩
/-- the errors behind it stand on the ground, untracked -/
def Row (B : Heap) (H : Hp) (ps : List (Addr × Obj)) : Prop := Lnk ps ∧ ∀ p ∈ ps, B.get? p.1 = some p.2 ∧ H p.1 = none
theorem Row.nil {B : Heap} {H : Hp} : Row B H [] := ⟨trivial, fun p m => absurd m List.not_mem_nil⟩
def AirG (X : Cx) (W : WX) (u : Value) (s' : Shared) : Prop :=
  ∃ (a : Addr) (B : Heap) (sI : Shared) (held : List (Addr × Obj)) (τ : L2.St) (G : Hp) (cls : Value) (d : Option Addr) (ps : List (Addr × Obj)),
    u = .ref a ∧ Inv X held τ G sI ∧ (∀ b o, sI.heap.get? b = some o → b ∉ frs X.stack → B.get? b = some o) ∧ sI.heap.UpToSlots s'.heap ∧
      Sky B X.stack a (Zg ps cls d) X.env.locals s'.heap ∧ Row B G ps ∧ G a = none ∧ s'.os = sI.os ∧ AllBare s'.gens ∧ W cls d τ G
def TakesG (X : Cx) (W : WX) : Prop := ∀ u s', AirG X W u s' → X.xe u s'
theorem sky_imp {B : Heap} {l : List Env} {a L : Addr} {Z Z' : Obj → Prop} {h : Heap} (z : ∀ o, Z o → Z' o) (x : Sky B l a Z L h) : Sky B l a Z' L h := by
  rcases x with ⟨h1, h2, h3, oe, fs, h4, h5, h6⟩ | x | x
  · exact .inl ⟨h1, h2, h3, oe, fs, h4, z _ h5, h6⟩
  · exact .inr (.inl (L2H.flyingZ_imp z x))
  · exact .inr (.inr ⟨x.1, x.2.1, x.2.2.1, L2H.tracedZ_imp z x.2.2.2⟩)
/-- what takes errors with errors behind them takes those without -/
theorem TakesG.toN {X : Cx} {W : WX} (t : TakesG X W) : L2N.Takes X W := fun u s' ⟨a, B, sI, held, τ, G, cls, d, e, I, nb, up, sky, na, os, ag, wish⟩ =>
  t u s' ⟨a, B, sI, held, τ, G, cls, d, [], e, I, nb, up, sky_imp (fun _ => Zg.ofN) sky, Row.nil, na, os, ag, wish⟩
theorem Takes.toG {X : Cx} {W : WX} (t : Takes X W) : TakesG X W := fun u s' ⟨a, B, sI, held, τ, G, cls, d, ps, e, I, nb, up, sky, row, na, os, ag, wish⟩ =>
  t u s' ⟨a, B, sI, held, τ, G, cls, d, e, I, nb, up, sky_imp (fun _ => Zg.zc) sky, na, os, ag, wish⟩
/-- behind a call that let an error out -/
def CXG (P : Program) (w : World) (outer : List Env) (H : Hp) (s : Shared) (E : XK) (u : Value) (s' : Shared) : Prop :=
  ∃ (a : Addr) (B : Heap) (G : Hp) (cls : Value) (d : Option Addr) (ps : List (Addr × Obj)), u = .ref a ∧ HandSPX.FlyingZ B outer a (Zg ps cls d) s'.heap ∧ HOk P w G B ∧ UB (frs outer) H G s.heap B s'.heap ∧ Row B G ps ∧ G a = none ∧ s'.os = s.os ∧ AllBare s'.gens ∧ E cls d G
section
variable {X : Cx} {held : List (Addr × Obj)} {τ : L2.St} {H G : Hp} {sI s s' : Shared} {B : Heap} {W : WX} {E : XK}
theorem AirG.called (I : Inv X held τ H s) (wish : ∀ cls d G, E cls d G → W cls d τ G) {u : Value} (c : CXG X.prog X.w X.stack H s E u s') : AirG X W u s' := by
  obtain ⟨a, B, G, cls, d, ps, rfl, fly, good, ub, row, na, os, ag, told⟩ := c
  obtain ⟨D, d1, d2⟩ := restrict s'.heap fun b => (B.get? b).isSome || decide (b ∈ frs X.stack)
  have stays : B.StaysIn s'.heap := fly.1
  have ofB : ∀ b o, B.get? b = some o → D.get? b = some o := fun b o e => (d1 b (by simp [e])).trans (stays b o e)
  have ofF : ∀ b, b ∈ frs X.stack → D.get? b = s'.heap.get? b := fun b m => d1 b (by simp [m])
  have back : ∀ b o, D.get? b = some o → s'.heap.get? b = some o ∧ ((B.get? b).isSome = true ∨ b ∈ frs X.stack) := fun b o e => by
    cases q : ((B.get? b).isSome || decide (b ∈ frs X.stack)) with
    | false => rw [d2 b q] at e; cases e
    | true => exact ⟨by rw [← d1 b q]; exact e, by simpa [Bool.or_eq_true] using q⟩
  refine ⟨a, B, { s with heap := D, gens := s'.gens, drawn := s'.drawn, toks := s'.toks }, held, τ, G, cls, d, ps, rfl, I.call (ch := []) ⟨fun b o e n m _ => ofB b o (ub.keep b o e n m), fun b o e _ m _ => ?_, fun b o e n _ => ub.free b o e n, fun b o e _ => ?_, ub.tups, ub.frzs, ub.tbls⟩ (good.kept ofB) ag (fun _ z => nomatch z),
    fun b o e m => ?_, Heap.UpToSlots.of_keeps fun b o e => (back b o e).1, .inr (.inl fly), row, na, os, ag, wish _ _ _ told⟩
  · obtain ⟨sl, q⟩ := ub.slot b o e m
    exact ⟨sl, (ofF b m).trans q⟩
  · by_cases m : b ∈ frs X.stack
    · obtain ⟨sl, q⟩ := ub.slot b o e m
      exact ⟨_, (ofF b m).trans q⟩
    · obtain ⟨o2, q⟩ := ub.there b o e m
      exact ⟨o2, ofB b o2 q⟩
  · obtain ⟨e2, where1⟩ := back b o e
    rcases where1 with z | z
    · obtain ⟨o2, q⟩ := Option.isSome_iff_exists.mp z
      have y := stays b o2 q
      rw [e2] at y
      cases y
      exact q
    · exact absurd z m
/-- an error that is new in the air -/
theorem AirG.fresh {a : Addr} {ob : Obj} {fs : Array Value} {cls : Value} {d : Option Addr} {ps : List (Addr × Obj)} (I : Inv X held τ H sI) (keeps : ∀ b o, sI.heap.get? b = some o → s'.heap.get? b = some o) (was : sI.heap.get? a = none) (is : s'.heap.get? a = some ob)
    (z : Zg ps cls d ob) (isFields : ob.data = .fields fs) (noTrace : fs[1]? = some .none) (lk : Lnk ps) (pinned : ∀ p ∈ ps, sI.heap.get? p.1 = some p.2 ∧ H p.1 = none ∧ p.1 ∉ frs X.stack) (na : H a = none) (os : s'.os = sI.os) (ag : AllBare s'.gens) (wish : W cls d τ H) : AirG X W (.ref a) s' := by
  refine ⟨a, PySem.W.hideAll sI.heap (frs X.stack), sI, held, τ, H, cls, d, ps, rfl, I, fun b o e m => PySem.W.hideAll_get _ e m, Heap.UpToSlots.of_keeps keeps,
    .inl ⟨fun b o e => keeps b o (PySem.W.of_hideAll _ e), ?_, Heap.FunFrames.of_keeps (fun b o e _ => ⟨o, keeps b o e, rfl⟩) (funFrames_none I.stack fun b m => PySem.W.hideAll_none _ m), ob, fs, is, z, isFields, noTrace⟩,
    ⟨lk, fun p m => let ⟨q1, q2, q3⟩ := pinned p m; ⟨PySem.W.hideAll_get _ q1 q3, q2⟩⟩, na, os, ag, wish⟩
  cases q : (PySem.W.hideAll sI.heap (frs X.stack)).get? a with
  | none => rfl
  | some o =>
    have y := PySem.W.of_hideAll _ q
    rw [was] at y
    cases y
/-- it leaves the def -/
theorem AirG.leaves (stk : X.stack = X.env :: X.outer) (frm : X.env.frame = some X.env.locals) (noEx : X.ex = []) {E2 : Value → Shared → Prop} (wish : ∀ cls d σ H, W cls d σ H → E cls d H) {u : Value} (x : AirG X W u s') :
    wpAny (model X.prog X.w) X.A (leaving X.env u) (fun _ t => CXG X.prog X.w X.outer X.H_0 X.s_0 E u t) E2 s' := by
  obtain ⟨a, B, sI, held, τ, G, cls, d, ps, rfl, I, nb, up, sky, row, na, os, ag, told⟩ := x
  have frames : X.A.frames = some (X.env :: X.outer) := by rw [I.ok.frames, stk]
  have notFrame : ∀ b o, X.s_0.heap.get? b = some o → b ∉ X.fs → b ∉ frs X.stack := fun b o e m mm => by
    rcases List.mem_cons.mp (I.stkSub b mm) with y | y
    · have below := Heap.lt_size e
      rw [y] at below
      exact absurd (Nat.lt_of_lt_of_le below I.ok.above) (Nat.lt_irrefl _)
    · exact m y
  have notEx : ∀ b, b ∉ X.ex := fun b m => by rw [noEx] at m; cases m
  have ends : ∀ h2, HandSPX.FlyingZ B X.outer a (Zg ps cls d) h2 → s'.heap.UpToSlots h2 → CXG X.prog X.w X.outer X.H_0 X.s_0 E (.ref a) { s' with heap := h2 } := fun h2 fly up2 => by
    refine ⟨a, B, G, cls, d, ps, rfl, fly, I.inGround nb, ⟨fun b o e n m => nb b o (I.base.keep b o e n m (notEx b)) (notFrame b o e m), fun b o e m => ?_, fun b o e n => I.base.free b o e n (notEx b), fun b o e m => ?_, I.base.tups, I.base.frzs, I.base.tbls⟩,
      row, na, os.trans I.os, ag, wish _ _ _ _ told⟩
    · obtain ⟨_, o2, e2, plain⟩ := I.ok.funs.mem m
      rw [e] at e2
      cases e2
      obtain ⟨_, q1⟩ := I.base.slot b o e (I.ok.frf b m) m (notEx b)
      obtain ⟨_, q2⟩ := up b _ q1 plain
      obtain ⟨sl, q3⟩ := up2 b _ q2 plain
      exact ⟨sl, q3⟩
    · obtain ⟨o2, q⟩ := I.base.there b o e (notEx b)
      exact ⟨o2, nb b o2 q (notFrame b o e m)⟩
  rw [stk] at sky
  rcases sky with ⟨k1, k2, k3, ob, fs, k4, k5, k6, k7⟩ | fly | hd
  · exact PySem.PXN.leaving_firstZ Zg.steady frames k3 frm k4 k1 k2 k6 k7 k5 ends
  · exact PySem.PXN.leaves_onZ Zg.steady frames frm fly ends
  · exact HandSPX.leaves_heldZ frm hd ends
theorem takesG_of (stk : X.stack = X.env :: X.outer) (frm : X.env.frame = some X.env.locals) (noEx : X.ex = []) {E2 : Value → Shared → Prop}
    (lets : X.xe = fun e t => wpAny (model X.prog X.w) X.A (leaving X.env e) (fun _ t2 => CXG X.prog X.w X.outer X.H_0 X.s_0 E e t2) E2 t) : TakesG X (fun cls d _ H => E cls d H) := fun u s' x => by
  rw [lets]
  exact AirG.leaves (W := fun cls d _ H => E cls d H) (E := E) stk frm noEx (fun _ _ _ _ y => y) x
theorem passG (tk : TakesG X W) (wish : ∀ cls d σ H, E cls d H → W cls d σ H) : Passes (CXG X.prog X.w) X E := fun _ τ _ _ e s' I c => tk e s' (AirG.called I (fun cls d G y => wish cls d τ G y) c)
theorem passGL : Passes (CXG X.prog X.w) X E0 := fun _ _ _ _ _ _ _ c => by
  obtain ⟨_, _, _, _, _, _, _, _, _, _, _, _, _, _, z⟩ := c
  exact z.elim
theorem passAtG (tk : TakesG X W) (σ : L2.St) : PassesAt (CXG X.prog X.w) X σ (WE W σ) := fun _ _ _ e s' I c => tk e s' (AirG.called I (fun _ _ _ y => y) c)
end
section
variable {P : Program} {w : World} {K : PySem.W.Frag} {mg : Str → Option Value} {base : Heap}
/-- what lets out errors without a context, or any error -/
theorem _root_.L2.FnOk.toG {k : Nat} {f : Addr} {fd : FuncData} {ps : List Str} {sp : Sp} (F : FnOk P w K mg base (L2N.CX P w) k f fd ps sp) : FnOk P w K mg base (CXG P w) k f fd ps sp :=
  ⟨F.len, fun A outer s H args us vs Q E hr h0 hb hv hsp => PySem.codeAny_mono (F.run A outer s H args us vs Q E hr h0 hb hv hsp) fun r s' ended => by
    match r, ended with
    | .ok (.ret u), y => exact y
    | .ok .next, y => exact y
    | .ok .brk, y => exact y
    | .ok .cont, y => exact y
    | .error e, ⟨a, B, G, cls, d, e1, fly, good, ub, rest⟩ => exact ⟨a, B, G, cls, d, [], e1, L2H.flyingZ_imp (fun o => Zg.ofN) fly, good, ub, Row.nil, rest⟩⟩
theorem _root_.L2.FnOk.ofG {k : Nat} {f : Addr} {fd : FuncData} {ps : List Str} {sp : Sp} (F : FnOk P w K mg base (CXG P w) k f fd ps sp) : FnOk P w K mg base (L2.CX P w) k f fd ps sp :=
  ⟨F.len, fun A outer s H args us vs Q E hr h0 hb hv hsp => PySem.codeAny_mono (F.run A outer s H args us vs Q E hr h0 hb hv hsp) fun r s' ended => by
    match r, ended with
    | .ok (.ret u), y => exact y
    | .ok .next, y => exact y
    | .ok .brk, y => exact y
    | .ok .cont, y => exact y
    | .error e, ⟨a, B, G, cls, d, _, e1, fly, good, ub, _, rest⟩ => exact ⟨a, B, G, cls, d, e1, L2H.flyingZ_imp (fun o => Zg.zc) fly, good, ub, rest⟩⟩
theorem Cal.toG {k : Nat} {x : Str} {sp : Sp} (c : Cal P w K mg base (L2N.CX P w) k x sp) : Cal P w K mg base (CXG P w) k x sp :=
  let ⟨f, fd, ps, F, r⟩ := c.ex
  ⟨f, fd, ps, F.toG, r⟩
theorem Cal.ofG {k : Nat} {x : Str} {sp : Sp} (c : Cal P w K mg base (CXG P w) k x sp) : Cal P w K mg base (L2.CX P w) k x sp :=
  let ⟨f, fd, ps, F, r⟩ := c.ex
  ⟨f, fd, ps, F.ofG, r⟩
theorem _root_.L2.Fun.okG {x qual : Str} {st : Stmt} {f : Addr} {fd : FuncData} {N ps : List Str} {k : Nat} {sp : Sp} (F : Fun K x qual st f fd) (S : FnScope N ps (defScope st)) (len : ∀ vs H Q E, sp vs H Q E → vs.length = ps.length)
    (body : ∀ (cdv : Value) (A : Around) (outer : List Env) (s : Shared) (H : Hp) (vs : List V) (Q : VK) (E : XK), Room k (A.deeper (envOfC qual (defScope st) s.heap.objs.size f cdv)) → sp vs H Q E →
      ∃ t, PSs (cxOf (CXG P w) P w K mg base N qual (defScope st) f cdv A outer s H E) (defBody st) t ∧ t { nx := fun _ G => Q .non G, rt := Q } (start N vs) H) : FnOk P w K mg base (CXG P w) (k + 1) f fd ps sp := by
  obtain ⟨oc, od, kV, doc, pm, an, cdv, ct, osl, rfl, lk, hcd⟩ := F.ex
  exact fn_of lk hcd S len fun A outer s H vs Q E hr hsp => body cdv A outer s H vs Q E hr hsp
end
/-! ### raise out of a suite -/
/-- the context bears the handled error and those behind it -/
def HotG (X : Cx) : Prop := ∃ (p : Addr × Obj) (r : List (Addr × Obj)), X.A.handled = some (.ref p.1) ∧ Lnk (p :: r) ∧ ∀ q ∈ p :: r, q ∈ X.pn
theorem ps_raiseG {X : Cx} {W : WX} {e : Expr} {t : L2.St → Hp → XK → Prop} {pos : Pos} (hot : HotG X) (tk : TakesG X W) (he : L2N.PMk X e t) : PS X (.Raise (some e) none pos) (fun _ σ H => t σ H fun cls d H' => W cls d σ H') := by
  refine ⟨fun held s σ H D I pre => ?_⟩
  obtain ⟨p, r, hh, lk, inPins⟩ := hot
  show wpAny _ _ (do standAt pos; raiseStmt X.env (some (do let v ← eval e X.env; standAt pos; pure v)) none) _ _ _
  refine wpAny_bind (wpAny_standAt (raise_stmt_held (l := p :: r) (x1 := p.1) (fun q m => by cases m; rfl) (wpAny_bind (wpAny_mono (he held s σ H _ I pre) (fun u t made => wpAny_bind (wpAny_standAt (wpAny_pure ?_))) fun _ _ z => z))))
  obtain ⟨a, ob, fs, sI, G, cls, d, rfl, J, keeps, was, is, z, isFields, noTrace, na, os, ag, rs, wish⟩ := made
  obtain ⟨r1, r2⟩ := rs (model X.prog X.w) t.heap (J.kIn.keeps keeps)
  have pinned : ∀ q ∈ p :: r, sI.heap.get? q.1 = some q.2 ∧ G q.1 = none ∧ q.1 ∉ frs X.stack := fun q m => by
    obtain ⟨g1, g2, g3, g4, _⟩ := J.pin q (List.mem_append_left _ (inPins q m))
    exact ⟨g1, g2, fun mm => (List.mem_cons.mp (J.stkSub q.1 mm)).elim g3 g4⟩
  have off : ∀ q ∈ p :: r, q.1 ≠ a := fun q m y => by
    have := (pinned q m).1
    rw [y, was] at this
    cases this
  have room : 2 < fs.size := (Array.getElem?_eq_some_iff.mp (z.2.2 fs isFields)).1
  have trace2 : (fs.setIfInBounds 2 (Value.ref p.1))[1]? = some Value.none := by
    have e3 : (fs.setIfInBounds 2 (Value.ref p.1))[1]? = fs[1]? := by
      first
      | exact Array.getElem?_setIfInBounds_ne (by decide)
      | simp [Array.getElem?_setIfInBounds]
    rw [e3]
    exact noTrace
  refine ⟨a, ob, fs, cls, rfl, is, z.1, isFields, noTrace, room, off, ⟨p, r, rfl, hh, lk, fun q m => keeps _ _ (pinned q m).1⟩, r1, r2, tk _ _ (AirG.fresh (ps := p :: r) J (fun b o g => ?_) was (Heap.get?_update_self _ is (Obj.isFreed_of_fields (Obj.data_mapFields isFields _)))
    ⟨⟨(Obj.cls_mapFields ..).trans z.1, (HandSPX.dict_mapFields ..).trans z.2.1⟩, fun gs eg => ?_⟩ (Obj.data_mapFields isFields _) trace2 lk pinned na os ag wish)⟩
  · show (t.heap.update a (Obj.mapFields (·.setIfInBounds 2 (.ref p.1)))).get? b = some o
    rw [Heap.get?_update_other _ _ (fun y => by rw [← y, was] at g; cases g)]
    exact keeps b o g
  · rw [Obj.data_mapFields isFields] at eg
    rw [← Data.fields.inj eg]
    first
    | exact Array.getElem?_setIfInBounds_self_of_lt room
    | simp [room]
/-! ### try, with clauses of one class or two, named or not, whose suites may raise -/
inductive Guard (X : Cx) : Expr → List Value → Prop
  | one {x : Str} {c : Value} {p : Pos} : Names X x c → Guard X (.Name x p) [c]
  | two {x y : Str} {c d : Value} {p q pos : Pos} {k : Nat} : Names X x c → Names X y d → Guard X (.Tuple [.Name x p, .Name y q] k pos) [c, d]
theorem Guard.suite {X : Cx} {g : Expr} {l : List Value} {e : Addr} {pn : List (Addr × Obj)} (h : Guard X g l) : Guard (X.suite e pn) g l := by
  cases h with
  | one a => exact .one a
  | two a b => exact .two a b
abbrev ClauseG := List Value × (Addr → Value → Option Addr → TS)
inductive ClG where
  | named (k : ClauseG)
  | bare (k : ClauseG)
def wClG (K : PySem.W.Frag) (i : Nat) (out : WX) (D : Ends) : List ClG → WX
  | [] => out
  | .named k :: r => fun cv dd τ G => ∃ yes, PySem.W.exmAny K cv k.1 = some yes ∧ if yes = true then (∀ e, G e = none → k.2 e cv dd (dropE i D) (τ.set i (some (.ref e))) G) else wClG K i out D r cv dd τ G
  | .bare k :: r => fun cv dd τ G => ∃ yes, PySem.W.exmAny K cv k.1 = some yes ∧ if yes = true then (∀ e, G e = none → k.2 e cv dd D τ G) else wClG K i out D r cv dd τ G
inductive WrittenG (X : Cx) (out : WX) (n : Str) : List ExceptHandler → List ClG → Prop
  | none : WrittenG X out n [] []
  | one {g : Expr} {k : ClauseG} {st : Stmt} {more : List Stmt} {p2 : Pos} {hs : List ExceptHandler} {ks : List ClG} (guard : Guard X g k.1)
      (runs : ∀ (e : Addr) (ob : Obj) (cv : Value) (dd : Option Addr) (held : List (Addr × Obj)), Zc cv dd ob → (∃ fs, ob.data = .fields fs) → HotG (X.suite e ((e, ob) :: held)) → PSs (X.suite e ((e, ob) :: held)) (st :: more) (k.2 e cv dd)) (rest : WrittenG X out n hs ks) :
      WrittenG X out n (.ExceptHandler (some g) (some n) (st :: more) p2 :: hs) (.named k :: ks)
  | bare {g : Expr} {k : ClauseG} {st : Stmt} {more : List Stmt} {p2 : Pos} {hs : List ExceptHandler} {ks : List ClG} (guard : Guard X g k.1)
      (runs : ∀ (e : Addr) (ob : Obj) (cv : Value) (dd : Option Addr) (held : List (Addr × Obj)), Zc cv dd ob → (∃ fs, ob.data = .fields fs) → TakesG (L2H.suiteX X e ((e, ob) :: held)) out → HotG (L2H.suiteX X e ((e, ob) :: held)) → PSs (L2H.suiteX X e ((e, ob) :: held)) (st :: more) (k.2 e cv dd)) (rest : WrittenG X out n hs ks) :
      WrittenG X out n (.ExceptHandler (some g) none (st :: more) p2 :: hs) (.bare k :: ks)
section
variable {X : Cx} {E E2 : Value → Shared → Prop}
theorem name_at {x : Str} {c : Value} {p : Pos} {Y : Cx} {τ : L2.St} {G : Hp} {s : Shared} {held : List (Addr × Obj)} (named : Names Y x c) (I : Inv Y held τ G s) {Q : Value → Shared → Prop} {E : Value → Shared → Prop} (q : Q c s) : wpAny (model Y.prog Y.w) Y.A (eval (.Name x p) Y.env) Q E s := by
  rcases named with ⟨gl, nodbg, isMod | ⟨isMod, isB, nn⟩⟩
  · exact ld_glob I gl isMod q nodbg
  · exact ld_blt I gl isMod isB q nn nodbg
theorem guard_ok {g : Expr} {l : List Value} {e : Addr} {cv : Value} {b : Bool} {h : Heap} {t : Shared} {τ : L2.St} {G : Hp} {held : List (Addr × Obj)} {Y : Cx} {R : Bool → Shared → Prop} (gd : Guard Y g l) (I : Inv Y held τ G { t with heap := h })
    (kind : PySem.W.Looks (model Y.prog Y.w) h (typeOf (.ref e)) cv) (hx : PySem.W.exmAny Y.K cv l = some b) (next : ∀ h2, (∀ c o, h.get? c = some o → h2.get? c = some o) → R b { t with heap := h2 }) :
    wpAny (model Y.prog Y.w) Y.A (eval g Y.env) (fun c s1 => wpAny (model Y.prog Y.w) Y.A (excMatches (.ref e) c) R E s1) E2 { t with heap := h } := by
  cases gd with
  | one named =>
    obtain ⟨b1, d1, x1, y1, z1⟩ := PySem.W.exmAny_cons hx
    have w2 : some false = some d1 := y1
    cases w2
    rw [Bool.or_false] at z1
    subst z1
    exact name_at named I ((PySem.W.exm_one (M := model Y.prog Y.w) I.kIn kind x1).here (next h fun _ _ q => q))
  | @two x y c d p q pos k n1 n2 =>
    refine PyProof.Rows.Tuple_ ?_
    have sx : starEach [.Name x p, .Name y q] Y.env = [(false, eval (.Name x p) Y.env), (false, eval (.Name y q) Y.env)] := rfl
    refine spliced_more (name_at n1 I ?_)
    refine spliced_more (name_at n2 I ?_)
    refine spliced_none ?_
    refine wpAny_newTuple ?_
    have keeps : ∀ b o, h.get? b = some o → (h.push { cls := .type "tuple", data := .seq [c, d].toArray }).get? b = some o := fun b o q => Heap.get?_push_of_some _ q
    have J : Y.K.In (h.push { cls := .type "tuple", data := .seq [c, d].toArray }) := I.kIn.keeps keeps
    exact (PySem.W.exm_tup2 (M := model Y.prog Y.w) J (kind.keeps keeps) (Heap.get?_push_size _ rfl) hx).here (next _ keeps)
end
theorem flying_keeps {B h h2 : Heap} {l : List Env} {a : Addr} {Z : Obj → Prop} (x : HandSPX.FlyingZ B l a Z h) (k : ∀ b o, h.get? b = some o → h2.get? b = some o) : HandSPX.FlyingZ B l a Z h2 := by
  obtain ⟨k1, k2, k3, oe, vs, T, oT, ts, he, hz, hd, h1, hnT, hTe, hT, hdT, h3⟩ := x
  exact ⟨fun b o q => k b o (k1 b o q), k2, k3.of_keeps fun b o q _ => ⟨o, k b o q, rfl⟩, oe, vs, T, oT, ts, k _ _ he, hz, hd, h1, hnT, hTe, k _ _ hT, hdT, h3⟩
section
variable {X : Cx} {n : Str} {i : Nat} {body : List Stmt} {first : ExceptHandler} {others : List ExceptHandler} {ks : List ClG} {pos : Pos} {tb : WX → TS} {out : WX}
theorem ps_try_G (stk : X.stack = X.env :: X.outer) (frm : X.env.frame = some X.env.locals) (nodup : X.N.Nodup) (slot : X.N[i]? = some n) (isLoc : X.env.kindOf n = some .local) (lets : ∀ hd : Option Value, PassesOwnAt (model X.prog X.w) (X.A.mark hd) X.A X.env X.xe) (leaves : TakesG X out)
    (runBody : ∀ (V : WX) (held : List (Addr × Obj)) (ex : Value → Shared → Prop), TakesG (X.tr held ex) V → PassesOwn (model X.prog X.w) X.A X.env ex → PSs (X.tr held ex) body (tb V))
    (clauses : WrittenG X out n (first :: others) ks) : PS X (.Try body (first :: others) [] [] pos) (fun D τ G => tb (wClG X.K i out D ks) D τ G) := by
  refine ⟨fun held s τ G D I pre => ?_⟩
  have good := I.ok
  have around : X.A.frames = some (X.env :: X.outer) := by rw [good.frames, stk]
  refine wpAny_Try_except ?_
  let after : Value → Shared → Prop := fun ev t1 => wpAny (model X.prog X.w) X.A (noteFrame ev X.env)
    (fun _ t2 => wpAny (model X.prog X.w) X.A (setFlight ev none) (fun _ t3 => wpAny (model X.prog X.w) X.A (handleBy ev X.env (first :: others)) (SP X held D) X.xe t3) X.xe t2) X.xe t1
  refine wpAny_mono ((runBody (wClG X.K i out D ks) (X.pn ++ held) after (fun ev t thrown => ?_) PassesOwn.looking).run [] s τ G D (I.toTry _) pre) (fun flow t done => ?_) (fun _ _ z => z)
  · obtain ⟨e, base, sT, heldT, τ1, G1, cv, dd, ps, rfl, IT, newer, upT, skyT, row, freeE, osT, gensT, wish⟩ := thrown
    have I1 : Inv X held τ1 G1 sT := IT.ofTry good
    show wpAny (model X.prog X.w) X.A (noteFrame (.ref e) X.env) _ _ _
    refine L2N.Sky.land Zg.steady around frm (by rw [← stk]; exact skyT) fun h0 fly0 up0 => ?_
    have plain : ∀ {h : Heap} {p : Addr} {ob : Obj} {fs : Array Value}, HandSPX.FlyingZ base (X.env :: X.outer) e (Zg ps cv dd) h → h.get? p = some ob → ob.data = .fields fs → p ∉ frs (X.env :: X.outer) := fun {h p ob fs} fly g f m => by
      obtain ⟨_, ob2, at2, notFields⟩ := fly.2.2.1.mem m
      rw [g] at at2
      exact notFields _ (Option.some.inj at2 ▸ f)
    have offL : ∀ {p : Addr}, p ∉ frs (X.env :: X.outer) → p ≠ X.env.locals ∧ p ∉ X.fs := fun {p} no =>
      ⟨fun z => no (List.mem_filterMap.mpr ⟨X.env, List.mem_cons_self, by rw [frm, z]⟩), fun m =>
        let ⟨en, enIn, q⟩ := List.mem_filterMap.mp m
        no (List.mem_filterMap.mpr ⟨en, List.mem_cons_of_mem _ enIn, q⟩)⟩
    have rowFields : ∀ p ∈ ps, ∃ fs : Array Value, p.2.data = .fields fs := row.1.fields
    have landed : ∀ {h : Heap}, HandSPX.FlyingZ base (X.env :: X.outer) e (Zg ps cv dd) h → sT.heap.UpToSlots h → ∃ (ob : Obj) (fs : Array Value), Zg ps cv dd ob ∧ ob.data = .fields fs ∧ h.get? e = some ob ∧ (∀ p ∈ ps, h.get? p.1 = some p.2) ∧ Inv (X.suite e ((e, ob) :: (X.pn ++ (held ++ ps)))) [] τ1 G1 { t with heap := h } := fun {h} fly up => by
      have IA : Inv X held τ1 G1 { t with heap := h } := I1.landed newer fly.1 up osT gensT
      obtain ⟨ob, fs, obAt, obZ, obF⟩ := fly.there
      obtain ⟨o1, o2⟩ := offL (plain fly obAt obF)
      have stand : ∀ p ∈ ps, h.get? p.1 = some p.2 := fun p m => fly.1 _ _ (row.2 p m).1
      have IP : Inv X (held ++ ps) τ1 G1 { t with heap := h } := IA.pins_of fun p m => by
        rcases List.mem_append.mp m with m | m
        · exact IA.pin p (List.mem_append_right _ m)
        · obtain ⟨gs, isF⟩ := rowFields p m
          obtain ⟨a1, a2⟩ := offL (plain fly (stand p m) isF)
          exact ⟨stand p m, (row.2 p m).2, a1, a2, fun v z => by rw [isF] at z; cases z⟩
      exact ⟨ob, fs, obZ, obF, obAt, stand, IP.suite obAt obF freeE o1 o2⟩
    clear pre
    suffices each : ∀ {hs : List ExceptHandler} {cs : List ClG} {h : Heap}, WrittenG X out n hs cs → HandSPX.FlyingZ base (X.env :: X.outer) e (Zg ps cv dd) h → sT.heap.UpToSlots h → wClG X.K i out D cs cv dd τ1 G1 →
        wpAny (model X.prog X.w) X.A (handleBy (.ref e) X.env hs) (SP X held D) X.xe { t with heap := h } from each clauses fly0 (upT.trans up0) wish
    intro hs cs h written
    induction written generalizing h with
    | none =>
      intro fly up goesOn
      refine wpAny_handleBy_nil ?_
      obtain ⟨_, _, _, ob3, fs3, tb3, _, _, at3, _, f3, g3, _⟩ := id fly
      unfold PySem.passOn
      refine wpAny_bind (wpAny_field at3 f3 g3 ?_)
      rw [if_neg (by simp)]
      have again : wpAny (model X.prog X.w) X.A (setFlight (.ref e) X.env.frame) (fun _ t4 => wpAny (model X.prog X.w) X.A (throw (.ref e) : Sem Flow) (SP X held D) X.xe t4) X.xe { t with heap := h } := by
        rw [frm]
        exact HandSPX.setFlight_upZ fly fun hB heldB upB => wpAny_throw (leaves _ _ ⟨e, base, sT, held, τ1, G1, cv, dd, ps, rfl, I1, newer, up.trans upB, .inr (.inr (by rw [stk]; exact heldB)), row, freeE, osT, gensT, goesOn⟩)
      first
        | exact wpAny_bind (wpAny_pure (wpAny_bind again))
        | exact wpAny_bind again
    | @one g k st more p2 hs2 ks2 guard runs rest ih =>
      rintro fly up ⟨yes, match1, w2⟩
      obtain ⟨ob, fs, obZ, obF, obAt, stand, inSuite⟩ := landed fly up
      have kind : PySem.W.Looks (model X.prog X.w) h (typeOf (.ref e)) cv := fun A Q E u kk q => wpAny_typeOf_ref (kk _ _ obAt) (by rw [obZ.1.1]; exact q)
      refine wpAny_handleBy_cons (codeAny_handlers_test ?_) (by intro q; cases q)
      refine guard_ok (Y := X.suite e ((e, ob) :: (X.pn ++ (held ++ ps)))) guard.suite inSuite kind match1 fun h2 keeps => ?_
      have fly2 := flying_keeps fly keeps
      have up2 : sT.heap.UpToSlots h2 := up.trans (Heap.UpToSlots.of_keeps keeps)
      cases yes with
      | false =>
        rw [if_neg (by decide)] at w2
        show wpAny _ X.A (handleBy (.ref e) X.env hs2) _ _ _
        exact ih fly2 up2 w2
      | true =>
        rw [if_pos rfl] at w2
        refine codeAny_handlers_suite_as (HandSPX.lands_againZ fly2 fun hB flyB upB => ?_)
        obtain ⟨obB, fsB, zB, fB, atB, standB, SB⟩ := landed flyB (up2.trans upB)
        refine store_ok (X := X.suite e ((e, obB) :: (X.pn ++ (held ++ ps)))) (v := .ref e) SB nodup slot (.inl isLoc) rfl (fun t5 I5 => ?_) (.inr isLoc)
        have hot : HotG (X.suite e ((e, obB) :: (X.pn ++ (held ++ ps)))) := ⟨(e, obB), ps, rfl, ⟨⟨fsB, fB, zB.2 fsB fB⟩, row.1⟩, fun q m => by
          rcases List.mem_cons.mp m with rfl | m
          · exact List.mem_cons_self
          · exact List.mem_cons_of_mem _ (List.mem_append_right _ (List.mem_append_right _ m))⟩
        refine wpAny_mono ((runs e obB cv dd (X.pn ++ (held ++ ps)) zB.1 ⟨_, fB⟩ hot).run [] t5 _ G1 _ I5 (w2 e freeE)) (fun flow t6 ended => ?_) (fun _ _ z => False.elim z)
        have gone : ∀ {τ6 : L2.St} {G6 : Hp} {Q : Shared → Prop}, Inv (X.suite e ((e, obB) :: (X.pn ++ (held ++ ps)))) [] τ6 G6 t6 → (∀ t7, Inv X held (τ6.set i none) G6 t7 → Q t7) →
            wpAny (model X.prog X.w) X.A (do bindName X.env n .none; unbindBehindTheSuite X.env n p2) (fun _ t7 => Q t7) X.xe t6 := fun {τ6 G6 Q} I6 q => gone_ok ((Inv.unsuite I6 good).unpinned) nodup slot isLoc q
        cases flow with
        | ret u => exact let ⟨_, _, _, I6, r6, q6⟩ := ended; gone I6 fun _ I7 => ⟨_, _, _, I7, r6, q6⟩
        | next => exact let ⟨_, _, I6, q6⟩ := ended; gone I6 fun _ I7 => ⟨_, _, I7, q6⟩
        | brk => exact let ⟨_, _, I6, q6⟩ := ended; gone I6 fun _ I7 => ⟨_, _, I7, q6⟩
        | cont => exact let ⟨_, _, I6, q6⟩ := ended; gone I6 fun _ I7 => ⟨_, _, I7, q6⟩
    | @bare g k st more p2 hs2 ks2 guard runs rest ih =>
      rintro fly up ⟨yes, match1, w2⟩
      obtain ⟨ob, fs, obZ, obF, obAt, stand, inSuite⟩ := landed fly up
      have kind : PySem.W.Looks (model X.prog X.w) h (typeOf (.ref e)) cv := fun A Q E u kk q => wpAny_typeOf_ref (kk _ _ obAt) (by rw [obZ.1.1]; exact q)
      refine wpAny_handleBy_cons (codeAny_handlers_test ?_) (by intro q; cases q)
      refine guard_ok (Y := X.suite e ((e, ob) :: (X.pn ++ (held ++ ps)))) guard.suite inSuite kind match1 fun h2 keeps => ?_
      have fly2 := flying_keeps fly keeps
      have up2 : sT.heap.UpToSlots h2 := up.trans (Heap.UpToSlots.of_keeps keeps)
      cases yes with
      | false =>
        rw [if_neg (by decide)] at w2
        show wpAny _ X.A (handleBy (.ref e) X.env hs2) _ _ _
        exact ih fly2 up2 w2
      | true =>
        rw [if_pos rfl] at w2
        refine codeAny_handlers_suite (HandSPX.lands_againZ fly2 fun hB flyB upB => ?_)
        obtain ⟨obB, fsB, zB, fB, atB, standB, SB⟩ := landed flyB (up2.trans upB)
        have takes : TakesG (L2H.suiteX X e ((e, obB) :: (X.pn ++ (held ++ ps)))) out := fun u2 s2 ⟨a2, B2, sI2, pn2, σ2, H2, cls2, d2, qs2, e2, I2, r2⟩ => leaves u2 s2 ⟨a2, B2, sI2, held, σ2, H2, cls2, d2, qs2, e2, (L2H.unsuiteX I2 good).unpinned, r2⟩
        have hot : HotG (L2H.suiteX X e ((e, obB) :: (X.pn ++ (held ++ ps)))) := ⟨(e, obB), ps, rfl, ⟨⟨fsB, fB, zB.2 fsB fB⟩, row.1⟩, fun q m => by
          rcases List.mem_cons.mp m with rfl | m
          · exact List.mem_cons_self
          · exact List.mem_cons_of_mem _ (List.mem_append_right _ (List.mem_append_right _ m))⟩
        have w3 : k.2 e cv dd D τ1 G1 := w2 e freeE
        refine wpAny_mono ((runs e obB cv dd (X.pn ++ (held ++ ps)) zB.1 ⟨_, fB⟩ takes hot).run [] _ _ G1 _ (L2H.suiteX_of SB) w3) (fun flow t6 ended => ?_) (fun e6 s6 z => lets (some (.ref e)) e6 s6 z)
        cases flow with
        | ret u => exact let ⟨_, _, _, I6, r6, q6⟩ := ended; ⟨_, _, _, (L2H.unsuiteX I6 good).unpinned, r6, q6⟩
        | next => exact let ⟨_, _, I6, q6⟩ := ended; ⟨_, _, (L2H.unsuiteX I6 good).unpinned, q6⟩
        | brk => exact let ⟨_, _, I6, q6⟩ := ended; ⟨_, _, (L2H.unsuiteX I6 good).unpinned, q6⟩
        | cont => exact let ⟨_, _, I6, q6⟩ := ended; ⟨_, _, (L2H.unsuiteX I6 good).unpinned, q6⟩
  · cases flow with
    | ret u => exact let ⟨_, _, _, J, r, q⟩ := done; ⟨_, _, _, J.ofTry good, r, q⟩
    | next => exact let ⟨_, _, J, q⟩ := done; wpAny_execs_nil ⟨_, _, J.ofTry good, q⟩
    | brk => exact let ⟨_, _, J, q⟩ := done; ⟨_, _, J.ofTry good, q⟩
    | cont => exact let ⟨_, _, J, q⟩ := done; ⟨_, _, J.ofTry good, q⟩
theorem takes0G : TakesG X (fun _ _ _ _ => False) := fun _ _ ⟨_, _, _, _, _, _, _, _, _, _, _, _, _, _, _, _, _, _, w⟩ => w.elim
end
/-! ### an error with an __init__ of its own, made where another one is handled or where none is -/
structure FnG (P : Program) (w : World) (K : PySem.W.Frag) (mg : Str → Option Value) (base : Heap) (k : Nat) (f : Addr) (fd : FuncData) (ps : List Str) (sp : Sp) : Prop where
  len : ∀ vs H Q E, sp vs H Q E → vs.length = ps.length
  run : ∀ (A : Around) (outer : List Env) (s : Shared) (H : Hp) (args : Args) (us : List Value) (vs : List V) (Q : VK) (E : XK) (p : Addr × Obj), L2H.RoomH k A → L2H.PinOk outer H s p → Env0 P w K mg base A outer s H → BindsTo s fd args (ps.zip us) → Vals vs us → sp vs H Q E →
    codeAny (model P w) A (.call (.ref f) args) (CR CX0 outer P w H s Q E) s
section
variable {P : Program} {w : World} {K : PySem.W.Frag} {mg : Str → Option Value} {base : Heap}
theorem FnG.mono {j k : Nat} {f : Addr} {fd : FuncData} {ps : List Str} {sp : Sp} (F : FnG P w K mg base j f fd ps sp) (h : j ≤ k) : FnG P w K mg base k f fd ps sp := ⟨F.len, fun A outer s H args us vs Q E p hr => F.run A outer s H args us vs Q E p (hr.mono h)⟩
theorem fn_handled {k : Nat} {x qual : Str} {st : Stmt} {f : Addr} {fd : FuncData} {N ps : List Str} {sp : Sp} (F : Fun K x qual st f fd) (S : FnScope N ps (defScope st)) (len : ∀ vs H Q E, sp vs H Q E → vs.length = ps.length)
    (body : ∀ (cdv : Value) (A : Around) (outer : List Env) (s : Shared) (H : Hp) (vs : List V) (Q : VK) (E : XK) (p : Addr × Obj), L2H.RoomH k (A.deeper (envOfC qual (defScope st) s.heap.objs.size f cdv)) → sp vs H Q E →
      ∃ t, PSs (L2H.cxH CX0 P w K mg base N qual (defScope st) f cdv A outer s H E p) (defBody st) t ∧ t { nx := fun _ H' => Q .non H', rt := Q } (L2.start N vs) H) : FnG P w K mg base (k + 1) f fd ps sp := by
  obtain ⟨oc, od, kV, doc, pm, an, cdv, ct, osl, rfl, lk, hcd⟩ := F.ex
  refine ⟨len, fun A outer s H args us vs Q E p hr hpin e0 hb r hsp => ?_⟩
  have inK : K.In s.heap := e0.mod.kin.keeps fun b o e => (e0.bs b o e).1
  have noLim : s.heap.NoLimit := e0.mod.nolimit.keeps fun b o e => (e0.bs b o e).1
  have kinds : ∀ y ∈ ps.zip us, (defScope st).names.lookup y.1 = some .local ∨ ((defScope st).names.lookup y.1 = some .cell ∧ ((cellsFrom (s.heap.objs.size + 1) (defScope st).names []).lookup y.1).isSome = true) := fun y hy =>
    (S.par y.1 (List.of_mem_zip (a := y.1) (b := y.2) hy).1).elim .inl fun q => .inr ⟨q, PySem.W.cellsFrom_some _ _ _ (.inl q)⟩
  refine codeAny_call_function hr.depth (inK _ _ lk) rfl S.co S.gen rfl (PySem.W.codeRec_of inK hcd) (hb _ _ _ _ (wpAny_newFunctionEnv_cells S.kind kinds fun env he s1 into => ?_))
  subst he
  obtain ⟨t, reads, wish⟩ := body cdv A outer s H vs Q E p (hr.deeper _) hsp
  refine ⟨noLim.keeps into.toInCall.keep, codeAny_func (wpAny_mono (reads.run [] s1 (L2.start N vs) H _ (L2H.inv_startH S hpin e0 (len _ _ _ _ hsp) r into) wish) (fun fl s' ended => ?_) fun e s' ended => ended)⟩
  match fl, ended with
  | .ret u, ⟨v, _, H', J, rv, q⟩ => exact ⟨v, H', J.os, J.bare, J.base, J.hok, rv, q⟩
  | .next, ⟨_, H', J, q⟩ => exact ⟨V.non, H', J.os, J.bare, J.base, J.hok, rfl, q⟩
  | .brk, ⟨_, _, _, q⟩ => exact False.elim q
  | .cont, ⟨_, _, _, q⟩ => exact False.elim q
end
theorem HotG.pin {X : Cx} (hot : HotG X) {held : List (Addr × Obj)} {σ : L2.St} {H : Hp} {s : Shared} (I : Inv X held σ H s) : ∃ p : Addr × Obj, L2H.PinOk X.stack H s p := by
  obtain ⟨p, r, _, _, inPins⟩ := hot
  have pinned := I.pin p (List.mem_append_left _ (inPins p List.mem_cons_self))
  exact ⟨p, pinned.1, pinned.2.1, fun m => (List.mem_cons.mp (I.stkSub p.1 m)).elim pinned.2.2.1 pinned.2.2.2.1, pinned.2.2.2.2⟩
theorem pmkG_own {X : Cx} {x : Str} {e : Expr} {es : List Expr} {ta : TA} {p pos : Pos} {C fI : Addr} {k : Nat} {fd : FuncData} {ps : List Str} {sp : Sp} (T : OexC X.K C) (iC : PySem.W.findIn X.K (.ref C) "__init__" = some (some (.ref fI))) (tI : PySem.W.typeIn X.K (.ref fI) = some (.type "function"))
    (made : FnG X.prog X.w X.K X.mg X.base k fI fd ps sp) (hr : L2H.RoomH (k + 1) X.A) (hot : HotG X) (hb : Binds X.K fd ps []) (hg : Gl X x) (hm : X.mg x = some (.ref C)) (ha : PA X (e :: es) ta)
    (hdb : (x == ("__debug__" : Str)) = false := by decide) (he : starEach (e :: es) X.env = (false, eval e X.env) :: starEach es X.env := by rfl) (hpl : (backTo pos (starEach es X.env)).any (·.1) = false := by rfl) :
    L2N.PMk X (.Call (.Name x p) (e :: es) [] pos) (tMkO C sp [] ta) := by
  intro pins s σ H Q I h
  obtain ⟨nm, q, N, bs, bm, sn, sub, ab, col, dd, k0, k1, k2, k3, k5, clsAt, inRefs⟩ := T.cls
  refine wpAny_Call_Name_kw (ld_glob I hg hm (PySem.W.callWith_K (h₀ := X.base) I.ok.mod.kin T.kC (thn (ha.run pos pins s σ H _ I h) fun us s1 told => ?_) he hpl) hdb)
  obtain ⟨vs, H1, I1, rels, few, wish⟩ := told
  refine ⟨I1.kIn, ?_⟩
  show wpAny _ _ (call (.ref C) us) _ _ _
  obtain ⟨hp, g, dr, tk, os⟩ := s1
  generalize eA : hp.objs.size + 1 = a
  have above : hp.objs.size ≤ a := by omega
  have init := wish a (I1.hok.fresh above)
  rw [List.append_nil] at init
  have old : ∀ b o, hp.get? b = some o → ((hp.push (PySem.W.kdv_tup us)).push (PySem.HandSPX.excO C hp.objs.size)).get? b = some o := fun b o e => Heap.get?_push_of_some _ (Heap.get?_push_of_some _ e)
  have new : ((hp.push (PySem.W.kdv_tup us)).push (PySem.HandSPX.excO C hp.objs.size)).get? a = some (PySem.HandSPX.excO C hp.objs.size) := by
    subst eA
    heap_get
  have I2 : Inv X pins σ (upd H1 a (exo a C none)) ⟨(hp.push (PySem.W.kdv_tup us)).push (PySem.HandSPX.excO C hp.objs.size), g, dr, tk, os⟩ := I1.laid (t' := tk) (a := a) (o := exo a C none) old above (exo_ok new)
  have rels2 : Vals (V.ref a :: vs) (Value.ref a :: us) := .cons rfl rels
  have count : (Value.ref a :: us).length = ps.length := by
    rw [← rels2.length]
    exact made.len _ _ _ _ init
  have fewer : us.length ≤ sizeLine := by
    rw [← Paired.length rels, sizeLine_eq]
    omega
  have binds := hb _ (Value.ref a :: us) I2.kIn (by rw [List.append_nil]; exact count)
  rw [List.append_nil] at binds
  obtain ⟨pn, hpin⟩ := hot.pin I2
  subst eA
  refine wpAny_call (PySem.HandSPX.call_own F.excBase_ValueError (fun Y => PySem.HandSPX.refsVE_contains Y bm inRefs) (I1.kIn _ _ clsAt) (PySem.W.looks_findIn I1.kIn iC) (fun self => PySem.W.bind_fn I1.kIn self tI) fewer
    (codeAny_mono (made.run _ X.stack _ _ ⟨_ :: us, []⟩ (_ :: us) _ _ (fun _ _ _ => False) pn (hr.make C us []) hpin (I2.env0.make C us []) binds rels2 init) fun res s2 ended => ?_))
  match res, ended with
  | .error _, z => exact False.elim z
  | .ok .next, z => exact False.elim z
  | .ok .brk, z => exact False.elim z
  | .ok .cont, z => exact False.elim z
  | .ok (.ret u), ⟨v, H2, os2, bare2, un2, hok2, rv, ev, d, fs, ea, ed, fresh, wish2⟩ =>
    subst ev
    obtain ⟨h2, g2, d2, t2, os'⟩ := s2
    obtain ⟨t0, G, J, kept, gone, there, unseen⟩ := mk_end0 (d2 := d2) (t2 := t2) I1 above old un2 hok2 os2 bare2 ea ed fresh
    exact ⟨rv, _, _, _, ⟨G, g2, d2, t2, os'⟩, _, .ref C, some d, rfl, J, kept, gone, there, ⟨rfl, rfl, fun vs hv => by cases hv; rfl⟩, rfl, rfl, unseen, rfl, bare2, raises_own T.exC T.tyC, wish2⟩
/-- an error keeps its reason -/
def spRin (K : PySem.W.Frag) : Sp := fun vs H Q _ => ∃ (a C : Addr) (z : Str), vs = [.ref a, .str z] ∧ H a = some (exo a C none) ∧ OexC K C ∧ PySem.W.findIn K (.ref C) "reason" = some none ∧ ∀ dx, H dx = none → dx ≠ a → Q .non (upd (upd H dx (exd dx [("reason", .str z)])) a (exo a C (some dx)))
theorem kp_made {H : Hp} {a dx : Addr} {o1 o2 o3 o4 : HO} (ha : H a = none) (hd : H dx = none) : Kp [] H (L2.upd (del (L2.upd (L2.upd (L2.upd H a o1) dx o2) a o3) a) dx o4) := by
  have g : ∀ b u, H b = some u → L2.upd (del (L2.upd (L2.upd (L2.upd H a o1) dx o2) a o3) a) dx o4 b = some u := fun b u e => by
    have na : b ≠ a := fun z => by rw [z, ha] at e; cases e
    have nd : b ≠ dx := fun z => by rw [z, hd] at e; cases e
    rw [upd_ne nd, del_ne na, upd_ne na, upd_ne nd, upd_ne na]
    exact e
  exact ⟨fun b u _ e => g b u e, fun b xs e => g b _ e⟩
/-- an error class that keeps a reason -/
structure EOwn (P : Program) (w : World) (K : PySem.W.Frag) (mg : Str → Option Value) (base : Heap) (x : Str) (C : Addr) : Prop where
  g : mg x = some (.ref C)
  o : OexC K C
  n : PySem.W.findIn K (.ref C) "reason" = some none
  ex : ∃ fi fd, PySem.W.findIn K (.ref C) "__init__" = some (some (.ref fi)) ∧ PySem.W.typeIn K (.ref fi) = some (.type "function") ∧ FnOk P w K mg base CX0 1 fi fd ["self", "reason"] (spRin K) ∧ FnG P w K mg base 1 fi fd ["self", "reason"] (spRin K) ∧ Binds K fd ["self", "reason"] []
  xf : XfC K C
  em : PySem.W.exmOne K (.ref C) (.ref C) = some true
/-- what a raise of it wishes -/
def tRef (C : Addr) (z : Str) (W : WX) : TS := fun _ σ H => ∀ (d : Addr) (G : Hp), H d = none → G d = some (.xd [("reason", .str z)]) → Kp [] H G → W (.ref C) (some d) σ G
theorem ps_weak {X : Cx} {st : Stmt} {t u : TS} (h : PS X st t) (w : ∀ D σ H, u D σ H → t D σ H) : PS X st u := ⟨fun held s σ H D I pre => h.run held s σ H D I (w D σ H pre)⟩
section
variable {X : Cx} {W : WX} {x z : Str} {C : Addr} {j k : Nat} {p p2 pos pos2 : Pos}
theorem own_wish (o : OexC X.K C) (n : PySem.W.findIn X.K (.ref C) "reason" = some none) (D : Ends) (σ : L2.St) (H : Hp) (h : tRef C z W D σ H) : tMkO C (spRin X.K) [] (tCons (tC (.str z)) tNil) σ H fun cls d G => W cls d σ G :=
  ⟨by show 1 ≤ 1000; decide, fun a ha => ⟨a, C, z, rfl, upd_same, o, n, fun dx hdx nda => by
    have hdx2 : H dx = none := by rw [upd_ne nda] at hdx; exact hdx
    exact ⟨rfl, dx, _, upd_same, by rw [upd_ne nda]; exact upd_same, hdx2, h dx _ hdx2 upd_same (kp_made ha hdx2)⟩⟩⟩
/-- raise X('z') where nothing is handled -/
theorem EOwn.raiseG (T : EOwn X.prog X.w X.K X.mg X.base x C) (hr : Room k X.A) (tk : TakesG X W) (hk : 2 ≤ k := by first | decide | omega) (hc : X.calm = true := by rfl) (hg : Gl X x := by rfl) (hdb : (x == ("__debug__" : Str)) = false := by decide)
    (he : starEach [.Constant (.str z) j p2] X.env = [(false, eval (.Constant (.str z) j p2) X.env)] := by rfl) :
    PS X (.Raise (some (.Call (.Name x p) [.Constant (.str z) j p2] [] pos)) none pos2) (tRef C z W) := by
  obtain ⟨fi, fd, i1, t1, m1, _, b1⟩ := T.ex
  exact ps_weak (L2N.ps_raise hc tk.toN (pmkN_own T.o i1 t1 m1 (hr.mono hk) b1 pass0 hg T.g (pa_cons pe_str pa_nil) hdb he rfl)) (own_wish T.o T.n)
/-- raise X('z') in an except suite -/
theorem EOwn.raiseH (T : EOwn X.prog X.w X.K X.mg X.base x C) (hr : L2H.RoomH k X.A) (hot : HotG X) (tk : TakesG X W) (hk : 2 ≤ k := by first | decide | omega) (hg : Gl X x := by rfl) (hdb : (x == ("__debug__" : Str)) = false := by decide)
    (he : starEach [.Constant (.str z) j p2] X.env = [(false, eval (.Constant (.str z) j p2) X.env)] := by rfl) :
    PS X (.Raise (some (.Call (.Name x p) [.Constant (.str z) j p2] [] pos)) none pos2) (tRef C z W) := by
  obtain ⟨fi, fd, i1, t1, _, m1, b1⟩ := T.ex
  exact ps_weak (ps_raiseG hot tk (pmkG_own T.o i1 t1 m1 (hr.mono hk) hot b1 hg T.g (pa_cons pe_str pa_nil) hdb he rfl)) (own_wish T.o T.n)
/-- of an error without an __init__ -/
theorem Err.raiseG {m : Str} (T : Err X.K X.mg x C) (tk : TakesG X W) (hc : X.calm = true := by rfl) (hg : Gl X x := by rfl) (hdb : (x == ("__debug__" : Str)) = false := by decide) :
    PS X (.Raise (some (.Call (.Name x p) [.Constant (.str m) j p2] [] pos)) none pos2) (tErr C W) := L2N.ps_raise hc tk.toN (T.pmkN hg hdb)
theorem Err.raiseS {m : Str} (T : Err X.K X.mg x C) (hot : HotG X) (tk : TakesG X W) (hg : Gl X x := by rfl) (hdb : (x == ("__debug__" : Str)) = false := by decide) :
    PS X (.Raise (some (.Call (.Name x p) [.Constant (.str m) j p2] [] pos)) none pos2) (tErr C W) := ps_raiseG hot tk (T.pmkN hg hdb)
end
/-! ### calls that may let such errors out -/
section
variable {X : Cx} {x : Str} {q pos apos : Pos} {o e : Expr} {es : List Expr} {ta : TE} {t : TA} {sp : Sp} {j k : Nat} {V : WX} {C : Addr} {pl : Sem Bool}
theorem Cal.peG (c : Cal X.prog X.w X.K X.mg X.base (CXG X.prog X.w) j x sp) (hr : Room k X.A) (tk : TakesG X V) (ha : PA X (e :: es) t) (hjk : j ≤ k := by first | decide | omega) (hg : Gl X x := by rfl) (hdb : (x == ("__debug__" : Str)) = false := by decide)
    (he : starEach (e :: es) X.env = (false, eval e X.env) :: starEach es X.env := by rfl) (hpl : (backTo pos (starEach es X.env)).any (·.1) = false := by rfl) :
    PE X (.Call (.Name x q) (e :: es) [] pos) (tCallS sp (WE V) t) :=
  let ⟨_, _, _, F, m, kp, b⟩ := c.ex
  pe_callS F (hr.mono hjk) hg m kp b (fun σ => passAtG tk σ) ha hdb he hpl
theorem CalM.peG (c : CalM X.prog X.w X.K X.mg X.base (CXG X.prog X.w) j C x sp) (hr : Room k X.A) (tk : TakesG X V) (ho : PE X o ta) (ha : PA X (e :: es) t) (hjk : j ≤ k := by first | decide | omega)
    (hst : starEach (e :: es) X.env = (false, eval e X.env) :: starEach es X.env := by rfl) (hpl : (backTo pos (starEach es X.env)).any (·.1) = false := by rfl)
    (ht : eval (.Call (.Attribute o x apos) (e :: es) [] pos) X.env = (do
      let ov ← eval o X.env
      standAt apos.atName
      let (f, first) ← holding [ov] (getMethod ov x pl)
      callWith pos f first (backTo pos (starEach (e :: es) X.env)) (backToKw pos (keywordEach [] X.env))) := by rfl) :
    PE X (.Call (.Attribute o x apos) (e :: es) [] pos) (tMethV C x sp (WE V) ta t) := by
  obtain ⟨f, fd, ps, F, M, b⟩ := c.ex
  refine ⟨fun held s σ H Q I pre => PySem.W.methodCall_KW (pl := pl) (thn (ho.run held s σ H _ I pre) fun u s1 gives => ?_) ht⟩
  obtain ⟨v, H1, I1, rel, p, dx, fs, rfl, isIns, noField, args⟩ := gives
  cases (show u = Value.ref p from rel)
  refine getmeth_ok I1 isIns c.cl M noField (PySem.W.callWith_K (first := [.ref p]) (h₀ := X.base) I.ok.mod.kin M.kp (thn (ha.run pos held s1 σ H1 _ I1 args) fun us s2 told => ?_) hst hpl)
  obtain ⟨vs, H2, I2, rels, q⟩ := told
  exact ⟨I2.kIn, run_fnS (us := .ref p :: us) (vs := .ref p :: vs) F (hr.mono hjk) b (passAtG tk σ) I2 (.cons rfl rels) q⟩
end
/-! ### instances whose __init__ may let such errors out -/
def tMakeV (C : Addr) (sp : Sp) (E : L2.St → XK) (t : TA) : TE := fun σ H Q => t σ H fun vs H1 => ∀ x dx, H1 x = none → H1 dx = none → dx ≠ x → sp (.ref x :: vs) (upd (upd H1 dx (.own x)) x (.ins C dx [])) (fun v H2 => v = .non ∧ Q (.ref x) H2) (E σ)
section
variable {X : Cx} {x : Str} {p pos : Pos} {e : Expr} {es : List Expr} {t : TA} {sp : Sp} {j k : Nat} {CX : CXT} {E : XK} {C : Addr} {U : WX}
theorem CalK.pex (c : CalK X.prog X.w X.K X.mg X.base CX j C x sp) (hr : Room k X.A) (hx : Passes CX X E) (ha : PA X (e :: es) t) (hjk : j + 1 ≤ k := by first | decide | omega) (hg : Gl X x := by rfl) (hdb : (x == ("__debug__" : Str)) = false := by decide)
    (he : starEach (e :: es) X.env = (false, eval e X.env) :: starEach es X.env := by rfl) (hpl : (backTo pos (starEach es X.env)).any (·.1) = false := by rfl) :
    PE X (.Call (.Name x p) (e :: es) [] pos) (tMake C sp [] E t) :=
  let ⟨_, _, _, F, m, b⟩ := c.ex
  pe_make m F (hr.mono hjk) hg c.mg b .nil hx ha hdb he hpl
theorem make_at {f : Addr} {fd : FuncData} {ps : List Str} {held : List (Addr × Obj)} {σ : L2.St} {H : Hp} {s : Shared} {Q : VK} {us : List Value} {vs : List V} {W : L2.St → XK} (M : Mk X.K C f) (F : FnOk X.prog X.w X.K X.mg X.base CX j f fd ps sp) (hr : Room (j + 1) X.A) (hb : Binds X.K fd ps [])
    (passes : PassesAt CX X σ (W σ)) (I : Inv X held σ H s) (rel : Vals vs us) (wish : ∀ x dx, H x = none → H dx = none → dx ≠ x → sp (.ref x :: vs) (upd (upd H dx (.own x)) x (.ins C dx [])) (fun v H2 => v = .non ∧ Q (.ref x) H2) (W σ)) :
    wpAny (model X.prog X.w) X.A (call (.ref C) us) (EP X held σ Q) X.xe s := by
  have init := wish (s.heap.objs.size + 1) s.heap.objs.size (I.hok.fresh (Nat.le_succ _)) (I.hok.fresh (Nat.le_refl _)) (Nat.ne_of_lt (Nat.lt_succ_self _))
  have born := Inv.made (C := C) I
  have rels : Vals (V.ref (s.heap.objs.size + 1) :: vs) (Value.ref (s.heap.objs.size + 1) :: us) := .cons rfl rel
  have count : (Value.ref (s.heap.objs.size + 1) :: us ++ []).length = ps.length := by
    rw [List.append_nil, ← rels.length]
    exact F.len _ _ _ _ init
  have binds := hb _ (Value.ref (s.heap.objs.size + 1) :: us) born.kIn count
  rw [List.append_nil] at binds
  refine wpAny_call (make_map (f := f) I.kIn M.makes M.init (beq_iff_eq.mp M.fn) (codeAny_mono (F.run _ X.stack _ _ ⟨_ :: us, []⟩ (_ :: us) _ _ (W σ) (hr.make C us []) (born.env0.make C us []) binds rels init) fun res t ended => ?_))
  match res, ended with
  | .error _, z => exact passes held _ _ _ t born z
  | .ok .next, z => exact False.elim z
  | .ok .brk, z => exact False.elim z
  | .ok .cont, z => exact False.elim z
  | .ok (.ret u), z =>
    obtain ⟨v, H2, I3, rv, ev, q3⟩ := born.after z
    subst ev
    exact ⟨rv, ⟨V.ref (s.heap.objs.size + 1), H2, I3, rfl, q3⟩⟩
theorem CalK.peG (c : CalK X.prog X.w X.K X.mg X.base (CXG X.prog X.w) j C x sp) (hr : Room k X.A) (tk : TakesG X U) (ha : PA X (e :: es) t) (hjk : j + 1 ≤ k := by first | decide | omega) (hg : Gl X x := by rfl) (hdb : (x == ("__debug__" : Str)) = false := by decide)
    (he : starEach (e :: es) X.env = (false, eval e X.env) :: starEach es X.env := by rfl) (hpl : (backTo pos (starEach es X.env)).any (·.1) = false := by rfl) :
    PE X (.Call (.Name x p) (e :: es) [] pos) (tMakeV C sp (WE U) t) := by
  obtain ⟨f, fd, ps, F, m, b⟩ := c.ex
  refine ⟨fun held s σ H Q I h => wpAny_Call_Name_kw (ld_glob I hg c.mg (PySem.W.callWith_K (h₀ := X.base) I.ok.mod.kin m.kp (thn (ha.run pos held s σ H _ I h) fun us s1 told => ?_) he hpl) hdb)⟩
  obtain ⟨vs, H1, I1, r, q⟩ := told
  exact ⟨I1.kIn, make_at m F (hr.mono hjk) b (passAtG tk σ) I1 r q⟩
end
theorem pg_tupK {X : Cx} {K : PySem.W.Frag} {es : List Expr} {k : Nat} {t : TGs} {n : Nat} {pos : Pos} (h : PGs X es t) (hc : X.calm = true) (hK : X.K = K)
    (hn : (assignEach es X.env).length = n := by rfl) (hst : (assignEach es X.env).findIdx? (·.1) = none := by rfl) : PG X (.Tuple es k pos) (gTup K n t) := by
  subst hK
  exact pg_tup hc h hn hst
end SC
namespace SC
open PySem L2
def top (i : Nat) : Stmt := PySem.Challenge.pw_sealchart_k34_restored_sets_go_on.main.body.getD i (.Pass ⟨0, 0, 0, 0⟩)
local macro_rules | `(tactic| walk_at "wp") => `(tactic| simp (config := { decide := false }) only [tFmtX, gCons, gNil, tSeq, tAsg, tIfS, tRet, tTest, tOp, tUn, tVar, tC, tCB, tCall, tCons, tNil, tLst, tTup, tAnd, tOr, tNot, tAndV, tOrV, tNotV, tB, tChain, tIf, tIsT, tSl, rSlS, tNoPart, tPart, tErr, tAug, ipI, tDrop, tM1, tBM, rAppend, tFld, sFld, sDPut, tDGet1, tDNewT, tDNewK, tDisp, tPairs, tDGet, tDIn, tDNotIn, tDPop1, tDPop2, tDGet2, sDDel, sFldAug, tMeth, tMake, gSub, gName, tNext, rI, rI0, rU, rEq, rNe, scal, rSetL, L2.start, List.map_cons, List.map_nil, List.length_cons, List.length_nil, List.replicate, List.cons_append, List.nil_append, List.append_nil, List.getElem?_cons_zero, List.getElem?_cons_succ, List.set_cons_zero, List.set_cons_succ, cxOf,
    Option.some.injEq, V.int.injEq, V.ref.injEq, V.str.injEq, V.bl.injEq, V.ty.injEq, HO.lst.injEq, HO.tup.injEq, List.cons.injEq, exists_eq_left, exists_eq_left', exists_eq_right, exists_and_left, exists_eq, and_true, true_and, and_assoc, reduceCtorEq, false_and, and_false, exists_false, or_false, false_or, decide_eq_true_eq, Bool.not_eq_true', decide_eq_false_iff_not, decide_true, decide_false, Bool.false_eq_true, upd_same, at0, at1, ixN_20, ixN_21, ixN_10, if_true, if_false, ite_true, ite_false, Nat.reduceAdd, Nat.reduceSub, tyN_non, tyN_bl, tyN_int, tyN_str, isaB_all])
local macro_rules | `(tactic| walk_at "wt") => `(tactic| simp (config := { decide := false }) only [tTest, tOp, tVar, tC, tCB, tCons, tNil, tSl, rSlS, tNoPart, tPart, tB, tAnd, tOr, tNot, tAndV, tOrV, tNotV, tChain, tIsT, rI, rI0, rU, rEq, rNe, scal, List.getElem?_cons_zero, List.getElem?_cons_succ,
    Option.some.injEq, V.int.injEq, V.ref.injEq, V.str.injEq, V.bl.injEq, V.ty.injEq, HO.lst.injEq, HO.tup.injEq, List.cons.injEq, exists_eq_left, exists_eq_left', exists_eq_right, exists_and_left, exists_eq, and_true, true_and, and_assoc, reduceCtorEq, false_and, and_false, exists_false, or_false, false_or, decide_eq_true_eq, Bool.not_eq_true', decide_eq_false_iff_not, decide_true, decide_false, Bool.false_eq_true, upd_same, at0, at1, ixN_20, ixN_21, ixN_10, if_true, if_false, ite_true, ite_false, Nat.reduceAdd, Nat.reduceSub, tyN_non, tyN_bl, tyN_int, tyN_str, isaB_all])
local macro_rules | `(tactic| walk_at "wq") => `(tactic| simp (config := { decide := false }) only [tFmtX, gCons, gNil, tSeq, tAsg, tIfS, tRet, tTest, tOp, tUn, tVar, tC, tCB, tCall, tCons, tNil, tLst, tTup, tAnd, tOr, tNot, tAndV, tOrV, tNotV, tB, tChain, tIf, tIsT, tSl, rSlS, tNoPart, tPart, tErr, tAug, ipI, tDrop, tM1, tBM, rAppend, tFld, sFld, sDPut, tDGet1, tDNewT, tMethV, WE, tDNewK, tDisp, tPairs, tDGet, tDIn, tDNotIn, tDPop1, tDPop2, tDGet2, sDDel, sFldAug, tMeth, tMake, gSub, gName, tNext, rI, rI0, rU, rEq, rNe, scal, rSetL, L2.start, List.map_cons, List.map_nil, List.length_cons, List.length_nil, List.replicate, List.cons_append, List.nil_append, List.append_nil, List.getElem?_cons_zero, List.getElem?_cons_succ, List.set_cons_zero, List.set_cons_succ, cxOf,
    Option.some.injEq, V.int.injEq, V.ref.injEq, V.str.injEq, V.bl.injEq, V.ty.injEq, HO.lst.injEq, HO.tup.injEq, List.cons.injEq, exists_eq_left, exists_eq_left', exists_eq_right, exists_and_left, exists_eq, and_true, true_and, and_assoc, reduceCtorEq, false_and, and_false, exists_false, or_false, false_or, decide_eq_true_eq, Bool.not_eq_true', decide_eq_false_iff_not, decide_true, decide_false, Bool.false_eq_true, upd_same, at0, at1, ixN_20, ixN_21, ixN_10, if_true, if_false, ite_true, ite_false, Nat.reduceAdd, Nat.reduceSub, tyN_non, tyN_bl, tyN_int, tyN_str, isaB_all])
/-! the law's own helpers: cell, stream, take, char, string -/
section
variable {P : Program} {w : World} {K : PySem.W.Frag} {mg : Str → Option Value} {base : Heap} {f : Addr} {fd : FuncData}
theorem two200 {m : Int} (h0 : 0 < m) (h : m < 2 ^ 200) : CDivW a m := by
  refine wide_div (b := 200) h0 ?_ (by decide) (by decide)
  have : (2 : Int) ^ 200 = ((2 ^ 200 : Nat) : Int) := by decide +kernel
  rw [this] at h
  omega
end
/-! the program's is_printable, is_integer; the law's says -/
abbrev s_is_printable : Stmt := top 36
abbrev N_is_printable : List Str := ["value"]
theorem sc_is_printable : FnScope N_is_printable ["value"] (defScope s_is_printable) := ⟨rfl, rfl, rfl, by decide +kernel, rfl, by decide +kernel, by decide +kernel⟩
abbrev s_is_integer : Stmt := top 37
abbrev N_is_integer : List Str := ["value", "least", "greatest"]
theorem sc_is_integer : FnScope N_is_integer ["value", "least", "greatest"] (defScope s_is_integer) := ⟨rfl, rfl, rfl, by decide +kernel, rfl, by decide +kernel, by decide +kernel⟩
def prV : V → Bool
  | .str z => prn z
  | _ => false
def inV (lo hi : Int) : V → Bool
  | .int i => decide (lo ≤ i) && decide (i ≤ hi)
  | _ => false
/-- is_printable(v), Pt the table of its code -/
def spPrn (Pt : Addr) : Sp := fun vs H Q _ => ∃ v : V, vs = [v] ∧ GxR.TabG H Pt ∧ (∃ t, tyN H v = some t) ∧ ∀ H', Kp [Pt] H H' → GxR.TabG H' Pt → Q (.bl (prV v)) H'
def spIntg : Sp := fun vs H Q _ => ∃ (v : V) (lo hi : Int), vs = [v, .int lo, .int hi] ∧ (∃ t, tyN H v = some t) ∧ Q (.bl (inV lo hi v)) H
section
variable {P : Program} {w : World} {K : PySem.W.Frag} {mg : Str → Option Value} {base : Heap} {f : Addr} {fd : FuncData}
theorem ok_printable {oc kV doc pm ct : Value} {od an : Option Addr} {osl : Array (Option Value)} {c Pt : Addr} {t37 : Tok} (B : Blt mg) (h37 : mg "_BARRED_CODE" = some (.int 37 t37)) (TB : GxR.TabB base mg c Pt)
    (lk : K.lookup f = some ⟨oc, od, .func (PySem.W.fnOf "is_printable" "is_printable" (defArgs s_is_printable) (defBody s_is_printable) (defScope s_is_printable) .none kV doc pm an (.ref c) ct), osl⟩) (hcd : PySem.W.codeIn K (.ref c) "is_printable" = true) :
    FnOk P w K mg base CX0 3 f (PySem.W.fnOf "is_printable" "is_printable" (defArgs s_is_printable) (defBody s_is_printable) (defScope s_is_printable) .none kV doc pm an (.ref c) ct) ["value"] (spPrn Pt) := by
  refine fn_of lk hcd sc_is_printable (fun vs H Q E h => ?_) (fun A outer s H vs Q E hr h => ?_)
  · obtain ⟨v, rfl, _⟩ := h; rfl
  obtain ⟨v, rfl, hG, ⟨t, ht⟩, q⟩ := h
  refine ⟨_, PSs.nox (pss_cons (ps_if (pt_not (pt_val (B.isT (pv 0) B.v_str))) (pss_one (ps_ret pe_bl)) pss_nil)
    (pss_one (ps_ret (pe_allX hr B TB rfl (gsOf (by decide +kernel) (by decide +kernel)) (pv 0) (elt_prn B h37 rfl rfl rfl rfl) (fun _ => rfl))))), ?_⟩
  walk_at "wp"
  refine ⟨t, ht, ?_⟩
  cases c1 : isaB t "str" with
  | true =>
    obtain ⟨z, rfl⟩ := isa_str ht c1
    rw [if_neg (by decide)]
    exact ⟨_, rfl, z, rfl, hG, fun H2 hT => q H2 (Kp.tab hG hT (List.mem_singleton.mpr rfl)) hT.1⟩
  | false =>
    rw [if_pos rfl]
    have e : prV v = false := by
      cases v with
      | str z => cases ht; exact absurd c1 (by decide)
      | _ => rfl
    have z := q H (Kp.refl _ _) hG
    rw [e] at z
    exact z
theorem ok_integer (F : Fun K "is_integer" "is_integer" s_is_integer f fd) (B : Blt mg) : FnOk P w K mg base CX0 1 f fd ["value", "least", "greatest"] spIntg := by
  refine F.ok sc_is_integer (fun vs H Q E h => ?_) (fun cdv A outer s H vs Q E hr h => ?_)
  · obtain ⟨v, lo, hi, rfl, _⟩ := h; rfl
  obtain ⟨v, lo, hi, rfl, ⟨t, ht⟩, q⟩ := h
  refine ⟨_, (pss_cons (ps_if (PW.pt (pw_or (pt_not (pt_val (B.isT (pv 0) B.v_int))) (pw_or1 (pt_val (B.isT (pv 0) B.v_bool))))) (pss_one (ps_ret pe_bl)) pss_nil)
    (pss_one (ps_ret (pe_chain op_le op_le (pv 1) (pv 0) (pv 2))))), ?_⟩
  walk_at "wp"
  refine ⟨t, ht, ?_⟩
  cases c1 : isaB t "int" with
  | false =>
    rw [if_pos rfl]
    have e : inV lo hi v = false := by
      cases v with
      | int z => cases ht; exact absurd c1 (by decide)
      | _ => rfl
    rw [e] at q
    exact q
  | true =>
    rw [if_neg (by decide)]
    refine ⟨t, ht, ?_⟩
    rcases isa_int ht c1 with ⟨z, rfl⟩ | ⟨b, rfl⟩
    · cases ht
      rw [if_neg (by decide)]
      have q : Q (.bl (decide (lo ≤ z) && decide (z ≤ hi))) H := q
      refine ⟨z, rfl, ?_⟩
      by_cases c2 : lo ≤ z
      · rw [if_pos c2]
        rw [decide_eq_true c2] at q
        exact ⟨z, rfl, q⟩
      · rw [if_neg c2]
        rw [decide_eq_false c2] at q
        exact q
    · cases ht
      rw [if_pos (by decide)]
      exact q
end
/-! list names and keys -/
abbrev s_consists_of : Stmt := top 32
abbrev N_consists_of : List Str := ["text", "marks"]
theorem sc_consists_of : FnScope N_consists_of ["text", "marks"] (defScope s_consists_of) := ⟨rfl, rfl, rfl, by decide +kernel, rfl, by decide +kernel, by decide +kernel⟩
abbrev s_is_list_name : Stmt := top 27
abbrev N_is_list_name : List Str := ["value"]
theorem sc_is_list_name : FnScope N_is_list_name ["value"] (defScope s_is_list_name) := ⟨rfl, rfl, rfl, by decide +kernel, rfl, by decide +kernel, by decide +kernel⟩
abbrev s_is_key : Stmt := top 28
abbrev N_is_key : List Str := ["value"]
theorem sc_is_key : FnScope N_is_key ["value"] (defScope s_is_key) := ⟨rfl, rfl, rfl, by decide +kernel, rfl, by decide +kernel, by decide +kernel⟩
structure NmC (mg : Str → Option Value) : Prop where
  c_DIGITS : ∃ t, mg "_DIGITS" = some (.str "0123456789" t)
  c_MOST_NAME : ∃ t, mg "_MOST_NAME" = some (.int 12 t)
def inT (m z : Str) : Bool := z.cps.toList.all fun c => decide (c ∈ m.cps.toList)
def lnS (z : Str) : Bool := decide (1 ≤ z.length) && decide (z.length ≤ 12) && inT (Str.ofString "abcdefghijklmnopqrstuvwxyz") z
def kyS (z : Str) : Bool := decide (2 ≤ z.length) && decide (z.length ≤ 12) && decide (z.cps.toList.head? = some 107) && inT (Str.ofString "0123456789") (cutS z (some 1) none)
def lnV : V → Bool
  | .str z => lnS z
  | _ => false
def kyV : V → Bool
  | .str z => kyS z
  | _ => false
def szV : V → Prop
  | .str z => z.length ≤ sizeLine
  | _ => True
/-- _consists_of(z, m), Pc the table of its code -/
def spCons (Pc : Addr) : Sp := fun vs H Q _ => ∃ z m : Str, vs = [.str z, .str m] ∧ GxR.TabG H Pc ∧ ∀ H', Kp [Pc] H H' → GxR.TabG H' Pc → Q (.bl (inT m z)) H'
def spNm (f : V → Bool) (Pc : Addr) : Sp := fun vs H Q _ => ∃ v : V, vs = [v] ∧ GxR.TabG H Pc ∧ (∃ t, tyN H v = some t) ∧ szV v ∧ ∀ H', Kp [Pc] H H' → GxR.TabG H' Pc → Q (.bl (f v)) H'
section
variable {P : Program} {w : World} {K : PySem.W.Frag} {mg : Str → Option Value} {base : Heap} {f : Addr} {fd : FuncData}
theorem ok_consists {oc kV doc pm ct : Value} {od an : Option Addr} {osl : Array (Option Value)} {c Pc : Addr} (B : Blt mg) (TB : GxR.TabB base mg c Pc)
    (lk : K.lookup f = some ⟨oc, od, .func (PySem.W.fnOf "_consists_of" "_consists_of" (defArgs s_consists_of) (defBody s_consists_of) (defScope s_consists_of) .none kV doc pm an (.ref c) ct), osl⟩) (hcd : PySem.W.codeIn K (.ref c) "_consists_of" = true) :
    FnOk P w K mg base CX0 3 f (PySem.W.fnOf "_consists_of" "_consists_of" (defArgs s_consists_of) (defBody s_consists_of) (defScope s_consists_of) .none kV doc pm an (.ref c) ct) ["text", "marks"] (spCons Pc) := by
  refine fn_of lk hcd sc_consists_of (fun vs H Q E h => ?_) (fun A outer s H vs Q E hr h => ?_)
  · obtain ⟨z, m, rfl, _⟩ := h; rfl
  obtain ⟨z, m, rfl, hG, q⟩ := h
  refine ⟨_, PSs.nox (pss_one (ps_ret (pe_allC (iy := 1) hr B TB rfl (gs0Of (by decide +kernel) (by decide +kernel)) (by show freeOk _ (defScope s_consists_of) = true; decide +kernel) (pv 0) (elt_in rfl rfl rfl) (by rfl) (by rfl) (fun _ => rfl) (fun _ => rfl)))), ?_⟩
  exact ⟨m, rfl, _, rfl, z, rfl, hG, fun H2 hT => q H2 (Kp.tab hG hT (List.mem_singleton.mpr rfl)) hT.1⟩
theorem cps_lenN (z : Str) : z.cps.toList.length = z.length := by
  show _ = z.cps.size
  exact Array.length_toList
theorem spNm_no {g : V → Bool} {v : V} {t : String} {H : Hp} {Pc : Addr} {Q : VK} (hg : ∀ v, (∀ z, v ≠ .str z) → g v = false) (ht : tyN H v = some t) (c1 : isaB t "str" = false) (hG : GxR.TabG H Pc) (q : ∀ H', Kp [Pc] H H' → GxR.TabG H' Pc → Q (.bl (g v)) H') : Q (.bl false) H := by
  have z := q H (Kp.refl _ _) hG
  rw [hg v (fun z e => by subst e; cases ht; exact absurd c1 (by decide))] at z
  exact z
theorem ok_list_name {Pc : Addr} (F : Fun K "is_list_name" "is_list_name" s_is_list_name f fd) (B : Blt mg) (D : NmC mg) (hL : ∃ t, mg "_LETTERS" = some (.str "abcdefghijklmnopqrstuvwxyz" t)) (c_consists_of : Cal P w K mg base CX0 3 "_consists_of" (spCons Pc)) : FnOk P w K mg base CX0 4 f fd ["value"] (spNm lnV Pc) := by
  refine F.ok sc_is_list_name (fun vs H Q E h => ?_) (fun cdv A outer s H vs Q E hr h => ?_)
  · obtain ⟨v, rfl, _⟩ := h; rfl
  obtain ⟨v, rfl, hG, ⟨t, ht⟩, hz, q⟩ := h
  refine ⟨_, (pss_cons (ps_if (PW.pt (pw_or (pt_not (pt_val (B.isT (pv 0) B.v_str))) (pw_or1 (pt_not (pt_chain op_le op_le pe_int (B.len_s (pa_cons (pv 0) pa_nil)) (pe_cE D.c_MOST_NAME)))))) (pss_one (ps_ret pe_bl)) pss_nil)
    (pss_one (ps_ret (c_consists_of.pe hr (pa_cons (pv 0) (pa_cons (pe_cSE hL) pa_nil)))))), ?_⟩
  walk_at "wp"
  refine ⟨t, ht, ?_⟩
  have off : ∀ z, v = .str z → lnV v = false → Q (.bl false) H := fun z e h => by
    have y := q H (Kp.refl _ _) hG
    rw [h] at y; exact y
  cases c1 : isaB t "str" with
  | false => rw [if_pos rfl]; exact spNm_no (fun v h => by cases v <;> first | rfl | exact absurd rfl (h _)) ht c1 hG q
  | true =>
    rw [if_neg (by decide)]
    obtain ⟨z, rfl⟩ := isa_str ht c1
    refine ⟨z, rfl, hz, ?_⟩
    split
    · rename_i h1
      split
      · rename_i h2
        refine off z rfl ?_
        show lnS z = false
        unfold lnS
        rw [decide_eq_false (show ¬ z.length ≤ 12 by omega), Bool.and_false, Bool.false_and]
      · rename_i h2
        refine ⟨z, _, rfl, hG, fun H' k g => ?_⟩
        have y := q H' k g
        rw [show lnV (.str z) = inT (Str.ofString "abcdefghijklmnopqrstuvwxyz") z by
          show lnS z = _
          unfold lnS
          rw [decide_eq_true (show 1 ≤ z.length by omega), decide_eq_true (show z.length ≤ 12 by omega), Bool.true_and, Bool.true_and]] at y
        exact y
    · rename_i h1
      refine off z rfl ?_
      show lnS z = false
      unfold lnS
      rw [decide_eq_false (show ¬ 1 ≤ z.length by omega), Bool.false_and, Bool.false_and]
theorem ok_key {Pc : Addr} (F : Fun K "is_key" "is_key" s_is_key f fd) (B : Blt mg) (D : NmC mg) (c_consists_of : Cal P w K mg base CX0 3 "_consists_of" (spCons Pc)) : FnOk P w K mg base CX0 4 f fd ["value"] (spNm kyV Pc) := by
  refine F.ok sc_is_key (fun vs H Q E h => ?_) (fun cdv A outer s H vs Q E hr h => ?_)
  · obtain ⟨v, rfl, _⟩ := h; rfl
  obtain ⟨v, rfl, hG, ⟨t, ht⟩, hz, q⟩ := h
  refine ⟨_, (pss_cons (ps_if (PW.pt (pw_or (pt_not (pt_val (B.isT (pv 0) B.v_str))) (pw_or1 (pt_not (pt_chain op_le op_le pe_int (B.len_s (pa_cons (pv 0) pa_nil)) (pe_cE D.c_MOST_NAME)))))) (pss_one (ps_ret pe_bl)) pss_nil)
    (pss_one (ps_ret (pe_and (pe_cmpR op_eq (pe_ix ix_str (pv 0) pe_int (fun _ _ => rfl)) pe_str (nomark _)) (pe_one (c_consists_of.pe hr (pa_cons (pe_slice sl_str (pv 0) (po_some pe_int) po_none) (pa_cons (pe_cSE D.c_DIGITS) pa_nil)))))))), ?_⟩
  walk_at "wp"
  refine ⟨t, ht, ?_⟩
  have off : ∀ z, v = .str z → kyV v = false → Q (.bl false) H := fun z e h => by
    have y := q H (Kp.refl _ _) hG
    rw [h] at y; exact y
  cases c1 : isaB t "str" with
  | false => rw [if_pos rfl]; exact spNm_no (fun v h => by cases v <;> first | rfl | exact absurd rfl (h _)) ht c1 hG q
  | true =>
    rw [if_neg (by decide)]
    obtain ⟨z, rfl⟩ := isa_str ht c1
    refine ⟨z, rfl, hz, ?_⟩
    split
    · rename_i h1
      split
      · rename_i h2
        refine off z rfl ?_
        show kyS z = false
        unfold kyS
        rw [decide_eq_false (show ¬ z.length ≤ 12 by omega), Bool.and_false, Bool.false_and, Bool.false_and]
      · rename_i h2
        have hl : z.cps.toList.length = z.length := cps_lenN z
        obtain ⟨c, r, ez⟩ : ∃ c r, z.cps.toList = c :: r := by
          cases e : z.cps.toList with
          | nil => rw [e] at hl; simp at hl; omega
          | cons c r => exact ⟨c, r, rfl⟩
        refine ⟨z, 0, c, rfl, rfl, hz, by rw [ez]; exact at0, rfl, ?_⟩
        have ek : (V.str ⟨#[c]⟩ = V.str (Str.ofString "k")) ↔ c = 107 := by
          constructor
          · intro h
            have h := congrArg (fun s : Str => s.cps.toList) (V.str.inj h)
            have h : [c] = [107] := h
            exact (List.cons.inj h).1
          · rintro rfl; rfl
        have eh : z.cps.toList.head? = some c := by rw [ez]; rfl
        by_cases h3 : c = 107
        · rw [if_pos (ek.mpr h3)]
          refine ⟨z, rfl, hz, _, _, rfl, hG, fun H' k g => ?_⟩
          have y := q H' k g
          rw [show kyV (.str z) = inT (Str.ofString "0123456789") (cutS z (some 1) none) by
            show kyS z = _
            unfold kyS
            rw [decide_eq_true (show 2 ≤ z.length by omega), decide_eq_true (show z.length ≤ 12 by omega), eh, decide_eq_true (by rw [h3]), Bool.true_and, Bool.true_and, Bool.true_and]] at y
          exact y
        · rw [if_neg (fun h => h3 (ek.mp h))]
          refine off z rfl ?_
          show kyS z = false
          unfold kyS
          rw [eh, decide_eq_false (fun h => h3 (Option.some.inj h)), Bool.and_false, Bool.false_and]
    · rename_i h1
      refine off z rfl ?_
      show kyS z = false
      unfold kyS
      rw [decide_eq_false (show ¬ 2 ≤ z.length by omega), Bool.false_and, Bool.false_and, Bool.false_and]
end
/-! paths and patterns -/
abbrev s_has_parts_of : Stmt := top 33
abbrev N_has_parts_of : List Str := ["value", "marks", "parts"]
theorem sc_has_parts_of : FnScope N_has_parts_of ["value", "marks"] (defScope s_has_parts_of) := ⟨rfl, rfl, rfl, by decide +kernel, rfl, by decide +kernel, by decide +kernel⟩
abbrev s_is_path : Stmt := top 29
abbrev N_is_path : List Str := ["value"]
theorem sc_is_path : FnScope N_is_path ["value"] (defScope s_is_path) := ⟨rfl, rfl, rfl, by decide +kernel, rfl, by decide +kernel, by decide +kernel⟩
abbrev s_is_pattern : Stmt := top 30
abbrev N_is_pattern : List Str := ["value"]
theorem sc_is_pattern : FnScope N_is_pattern ["value"] (defScope s_is_pattern) := ⟨rfl, rfl, rfl, by decide +kernel, rfl, by decide +kernel, by decide +kernel⟩
structure PaC (mg : Str → Option Value) : Prop where
  c_MOST_PATH : ∃ t, mg "MOST_PATH" = some (.int 60 t)
  c_MOST_PARTS : ∃ t, mg "_MOST_PARTS" = some (.int 6 t)
  c_PART_MARKS : ∃ t, mg "_PART_MARKS" = some (.str "abcdefghijklmnopqrstuvwxyz0123456789_-." t)
/-- the parts of a text, each of them some of the marks m -/
def hpS (m z : Str) : Bool := decide (z.length ≤ 60) && decide ((Txt.split z (Str.ofString "/")).length ≤ 6) && (Txt.split z (Str.ofString "/")).all fun p => decide (p ≠ Str.ofString "") && inT m p
def hpV (m : Str) : V → Bool
  | .str z => hpS m z
  | _ => false
def spPartsOf (Ts : List Addr) : Sp := fun vs H Q _ => ∃ (v : V) (m : Str), vs = [v, .str m] ∧ Tabs Ts H ∧ (∃ t, tyN H v = some t) ∧ szV v ∧ ∀ H', Kp Ts H H' → Tabs Ts H' → Q (.bl (hpV m v)) H'
def spPa (m : Str) (Ts : List Addr) : Sp := fun vs H Q _ => ∃ v : V, vs = [v] ∧ Tabs Ts H ∧ (∃ t, tyN H v = some t) ∧ szV v ∧ ∀ H', Kp Ts H H' → Tabs Ts H' → Q (.bl (hpV m v)) H'
/-- the marks of a path, of a pattern -/
def paM : Str := Str.ofString "abcdefghijklmnopqrstuvwxyz0123456789_-."
def ptM : Str := Str.ofString "abcdefghijklmnopqrstuvwxyz0123456789_-." ++ Str.ofString "*"
section
variable {P : Program} {w : World} {K : PySem.W.Frag} {mg : Str → Option Value} {base : Heap} {f : Addr} {fd : FuncData}
theorem hp_no {m : Str} {v : V} {t : String} {H : Hp} (ht : tyN H v = some t) (c1 : isaB t "str" = false) : hpV m v = false := by
  cases v <;> first | rfl | (cases ht; exact absurd c1 (by decide))
theorem ok_parts_of {oc kV doc pm ct : Value} {od an : Option Addr} {osl : Array (Option Value)} {c Pt Pc : Addr} {Ts : List Addr} (B : Blt mg) (TB : GxR.TabB base mg c Pt) (D : PaC mg) (mt : Pt ∈ Ts) (mc : Pc ∈ Ts)
    (lk : K.lookup f = some ⟨oc, od, .func (PySem.W.fnOf "_has_parts_of" "_has_parts_of" (defArgs s_has_parts_of) (defBody s_has_parts_of) (defScope s_has_parts_of) .none kV doc pm an (.ref c) ct), osl⟩) (hcd : PySem.W.codeIn K (.ref c) "_has_parts_of" = true)
    (c_consists_of : Cal P w K mg base CX0 3 "_consists_of" (spCons Pc)) :
    FnOk P w K mg base CX0 6 f (PySem.W.fnOf "_has_parts_of" "_has_parts_of" (defArgs s_has_parts_of) (defBody s_has_parts_of) (defScope s_has_parts_of) .none kV doc pm an (.ref c) ct) ["value", "marks"] (spPartsOf Ts) := by
  refine fn_of lk hcd sc_has_parts_of (fun vs H Q E h => ?_) (fun A outer s H vs Q E hr h => ?_)
  · obtain ⟨v, m, rfl, _⟩ := h; rfl
  obtain ⟨v, m, rfl, hG, ⟨t, ht⟩, hz, q⟩ := h
  refine ⟨_, PSs.nox (pss_cons (ps_if (PW.pt (pw_or (pt_not (pt_val (B.isT (pv 0) B.v_str))) (pw_or1 (pt_cmpR op_gt (B.len_s (pa_cons (pv 0) pa_nil)) (pe_cE D.c_MOST_PATH) (nomark _))))) (pss_one (ps_ret pe_bl)) pss_nil)
    (pss_cons (ps_set (i := 2) sc_has_parts_of.nd rfl (Or.inl rfl) (pe_m1 PySem.F.slot_str_split PySem.F.type_str_split mt_split (pv 0) pe_str))
    (pss_cons (ps_if (pt_cmpR op_gt (B.len_q (pa_cons (pv 2) pa_nil)) (pe_cE D.c_MOST_PARTS) (nomark _)) (pss_one (ps_ret pe_bl)) pss_nil)
    (pss_one (ps_ret (pe_allG (N := ["part", "marks"]) (nt := 1) (fr := [1]) rfl hr B TB rfl (gnOf (by decide +kernel)) (by show freeOk _ (defScope s_has_parts_of) = true; decide +kernel) (by show capOk _ _ _ N_has_parts_of _ (defScope s_has_parts_of) = true; decide +kernel)
      (pi_list (pv 2)) (fun _ _ _ _ _ hr => (pg_name (i := 0) (by show List.Nodup (["part", "marks"] : List Str); decide +kernel) rfl (Or.inl rfl))) (fun _ _ _ _ _ hr => pts_nil) (fun _ _ _ _ _ hr => (pe_and (pe_cmpR op_ne (pv 0) pe_str (nomark _)) (pe_one (c_consists_of.pe hr (pa_cons (pv 0) (pa_cons (pv 1) pa_nil)))))) (fun _ => rfl))))))), ?_⟩
  walk_at "wp"
  refine ⟨t, ht, ?_⟩
  have off : hpV m v = false → Q (.bl false) H := fun h => by
    have y := q H (Kp.refl _ _) hG
    rw [h] at y; exact y
  cases c1 : isaB t "str" with
  | false => rw [if_pos rfl]; exact off (hp_no ht c1)
  | true =>
    rw [if_neg (by decide)]
    obtain ⟨z, rfl⟩ := isa_str ht c1
    refine ⟨z, rfl, hz, ?_⟩
    have lim : sizeLine = 16777216 := sizeLine_eq
    split
    · rename_i h1
      refine off ?_
      show hpS m z = false
      unfold hpS
      rw [decide_eq_false (show ¬ z.length ≤ 60 by omega), Bool.false_and, Bool.false_and]
    · rename_i h1
      refine ⟨⟨_, rfl⟩, z, rfl, by decide +kernel, by omega, fun p hp => ⟨p, rfl, _, .inl (SqL.of upd_same), ?_⟩⟩
      rw [List.length_map]
      have k0 : Kp Ts H (upd H p (.lst ((Txt.split z (Str.ofString "/")).map V.str))) := Kp.new hp _
      have g0 := hG.new hp (.lst ((Txt.split z (Str.ofString "/")).map V.str))
      have fin : ∀ (b : Bool) (H' : Hp), Kp Ts H H' → Tabs Ts H' → hpV m (.str z) = b → Q (.bl b) H' := fun b H' k g e => by
        rw [← e]; exact q H' k g
      split
      · rename_i h2
        refine fin _ _ k0 g0 ?_
        show hpS m z = false
        unfold hpS
        rw [decide_eq_false (show ¬ (Txt.split z (Str.ofString "/")).length ≤ 6 by omega), Bool.and_false, Bool.false_and]
      · rename_i h2
        have ev : hpV m (.str z) = (Txt.split z (Str.ofString "/")).all fun p => decide (p ≠ Str.ofString "") && inT m p := by
          show hpS m z = _
          unfold hpS
          rw [decide_eq_true (show z.length ≤ 60 by omega), decide_eq_true (show (Txt.split z (Str.ofString "/")).length ≤ 6 by omega), Bool.true_and, Bool.true_and]
        have es : (upd H p (.lst ((Txt.split z (Str.ofString "/")).map V.str))) p = some (.lst ((Txt.split z (Str.ofString "/")).map V.str)) := upd_same
        generalize upd H p (.lst ((Txt.split z (Str.ofString "/")).map V.str)) = H1 at k0 g0 es ⊢
        generalize Txt.split z (Str.ofString "/") = ps at ev es h2 ⊢
        refine ⟨_, rfl, p, rfl, ⟨_, SqL.of es⟩, g0 _ mt, fun H2 hT => ?_⟩
        have g2 := g0.tab hT mt
        have k2 : Kp Ts H H2 := k0.trans (Kp.tab (g0 _ mt) hT mt)
        have e2 := (Kp.tab (g0 _ mt) hT mt).get g0 es
        refine for_list (K := K) (a := p) (xs := ps.map V.str) (fun i σ H' => (∃ o : Option V, σ = [o, some (.str m)]) ∧ Kp Ts H H' ∧ Tabs Ts H' ∧ H' p = some (.lst (ps.map V.str)) ∧ ((ps.take i).all fun p => decide (p ≠ Str.ofString "") && inT m p) = true)
          ⟨⟨_, rfl⟩, k2, g2, e2, rfl⟩ (fun i σ H' _ ⟨_, _, _, e, _⟩ => SqL.of e) (fun i x σ H' hx ⟨⟨o, hσ⟩, k3, g3, e3, ha⟩ => ?_) (fun σ H' ⟨⟨o, hσ⟩, k3, g3, e3, ha⟩ => ?_)
        · subst hσ
          rw [List.getElem?_map] at hx
          obtain ⟨y, hy, rfl⟩ := Option.map_eq_some_iff.mp hx
          have tk : ps.take (i + 1) = ps.take i ++ [y] := by rw [List.take_add_one, hy]; rfl
          have no : (decide (y ≠ Str.ofString "") && inT m y) = false → hpV m (.str z) = false := fun h => by
            rw [ev, List.all_eq_false]
            exact ⟨y, List.mem_of_getElem? hy, by rw [h]; decide⟩
          unfold tbAll
          simp only [tYes, if_true]
          walk_at "wp"
          by_cases h3 : y = Str.ofString ""
          · rw [if_neg (fun q => q h3)]
            exact fin _ _ k3 g3 (no (by rw [decide_eq_false (fun q => q h3), Bool.false_and]))
          · rw [if_pos h3]
            refine ⟨y, m, rfl, g3 _ mc, fun H4 k4 g4 => ⟨_, rfl, ?_⟩⟩
            have k5 := k3.trans (k4.in1 mc)
            have g5 := g3.kp1 k4 g4
            cases hb : inT m y with
            | true =>
              rw [if_pos rfl]
              refine ⟨⟨_, rfl⟩, k5, g5, (k4.in1 mc).get g3 e3, ?_⟩
              rw [tk, List.all_append, ha]
              show (true && ((decide (y ≠ Str.ofString "") && inT m y) && true)) = true
              rw [decide_eq_true h3, hb]; rfl
            | false =>
              rw [if_neg (by decide)]
              exact fin _ _ k5 g5 (no (by rw [hb, Bool.and_false]))
        · exact fin _ _ k3 g3 (by rw [ev, ← List.take_of_length_le (l := ps) (Nat.le_refl _)]; rw [List.length_map] at ha; exact ha)
theorem ok_path {Ts : List Addr} (F : Fun K "is_path" "is_path" s_is_path f fd) (B : Blt mg) (D : PaC mg) (c_has_parts_of : Cal P w K mg base CX0 6 "_has_parts_of" (spPartsOf Ts)) : FnOk P w K mg base CX0 7 f fd ["value"] (spPa paM Ts) := by
  refine F.ok sc_is_path (fun vs H Q E h => ?_) (fun cdv A outer s H vs Q E hr h => ?_)
  · obtain ⟨v, rfl, _⟩ := h; rfl
  obtain ⟨v, rfl, hG, ht, hz, q⟩ := h
  refine ⟨_, (pss_one (ps_ret (c_has_parts_of.pe hr (pa_cons (pv 0) (pa_cons (pe_cSE D.c_PART_MARKS) pa_nil))))), ?_⟩
  walk_at "wp"
  exact ⟨v, _, rfl, hG, ht, hz, q⟩
theorem ok_pattern {Ts : List Addr} (F : Fun K "is_pattern" "is_pattern" s_is_pattern f fd) (B : Blt mg) (D : PaC mg) (c_has_parts_of : Cal P w K mg base CX0 6 "_has_parts_of" (spPartsOf Ts)) : FnOk P w K mg base CX0 7 f fd ["value"] (spPa ptM Ts) := by
  refine F.ok sc_is_pattern (fun vs H Q E h => ?_) (fun cdv A outer s H vs Q E hr h => ?_)
  · obtain ⟨v, rfl, _⟩ := h; rfl
  obtain ⟨v, rfl, hG, ht, hz, q⟩ := h
  refine ⟨_, (pss_one (ps_ret (c_has_parts_of.pe hr (pa_cons (pv 0) (pa_cons (pe_op op_add_str (pe_cSE D.c_PART_MARKS) pe_str) pa_nil))))), ?_⟩
  walk_at "wp"
  exact ⟨by decide +kernel, v, _, rfl, hG, ht, hz, q⟩
end
/-! digest -/
abbrev s_digest : Stmt := top 5
abbrev N_digest : List Str := ["text", "number", "mark", "digits"]
theorem sc_digest : FnScope N_digest ["text"] (defScope s_digest) := ⟨rfl, rfl, rfl, by decide +kernel, rfl, by decide +kernel, by decide +kernel⟩
structure DgC (mg : Str → Option Value) : Prop where
  c_FACTOR : ∃ t, mg "_FACTOR" = some (.int 65599 t)
  c_DIVISOR : ∃ t, mg "_DIVISOR" = some (.int 2361183241434822606617 t)
  c_DIGEST_LENGTH : ∃ t, mg "DIGEST_LENGTH" = some (.int 18 t)
def spDigest : Sp := fun vs H Q _ => ∃ z : Str, vs = [.str z] ∧ z.length ≤ sizeLine ∧ Q (.str (dgs z)) H
section
variable {P : Program} {w : World} {K : PySem.W.Frag} {mg : Str → Option Value} {base : Heap} {f : Addr} {fd : FuncData}
theorem cps_len (z : Str) : z.cps.toList.length = z.length := by
  show _ = z.cps.size
  exact Array.length_toList
theorem take1 {l : List Nat} {i c : Nat} (h : l[i]? = some c) : l.take (i + 1) = l.take i ++ [c] := by
  rw [List.take_add_one, h]; rfl
theorem cps_at {z : Str} {i c : Nat} (h : z.cps[i]? = some c) : z.cps.toList[i]? = some c := by rw [Array.getElem?_toList]; exact h
theorem take_cps (z : Str) : z.cps.toList.take z.cps.size = z.cps.toList := List.take_of_length_le (by rw [Array.length_toList]; exact Nat.le_refl _)
theorem ok_digest (F : Fun K "digest" "digest" s_digest f fd) (B : Blt mg) (D : DgC mg) : FnOk P w K mg base CX0 1 f fd ["text"] spDigest := by
  refine F.ok sc_digest (fun vs H Q E h => ?_) (fun cdv A outer s H vs Q E hr h => ?_)
  · obtain ⟨z, rfl, _⟩ := h; rfl
  obtain ⟨z, rfl, hz, q⟩ := h
  refine ⟨_, (pss_cons (ps_set (i := 1) sc_digest.nd rfl (Or.inl rfl) (pe_op op_add (B.len_s (pa_cons (pv 0) pa_nil)) pe_int))
    (pss_cons (ps_for PassesOwn.never rfl (pi_str (pv 0)) (pg_name (i := 2) sc_digest.nd rfl (Or.inl rfl)) (pss_one (ps_set (i := 1) sc_digest.nd rfl (Or.inl rfl) (pe_op op_mod (pe_op op_add (pe_op op_mul (pv 1) (pe_cE D.c_FACTOR)) (B.ord_ (pa_cons (pv 2) pa_nil))) (pe_cE D.c_DIVISOR)))))
    (pss_cons (ps_set (i := 3) sc_digest.nd rfl (Or.inl rfl) (pe_joined1 (pe_fmtX (pv 1))))
    (pss_one (ps_ret (pe_m1 PySem.F.slot_str_zfill PySem.F.type_str_zfill mt_zfill (pv 3) (pe_cE D.c_DIGEST_LENGTH))))))), ?_⟩
  walk_at "wp"
  refine ⟨hz, _, rfl, z, rfl, ?_⟩
  refine for_it walk_str (fun i σ H' => H' = H ∧ ∃ o : Option V, σ = [some (.str z), some (.int (((z.cps.toList.take i).foldl dgF (z.length + 1) : Nat) : Int)), o, none]) ⟨rfl, _, rfl⟩ (fun _ _ _ _ _ => True.intro) (fun i x σ H1 H2 hi ⟨hH, o, hσ⟩ ⟨h2, c, hc, hx⟩ => ?_) (fun σ H1 ⟨hH, o, hσ⟩ => ?_)
  · subst hσ
    subst hx
    subst h2
    subst hH
    walk_at "wp"
    refine ⟨.inr ⟨by decide, by decide⟩, by rfl, by decide, ?_⟩
    rw [take1 (cps_at hc), List.foldl_append]
    generalize (z.cps.toList.take i).foldl dgF (z.length + 1) = a
    refine ⟨?_, _, rfl⟩
    show ((a : Int) * 65599 + (c : Int)) % 2361183241434822606617 = (((a * 65599 + c) % 2361183241434822606617 : Nat) : Int)
    rw [Int.natCast_emod, Int.natCast_add, Int.natCast_mul]
    rfl
  · subst hσ
    subst hH
    walk_at "wp"
    have hd := dgN_lt z.cps.toList
    rw [take_cps, show z.length = z.cps.toList.length from (cps_len z).symm]
    refine ⟨_, rfl, ?_, ?_⟩
    · have := hxT_len hd
      unfold hxT at this
      rw [List.length_map] at this
      exact Nat.le_trans this (by decide)
    rw [show (⟨((Nat.toDigits 16 (z.cps.toList.foldl dgF (z.cps.toList.length + 1))).map Char.toNat).toArray⟩ : Str) = ⟨(hxT (dgN z.cps.toList)).toArray⟩ from rfl, zfill_hx hd]
    exact ⟨⟨_, rfl⟩, by decide, q⟩
end
/-! encode and its helpers -/
abbrev s_greatest_integer : Stmt := top 42
abbrev N_greatest_integer : List Str := []
theorem sc_greatest_integer : FnScope N_greatest_integer [] (defScope s_greatest_integer) := ⟨rfl, rfl, rfl, by decide +kernel, rfl, by decide +kernel, by decide +kernel⟩
abbrev s_encode : Stmt := top 38
abbrev N_encode : List Str := ["value", "text"]
theorem sc_encode : FnScope N_encode ["value"] (defScope s_encode) := ⟨rfl, rfl, rfl, by decide +kernel, rfl, by decide +kernel, by decide +kernel⟩
abbrev s_text_of : Stmt := top 40
abbrev N_text_of : List Str := ["value", "levels"]
theorem sc_text_of : FnScope N_text_of ["value", "levels"] (defScope s_text_of) := ⟨rfl, rfl, rfl, by decide +kernel, rfl, by decide +kernel, by decide +kernel⟩
abbrev s_tuple_text : Stmt := top 41
abbrev N_tuple_text : List Str := ["parts", "levels", "texts", "length", "part", "text"]
theorem sc_tuple_text : FnScope N_tuple_text ["parts", "levels"] (defScope s_tuple_text) := ⟨rfl, rfl, rfl, by decide +kernel, rfl, by decide +kernel, by decide +kernel⟩
section
variable {P : Program} {w : World} {K : PySem.W.Frag} {mg : Str → Option Value} {base : Heap} {f : Addr} {fd : FuncData}
structure TxtC (K : PySem.W.Frag) (mg : Str → Option Value) (C : Addr) (td tz tt : Tok) : Prop where
  bad : Err K mg "BadText" C
  dg : mg "MOST_DIGITS" = some (.int 20 td)
  dp : mg "MOST_DEPTH" = some (.int 8 tz)
  mt : mg "MOST_TEXT" = some (.int 100000 tt)
def spGreat : Sp := fun vs H Q _ => vs = [] ∧ Q (.int 99999999999999999999) H
/-- _text_of(v, n) of the tree t: its text, or a BadText -/
def spText (C Pt : Addr) (n : Nat) : Sp := fun vs H Q E => ∃ (v : V) (t : Tr), vs = [v, .int n] ∧ Rep H v t ∧ sml t = true ∧ GxR.TabG H Pt ∧
  (pl n t = true → fit t = true → ∀ H', Kp [Pt] H H' → GxR.TabG H' Pt → Q (.str ⟨(txt t).toArray⟩) H') ∧ (¬ (pl n t = true ∧ fit t = true) → ∀ H', Kp [Pt] H H' → GxR.TabG H' Pt → E (.ref C) none H')
def spTup (C Pt : Addr) (n : Nat) : Sp := fun vs H Q E => ∃ (a : Addr) (ts : List Tr), vs = [.ref a, .int n] ∧ Rep H (.ref a) (.tup ts) ∧ sml (.tup ts) = true ∧ GxR.TabG H Pt ∧
  (pl n (.tup ts) = true → fit (.tup ts) = true → ∀ H', Kp [Pt] H H' → GxR.TabG H' Pt → Q (.str ⟨(txt (.tup ts)).toArray⟩) H') ∧ (¬ (pl n (.tup ts) = true ∧ fit (.tup ts) = true) → ∀ H', Kp [Pt] H H' → GxR.TabG H' Pt → E (.ref C) none H')
def spEnc (C Pt : Addr) : Sp := fun vs H Q E => ∃ (v : V) (t : Tr), vs = [v] ∧ Rep H v t ∧ sml t = true ∧ GxR.TabG H Pt ∧
  (pl 8 t = true → (txt t).length ≤ 100000 → ∀ H', Kp [Pt] H H' → GxR.TabG H' Pt → Q (.str ⟨(txt t).toArray⟩) H') ∧ (¬ (pl 8 t = true ∧ (txt t).length ≤ 100000) → ∀ H', Kp [Pt] H H' → GxR.TabG H' Pt → E (.ref C) none H')
variable {C Pt : Addr} {td tz tt : Tok}
theorem ok_great (F : Fun K "_greatest_integer" "_greatest_integer" s_greatest_integer f fd) (B : Blt mg) (T : TxtC K mg C td tz tt) : FnOk P w K mg base CX0 1 f fd [] spGreat := by
  refine F.ok sc_greatest_integer (fun vs H Q E h => ?_) (fun cdv A outer s H vs Q E hr h => ?_)
  · obtain ⟨rfl, _⟩ := h; rfl
  obtain ⟨rfl, q⟩ := h
  refine ⟨_, (pss_one (ps_ret (B.int_s (pa_cons (pe_op op_mulS pe_str (pe_cI T.dg)) pa_nil)))), ?_⟩
  walk_at "wp"
  exact ⟨57, by decide +kernel, by decide, by decide, 99999999999999999999, by decide +kernel, by decide +kernel, q⟩
theorem ok_encode (F : Fun K "encode" "encode" s_encode f fd) (B : Blt mg) (T : TxtC K mg C td tz tt) (c_text_of : Cal P w K mg base (L2.CX P w) 22 "_text_of" (spText C Pt 8)) : FnOk P w K mg base (L2.CX P w) 23 f fd ["value"] (spEnc C Pt) := by
  refine F.okX sc_encode (fun vs H Q E h => ?_) (fun cdv A outer s H vs Q E hr h => ?_)
  · obtain ⟨v, t, rfl, _⟩ := h; rfl
  obtain ⟨v, t, rfl, hR, hs, hG, q, qe⟩ := h
  refine ⟨_, (pss_cons (ps_set (i := 1) sc_encode.nd rfl (Or.inl rfl) (c_text_of.pex hr (passX (takes_of rfl rfl rfl rfl) fun _ _ _ _ h => h) (pa_cons (pv 0) (pa_cons (pe_cI T.dp) pa_nil))))
    (pss_cons (ps_if (pt_cmpR op_gt (B.len_s (pa_cons (pv 1) pa_nil)) (pe_cI T.mt) (nomark _)) (pss_one (T.bad.raise (takes_of rfl rfl rfl rfl))) pss_nil)
    (pss_one (ps_ret (pv 1))))), ?_⟩
  walk_at "wp"
  have lim : sizeLine = 16777216 := sizeLine_eq
  refine ⟨v, t, rfl, hR, hs, hG, fun h1 h2 H' k g => ?_, fun h H' k g => ?_⟩
  · have := txt_size h1 h2 hs
    refine ⟨_, rfl, by rw [S_len]; omega, ?_⟩
    rw [S_len]
    by_cases c : (txt t).length ≤ 100000
    · rw [if_neg (by omega)]
      exact q h1 c H' k g
    · rw [if_pos (by omega)]
      exact qe (fun z => c z.2) H' k g
  · exact qe (fun z => h ⟨z.1, fit_of t z.2⟩) H' k g
theorem ok_text_of {n : Nat} {j : Nat} (hj : 4 ≤ j) (F : Fun K "_text_of" "_text_of" s_text_of f fd) (B : Blt mg) (T : TxtC K mg C td tz tt) (c_is_printable : Cal P w K mg base CX0 3 "is_printable" (spPrn Pt)) (c_is_integer : Cal P w K mg base CX0 1 "is_integer" spIntg)
    (c_greatest_integer : Cal P w K mg base CX0 1 "_greatest_integer" spGreat) (c_tuple_text : Cal P w K mg base (L2.CX P w) j "_tuple_text" (spTup C Pt n)) : FnOk P w K mg base (L2.CX P w) (j + 1) f fd ["value", "levels"] (spText C Pt n) := by
  refine F.okX sc_text_of (fun vs H Q E h => ?_) (fun cdv A outer s H vs Q E hr h => ?_)
  · obtain ⟨v, t, rfl, _⟩ := h; rfl
  obtain ⟨v, t, rfl, hR, hs, hG, q, qe⟩ := h
  refine ⟨_, (pss_cons (ps_if (pt_val (B.isT (pv 0) B.v_tuple)) (pss_one (ps_ret (c_tuple_text.pex hr (passX (takes_of rfl rfl rfl rfl) fun _ _ _ _ h => h) (pa_cons (pv 0) (pa_cons (pv 1) pa_nil))))) pss_nil)
    (pss_cons (ps_if (pt_val (c_is_printable.pe hr (pa_cons (pv 0) pa_nil))) (pss_one (ps_ret (pe_op op_add_str (pe_op op_add_str (B.str_i (pa_cons (B.len_s (pa_cons (pv 0) pa_nil)) pa_nil)) pe_str) (pv 0)))) pss_nil)
    (pss_cons (ps_if (pt_val (c_is_integer.pe hr (pa_cons (pv 0) (pa_cons pe_int (pa_cons (c_greatest_integer.pe0 hr) pa_nil))))) (pss_one (ps_ret (pe_op op_add_str (B.str_i (pa_cons (pv 0) pa_nil)) pe_str))) pss_nil)
    (pss_one (T.bad.raise (takes_of rfl rfl rfl rfl)))))), ?_⟩
  walk_at "wp"
  have lim : sizeLine = 16777216 := sizeLine_eq
  have cs : (prV v = false ∧ inV 0 99999999999999999999 v = false ∧ (∃ s, tyN H v = some s ∧ isaB s "tuple" = false) ∧ ¬ (pl n t = true ∧ fit t = true)) ∨ (∃ a xs ts, v = .ref a ∧ t = .tup ts ∧ H a = some (.tup xs) ∧ RepAll H xs ts) ∨ (∃ z, v = .str z ∧ t = .str z ∧ prn z = true) ∨
      (∃ i, v = .int i ∧ t = .int i ∧ 0 ≤ i ∧ i ≤ 99999999999999999999) := by
    cases hR with
    | tup e h => exact .inr (.inl ⟨_, _, _, rfl, rfl, e, h⟩)
    | str z =>
      cases hp : prn z with
      | false => exact .inl ⟨hp, rfl, ⟨_, rfl, rfl⟩, fun h => by have : prn z = true := h.1; rw [hp] at this; cases this⟩
      | true => exact .inr (.inr (.inl ⟨z, rfl, rfl, hp⟩))
    | int i =>
      cases hp : (decide (0 ≤ i) && decide (i ≤ 99999999999999999999)) with
      | false => exact .inl ⟨rfl, hp, ⟨_, rfl, rfl⟩, fun h => by have : (decide (0 ≤ i) && decide (i ≤ 99999999999999999999)) = true := h.1; rw [hp] at this; cases this⟩
      | true =>
        rw [Bool.and_eq_true, decide_eq_true_eq, decide_eq_true_eq] at hp
        exact .inr (.inr (.inr ⟨i, rfl, rfl, hp.1, hp.2⟩))
    | oth e n1 n2 n3 =>
      rename_i s
      refine .inl ⟨?_, ?_, ⟨s, e, ?_⟩, fun h => by have : false = true := h.1; cases this⟩
      · cases v with
        | str z => cases e; exact absurd rfl n2
        | _ => rfl
      · cases v with
        | int z => cases e; exact absurd rfl n1
        | _ => rfl
      · have : (s == "tuple") = false := by simpa using n3
        unfold isaB
        rw [this]
        simp
  rcases cs with ⟨hp, hi, ⟨s, hs1, hs2⟩, hn⟩ | ⟨a, xs, ts, rfl, rfl, e, h⟩ | ⟨z, rfl, rfl, hp⟩ | ⟨i, rfl, rfl, hh⟩
  · refine ⟨s, hs1, ?_⟩
    rw [hs2, if_neg Bool.false_ne_true]
    refine ⟨_, rfl, hG, ⟨s, hs1⟩, fun H1 k1 g1 => ⟨_, rfl, ?_⟩⟩
    rw [hp, if_neg Bool.false_ne_true]
    refine ⟨rfl, _, 0, _, rfl, ⟨s, tyN_kp k1 hG hs1⟩, _, rfl, ?_⟩
    rw [hi, if_neg Bool.false_ne_true]
    exact qe hn H1 k1 g1
  · exact ⟨_, tyN_tup e, by rw [if_pos (by decide)]; exact ⟨_, _, rfl, .tup e h, hs, hG, q, qe⟩⟩
  · have hz : z.length ≤ 10000000 := of_decide_eq_true hs
    refine ⟨_, rfl, ?_⟩
    rw [if_neg (by decide)]
    refine ⟨_, rfl, hG, ⟨_, rfl⟩, fun H1 k1 g1 => ⟨_, rfl, ?_⟩⟩
    have hp' : prV (.str z) = true := hp
    rw [hp', if_pos rfl]
    have dl := dig_len (n := z.length) (by omega)
    have e1 : (Str.ofString (toString (z.length : Int))).length ≤ 20 := by rw [toString_S, S_len]; exact dl
    have e2 : (Str.ofString ":").length = 1 := by decide +kernel
    have e3 : (Str.ofString (toString (z.length : Int)) ++ Str.ofString ":").length ≤ 21 := by
      rw [TL.len_tl, TL.tl_append, List.length_append, ← TL.len_tl, ← TL.len_tl]; omega
    refine ⟨z, rfl, by omega, log_small (by omega) (by omega), by omega, z, rfl, by omega, ?_⟩
    have e4 : Str.ofString (toString (z.length : Int)) ++ Str.ofString ":" ++ z = ⟨(txt (.str z)).toArray⟩ := by
      refine TL.ext_tl ?_
      rw [TL.tl_append, TL.tl_append, TL.tl_num]
      show (dig z.length ++ [58]) ++ TL.tl z = dig z.length ++ 58 :: TL.tl z
      rw [List.append_assoc]; rfl
    rw [e4]
    exact q hp rfl H1 k1 g1
  · have hp : (decide (0 ≤ i) && decide (i ≤ 99999999999999999999)) = true := by rw [decide_eq_true hh.1, decide_eq_true hh.2]; rfl
    refine ⟨_, rfl, ?_⟩
    rw [if_neg (by decide)]
    refine ⟨_, rfl, hG, ⟨_, rfl⟩, fun H1 k1 g1 => ⟨_, rfl, ?_⟩⟩
    rw [show prV (.int i) = false from rfl, if_neg Bool.false_ne_true]
    refine ⟨rfl, _, 0, _, rfl, ⟨_, rfl⟩, _, rfl, ?_⟩
    rw [show inV 0 99999999999999999999 (.int i) = true from hp, if_pos rfl]
    have ei : i = ((i.toNat : Nat) : Int) := by omega
    have dl := dig_len (n := i.toNat) (by omega)
    have e2 : (Str.ofString ".").length = 1 := by decide +kernel
    have e1 : (Str.ofString (toString i)).length ≤ 20 := by rw [ei, toString_S, S_len]; exact dl
    refine ⟨i, rfl, log_small hh.1 hh.2, by omega, ?_⟩
    have e4 : Str.ofString (toString i) ++ Str.ofString "." = ⟨(txt (.int i)).toArray⟩ := by
      refine TL.ext_tl ?_
      rw [TL.tl_append]
      show TL.tl (Str.ofString (toString i)) ++ [46] = dig i.toNat ++ [46]
      rw [show TL.tl (Str.ofString (toString i)) = dig i.toNat by rw [ei]; exact TL.tl_num _]
    rw [e4]
    exact q hp rfl H1 k1 g1
theorem ok_tuple0 (F : Fun K "_tuple_text" "_tuple_text" s_tuple_text f fd) (B : Blt mg) (T : TxtC K mg C td tz tt) : FnOk P w K mg base (L2.CX P w) 4 f fd ["parts", "levels"] (spTup C Pt 0) := by
  refine F.okX sc_tuple_text (fun vs H Q E h => ?_) (fun cdv A outer s H vs Q E hr h => ?_)
  · obtain ⟨v, t, rfl, _⟩ := h; rfl
  obtain ⟨a, ts, rfl, hR, hs, hG, q, qe⟩ := h
  refine ⟨_, pss_cons (ps_if (pt_cmpR op_eq (pv 1) pe_int (nomark _)) (pss_one (T.bad.raise (takes_of rfl rfl rfl rfl))) pss_nil) pss_never, ?_⟩
  walk_at "wp"
  rw [if_pos (by rfl)]
  exact qe (fun z => by have : false = true := z.1; cases this) H (Kp.refl _ _) hG
theorem ok_tuple {n : Nat} {j : Nat} (hj : 4 ≤ j) (F : Fun K "_tuple_text" "_tuple_text" s_tuple_text f fd) (B : Blt mg) (T : TxtC K mg C td tz tt) (c_text_of : Cal P w K mg base (L2.CX P w) j "_text_of" (spText C Pt n)) : FnOk P w K mg base (L2.CX P w) (j + 1) f fd ["parts", "levels"] (spTup C Pt (n + 1)) := by
  refine F.okX sc_tuple_text (fun vs H Q E h => ?_) (fun cdv A outer s H vs Q E hr h => ?_)
  · obtain ⟨v, t, rfl, _⟩ := h; rfl
  obtain ⟨a, ts, rfl, hR, hs, hG, q, qe⟩ := h
  refine ⟨_, (pss_cons (ps_if (pt_cmpR op_eq (pv 1) pe_int (nomark _)) (pss_one (T.bad.raise (takes_of rfl rfl rfl rfl))) pss_nil)
    (pss_cons (ps_set (i := 2) sc_tuple_text.nd rfl (Or.inl rfl) (pe_lst pa_nil))
    (pss_cons (ps_set (i := 3) sc_tuple_text.nd rfl (Or.inl rfl) (B.len_s (pa_cons pe_str pa_nil)))
    (pss_cons (ps_for (passes_of rfl) rfl (pi_tup (pv 0)) (pg_name (i := 4) sc_tuple_text.nd rfl (Or.inl rfl)) (pss_cons (ps_set (i := 5) sc_tuple_text.nd rfl (Or.inl rfl) (c_text_of.pex hr (passX (takes_of rfl rfl rfl rfl) fun _ _ _ _ h => h) (pa_cons (pv 4) (pa_cons (pe_op op_sub (pv 1) pe_int) pa_nil))))
    (pss_cons (ps_aug (i := 3) sc_tuple_text.nd rfl (Or.inl rfl) (B.len_s (pa_cons (pv 5) pa_nil)) ip_add)
    (pss_cons (ps_if (pt_cmpR op_gt (pv 3) (pe_cI T.mt) (nomark _)) (pss_one (T.bad.raise (takes_of rfl rfl rfl rfl))) pss_nil)
    (pss_one (ps_expr (pe_bm PySem.F.plainAttrs_list PySem.F.slot_list_append PySem.F.type_list_append mt_append (pv 2) (pa_cons (pv 5) pa_nil))))))))
    (pss_one (ps_ret (pe_op op_add_str (pe_op op_add_str pe_str (pe_join pe_str (pv 2))) pe_str))))))), ?_⟩
  walk_at "wp"
  have lim : sizeLine = 16777216 := sizeLine_eq
  rw [if_neg (by omega)]
  refine ⟨Nat.zero_le _, fun p hp => ⟨by decide +kernel, ?_⟩⟩
  cases hR with
  | tup e hA =>
  rename_i xs
  have hs' : (smls ts && decide (ts.length ≤ 1000000)) = true := hs
  rw [Bool.and_eq_true, decide_eq_true_eq] at hs'
  have xl := hA.len
  refine ⟨_, rfl, a, rfl, ⟨xs, SqT.of (by rw [upd_ne (ne_of_none e hp)]; exact e)⟩, for_tup (K := K) (a := a) (xs := xs)
    (fun i σ H' => (∃ o4 o5 : Option V, σ = [some (.ref a), some (.int ((n + 1 : Nat) : Int)), some (.ref p), some (.int ((txts (ts.take i)).length + 2)), o4, o5]) ∧ pls n (ts.take i) = true ∧ fits (ts.take i) = true ∧ (txts (ts.take i)).length + 2 ≤ 100000 ∧
      H' p = some (.lst ((tys (ts.take i)).map V.str)) ∧ Kp [Pt] H H' ∧ GxR.TabG H' Pt)
    ⟨⟨none, none, rfl⟩, rfl, rfl, (by show 0 + 2 ≤ 100000; decide), upd_same, Kp.new hp _, TabG.upd hG (fun z => by subst z; obtain ⟨ps, q1, _⟩ := hG; rw [hp] at q1; cases q1)⟩
    (fun i σ H' _ ⟨_, _, _, _, _, k, _⟩ => SqT.of (k.tup _ _ e)) (fun i x σ H' hx ⟨⟨o4, o5, hσ⟩, i1, i2, i3, i4, k, g⟩ => ?_) (fun σ H' ⟨⟨o4, o5, hσ⟩, i1, i2, i3, i4, k, g⟩ => ?_)⟩
  · subst hσ
    obtain ⟨t, ht, hRt⟩ := hA.get hx
    have hm := List.mem_of_getElem? ht
    have e1 := take_one ht
    walk_at "wp"
    refine ⟨x, t, by rw [show ((n + 1 : Nat) : Int) - 1 = n by omega], hRt.kp k hG, smls_mem hs'.1 hm, g, fun p1 p2 H2 k2 g2 => ?_, fun hn H2 k2 g2 => ?_⟩
    · have := txt_size p1 p2 (smls_mem hs'.1 hm)
      have il : (txts (ts.take (i + 1))).length = (txts (ts.take i)).length + (txt t).length := by
        rw [e1, txts_app, List.length_append]
        show _ + (txt t ++ []).length = _
        rw [List.append_nil]
      walk_at "wp"
      have i5 := k2.keep p _ (by simpa using TabG.ne_lst g i4) i4
      refine ⟨by rw [S_len]; omega, ?_⟩
      rw [S_len]
      by_cases c : (txts (ts.take (i + 1))).length + 2 ≤ 100000
      · rw [if_neg (by omega)]
        have tl1 : (ts.take i).length ≤ 1000000 := by rw [List.length_take]; omega
        refine ⟨.inl ⟨rfl, _, SqL.of i5⟩, _, i5, by rw [List.length_map]; unfold tys; rw [List.length_map]; omega, by omega, ⟨_, rfl⟩, ?_, ?_, c, ?_, (k.trans k2).upd hp i5, TabG.upd g2 (TabG.ne_lst g2 i5)⟩
        · rw [e1, pls_app, i1]
          show (true && (pl n t && true)) = true
          rw [p1]; rfl
        · rw [e1, fits_app, i2]
          show (true && (fit t && true)) = true
          rw [p2]; rfl
        · rw [e1, tys_app, List.map_append]
          rfl
      · rw [if_pos (by omega)]
        refine qe (fun z => c ?_) H2 (k.trans k2) g2
        have z2 : (fits ts && decide ((txts ts).length + 2 ≤ 100000)) = true := z.2
        rw [Bool.and_eq_true, decide_eq_true_eq] at z2
        have := take_le ts (i + 1)
        omega
    · refine qe (fun z => hn ⟨?_, ?_⟩) H2 (k.trans k2) g2
      · exact pls_mem (show pls n ts = true from z.1) hm
      · have z2 : (fits ts && decide ((txts ts).length + 2 ≤ 100000)) = true := z.2
        rw [Bool.and_eq_true] at z2
        exact fits_mem z2.1 hm
  · subst hσ
    rw [xl, List.take_length] at i1 i2 i3 i4
    walk_at "wp"
    refine ⟨⟨_, rfl⟩, tys ts, .inl (SqL.of i4), ?_, ?_, ?_, ?_⟩
    · rw [tys_sum]
      show _ + (tys ts).length * 0 ≤ _
      omega
    · have : (Str.ofString "[").length = 1 := by decide +kernel
      rw [this, TL.len_tl, tl_tys]; omega
    · have h2 : (Str.ofString "]").length = 1 := by decide +kernel
      have h1 : (Str.ofString "[").length = 1 := by decide +kernel
      rw [TL.len_tl, TL.tl_append, List.length_append, ← TL.len_tl, h1, tl_tys, h2]; omega
    · have e4 : Str.ofString "[" ++ Txt.join (Str.ofString "") (tys ts) ++ Str.ofString "]" = ⟨(txt (.tup ts)).toArray⟩ := by
        refine TL.ext_tl ?_
        rw [TL.tl_append, TL.tl_append, tl_tys]
        rfl
      rw [e4]
      refine q i1 ?_ H' k g
      show (fits ts && decide ((txts ts).length + 2 ≤ 100000)) = true
      rw [i2, decide_eq_true i3]
      rfl
end
/-! decode and its helpers -/
abbrev s_decode : Stmt := top 39
abbrev N_decode : List Str := ["text", "value", "end"]
theorem sc_decode : FnScope N_decode ["text"] (defScope s_decode) := ⟨rfl, rfl, rfl, by decide +kernel, rfl, by decide +kernel, by decide +kernel⟩
abbrev s_end_of_digits : Stmt := top 46
abbrev N_end_of_digits : List Str := ["text", "start", "end"]
theorem sc_end_of_digits : FnScope N_end_of_digits ["text", "start"] (defScope s_end_of_digits) := ⟨rfl, rfl, rfl, by decide +kernel, rfl, by decide +kernel, by decide +kernel⟩
abbrev s_number_of : Stmt := top 47
abbrev N_number_of : List Str := ["digits"]
theorem sc_number_of : FnScope N_number_of ["digits"] (defScope s_number_of) := ⟨rfl, rfl, rfl, by decide +kernel, rfl, by decide +kernel, by decide +kernel⟩
abbrev s_string_at : Stmt := top 45
abbrev N_string_at : List Str := ["text", "start", "length", "end"]
theorem sc_string_at : FnScope N_string_at ["text", "start", "length"] (defScope s_string_at) := ⟨rfl, rfl, rfl, by decide +kernel, rfl, by decide +kernel, by decide +kernel⟩
abbrev s_value_at : Stmt := top 43
abbrev N_value_at : List Str := ["text", "start", "levels", "end", "number", "sign"]
theorem sc_value_at : FnScope N_value_at ["text", "start", "levels"] (defScope s_value_at) := ⟨rfl, rfl, rfl, by decide +kernel, rfl, by decide +kernel, by decide +kernel⟩
abbrev s_tuple_at : Stmt := top 44
abbrev N_tuple_at : List Str := ["text", "start", "levels", "parts", "at", "part"]
theorem sc_tuple_at : FnScope N_tuple_at ["text", "start", "levels"] (defScope s_tuple_at) := ⟨rfl, rfl, rfl, by decide +kernel, rfl, by decide +kernel, by decide +kernel⟩
section
variable {P : Program} {w : World} {K : PySem.W.Frag} {mg : Str → Option Value} {base : Heap} {f : Addr} {fd : FuncData} {C Pt : Addr} {td tz tt : Tok}
def spEod : Sp := fun vs H Q _ => ∃ (z : Str) (s : Nat), vs = [.str z, .int s] ∧ z.length ≤ 1000000 ∧ s ≤ z.length ∧ Q (.int ((s + (((TL.tl z).drop s).takeWhile isD).length : Nat) : Int)) H
def spNum (C : Addr) : Sp := fun vs H Q E => ∃ d : Str, vs = [.str d] ∧ d.length ≤ 1000000 ∧ (∀ c ∈ TL.tl d, isD c = true) ∧ (goodD (TL.tl d) = true → Q (.int (val (TL.tl d))) H) ∧ (goodD (TL.tl d) = false → E (.ref C) none H)
def spStrAt (C : Addr) : Sp := fun vs H Q E => ∃ (z : Str) (s n : Nat), vs = [.str z, .int s, .int n] ∧ z.length ≤ 1000000 ∧ s ≤ z.length ∧
  (s + n ≤ z.length → ∀ p, H p = none → Q (.ref p) (upd H p (.tup [.str ⟨(((TL.tl z).drop s).take n).toArray⟩, .int ((s + n : Nat) : Int)]))) ∧ (¬ s + n ≤ z.length → E (.ref C) none H)
def spVal (C : Addr) (n : Nat) : Sp := fun vs H Q E => ∃ (z : Str) (s : Nat), vs = [.str z, .int s, .int n] ∧ z.length ≤ 100000 ∧ s ≤ z.length ∧
  (∀ t r, pval n ((TL.tl z).drop s) = some (t, r) → ∀ (p : Addr) (v : V) (e : Nat) (H' : Hp), Kp [] H H' → H' p = some (.tup [v, .int e]) → Rep H' v t → e ≤ z.length → (TL.tl z).drop e = r → Q (.ref p) H') ∧
  (pval n ((TL.tl z).drop s) = none → ∀ H', Kp [] H H' → E (.ref C) none H')
/-- _tuple_at behind its opening bracket -/
def spTupAt (C : Addr) (n : Nat) : Sp := fun vs H Q E => ∃ (z : Str) (s : Nat), vs = [.str z, .int s, .int n] ∧ z.length ≤ 100000 ∧ s ≤ z.length ∧
  (∀ t r, pval n (91 :: (TL.tl z).drop s) = some (t, r) → ∀ (p : Addr) (v : V) (e : Nat) (H' : Hp), Kp [] H H' → H' p = some (.tup [v, .int e]) → Rep H' v t → e ≤ z.length → (TL.tl z).drop e = r → Q (.ref p) H') ∧
  (pval n (91 :: (TL.tl z).drop s) = none → ∀ H', Kp [] H H' → E (.ref C) none H')
/-- decode(v): the tree whose text it is; or a BadText -/
def spDec (C Pt : Addr) : Sp := fun vs H Q E => ∃ v : V, vs = [v] ∧ (∃ t, tyN H v = some t) ∧ (∀ z, v = .str z → z.length ≤ 10000000) ∧ GxR.TabG H Pt ∧
  (∀ z t, v = .str z → z.length ≤ 100000 → prn z = true → pval 8 (TL.tl z) = some (t, []) → ∀ (u : V) (H' : Hp), Kp [Pt] H H' → GxR.TabG H' Pt → Rep H' u t → Q u H') ∧
  ((∀ z t, v = .str z → z.length ≤ 100000 → prn z = true → pval 8 (TL.tl z) ≠ some (t, [])) → ∀ H', Kp [Pt] H H' → GxR.TabG H' Pt → E (.ref C) none H')
theorem ok_eod (F : Fun K "_end_of_digits" "_end_of_digits" s_end_of_digits f fd) (B : Blt mg) : FnOk P w K mg base CX0 1 f fd ["text", "start"] spEod := by
  refine F.ok sc_end_of_digits (fun vs H Q E h => ?_) (fun cdv A outer s H vs Q E hr h => ?_)
  · obtain ⟨v, t, rfl, _⟩ := h; rfl
  obtain ⟨z, st, rfl, hz, hs, q⟩ := h
  refine ⟨_, (pss_cons (ps_set (i := 2) sc_end_of_digits.nd rfl (Or.inl rfl) (pv 1))
    (pss_cons (ps_while PassesOwn.never (pt_chain op_le_str op_le_str pe_str (pe_slice sl_str (pv 0) (po_some (pv 2)) (po_some (pe_op op_add (pv 2) pe_int))) pe_str) (pss_one (ps_aug (i := 2) sc_end_of_digits.nd rfl (Or.inl rfl) pe_int ip_add)))
    (pss_one (ps_ret (pv 2))))), ?_⟩
  walk_at "wp"
  refine ⟨fun m σ H' => H' = H ∧ ∃ k : Nat, k ≤ (((TL.tl z).drop st).takeWhile isD).length ∧ σ = [some (.str z), some (.int st), some (.int ((st + k : Nat) : Int))] ∧ m = (((TL.tl z).drop st).takeWhile isD).length - k, ⟨_, rfl, 0, Nat.zero_le _, rfl, rfl⟩, ?_⟩
  rintro m σ H' ⟨rfl, k, hk, rfl, rfl⟩
  walk_at "wp"
  have lim : sizeLine = 16777216 := sizeLine_eq
  refine ⟨by omega, ?_⟩
  have ct := cut_one z (st + k)
  rw [show (TL.tl z).drop (st + k) = ((TL.tl z).drop st).drop k by rw [List.drop_drop]] at ct
  rcases tw_next _ k hk with ⟨c, r, e, hc, hlt⟩ | ⟨he, e⟩
  · have hc := isD_iff.mp hc
    rw [e] at ct
    rw [if_pos (fun z => by
      rcases (lt48 ct).mp z with q | ⟨c', r', q, q2⟩
      · cases q
      · injection q with q _; omega), if_pos (fun z => by have := (lt57 ct).mp z; omega)]
    exact ⟨fun σ' H'' => H'' = H' ∧ σ' = [some (.str z), some (.int st), some (.int ((st + (k + 1) : Nat) : Int))], fun σ' H'' ⟨q1, q2⟩ => ⟨_, by omega, q1, k + 1, hlt, q2, rfl⟩, rfl, rfl⟩
  · rw [← he] at q
    rcases e with e | ⟨c, r, e, hc⟩
    · rw [e] at ct
      rw [if_neg (fun z => z ((lt48 ct).mpr (.inl rfl)))]
      exact q
    · rw [e] at ct
      by_cases c1 : c < 48
      · rw [if_neg (fun z => z ((lt48 ct).mpr (.inr ⟨c, r, rfl, c1⟩)))]
        exact q
      · rw [if_pos (fun z => by
          rcases (lt48 ct).mp z with q | ⟨c', r', q, q2⟩
          · cases q
          · injection q with q _; omega), if_neg (fun z => z ((lt57 ct).mpr (by
          rcases Nat.lt_or_ge 57 c with h | h
          · exact h
          · have := isD_iff.mpr ⟨Nat.not_lt.mp c1, h⟩; rw [hc] at this; cases this)))]
        exact q
theorem ok_number (F : Fun K "_number_of" "_number_of" s_number_of f fd) (B : Blt mg) (T : TxtC K mg C td tz tt) : FnOk P w K mg base (L2N.CX P w) 2 f fd ["digits"] (spNum C) := by
  refine F.okXN sc_number_of (fun vs H Q E h => ?_) (fun cdv A outer s H vs Q E hr h => ?_)
  · obtain ⟨v, rfl, _⟩ := h; rfl
  obtain ⟨d, rfl, hl, hd, q, qe⟩ := h
  refine ⟨_, (pss_cons (ps_if (PW.pt (pw_or (pt_cmpR op_eq (pv 0) pe_str (nomark _)) (pw_or1 (pt_cmpR op_gt (B.len_s (pa_cons (pv 0) pa_nil)) (pe_cI T.dg) (nomark _))))) (pss_one (T.bad.raiseN (L2N.takes_of rfl rfl rfl rfl))) pss_nil)
    (pss_cons (ps_if (PW.pt (pw_and (pt_cmpR op_eq (pe_ix ix_str (pv 0) pe_int (fun _ _ => rfl)) pe_str (nomark _)) (pw_and1 (pt_cmpR op_ne (pv 0) pe_str (nomark _))))) (pss_one (T.bad.raiseN (L2N.takes_of rfl rfl rfl rfl))) pss_nil)
    (pss_one (ps_ret (B.int_s (pa_cons (pv 0) pa_nil)))))), ?_⟩
  walk_at "wp"
  have lim : sizeLine = 16777216 := sizeLine_eq
  by_cases c0 : d = Str.ofString ""
  · rw [if_pos c0]
    exact qe (by rw [c0]; decide +kernel)
  · rw [if_neg c0]
    refine ⟨by omega, ?_⟩
    have dl : (TL.tl d).length = d.length := (TL.len_tl d).symm
    by_cases c1 : d.length ≤ 20
    · rw [if_neg (by omega)]
      have ne : TL.tl d ≠ [] := fun z => c0 (TL.ext_tl (by rw [z]; rfl))
      obtain ⟨a, r, ea⟩ := List.exists_cons_of_ne_nil ne
      refine ⟨d, 0, a, rfl, rfl, by omega, by rw [show d.cps.toList = a :: r from ea]; exact at0, ?_⟩
      have it : PySem.intText? d = some ((val (TL.tl d) : Nat) : Int) := intText_digits (fun c hc => by have := isD_iff.mp (hd c hc); exact ⟨by omega, by omega⟩) ne (by omega)
      have e48 : Str.ofString "0" = ⟨#[48]⟩ := by decide +kernel
      refine ⟨rfl, ?_⟩
      by_cases ha : a = 48
      · subst ha
        rw [if_pos (by rw [e48])]
        by_cases cd : d = Str.ofString "0"
        · rw [if_neg (by rw [cd]; simp)]
          exact ⟨_, it, by omega, q (by rw [cd]; decide +kernel)⟩
        · rw [if_pos (by simp [cd])]
          refine qe ?_
          unfold goodD
          have : (TL.tl d == [48]) = false := by
            simp only [beq_eq_false_iff_ne, ne_eq]
            intro z
            exact cd (TL.ext_tl (by rw [z]; decide +kernel))
          rw [this, ea]
          simp
      · rw [if_neg (by rw [e48]; intro z; injection z with z; injection z with z; injection z with z; injection z with z; exact ha z)]
        refine ⟨_, it, by omega, q ?_⟩
        unfold goodD
        rw [decide_eq_true (by omega), ea]
        simp [ha]
    · rw [if_pos (by omega)]
      refine qe ?_
      unfold goodD
      rw [decide_eq_false (by omega)]
      simp
theorem ok_string_at (F : Fun K "_string_at" "_string_at" s_string_at f fd) (B : Blt mg) (T : TxtC K mg C td tz tt) : FnOk P w K mg base (L2N.CX P w) 2 f fd ["text", "start", "length"] (spStrAt C) := by
  refine F.okXN sc_string_at (fun vs H Q E h => ?_) (fun cdv A outer s H vs Q E hr h => ?_)
  · obtain ⟨v, _, _, rfl, _⟩ := h; rfl
  obtain ⟨z, st, n, rfl, hz, hs, q, qe⟩ := h
  refine ⟨_, (pss_cons (ps_set (i := 3) sc_string_at.nd rfl (Or.inl rfl) (pe_op op_add (pv 1) (pv 2)))
    (pss_cons (ps_if (pt_cmpR op_gt (pv 3) (B.len_s (pa_cons (pv 0) pa_nil)) (nomark _)) (pss_one (T.bad.raiseN (L2N.takes_of rfl rfl rfl rfl))) pss_nil)
    (pss_one (ps_ret (pe_tup (pa_cons (pe_slice sl_str (pv 0) (po_some (pv 1)) (po_some (pv 3))) (pa_cons (pv 3) pa_nil))))))), ?_⟩
  walk_at "wp"
  have lim : sizeLine = 16777216 := sizeLine_eq
  refine ⟨by omega, ?_⟩
  by_cases c : st + n ≤ z.length
  · rw [if_neg (by omega)]
    refine ⟨by omega, by decide, fun p hp => ?_⟩
    have e : cutS z (some (st : Int)) (some ((st : Int) + (n : Int))) = ⟨(((TL.tl z).drop st).take n).toArray⟩ := by
      refine TL.ext_tl ?_
      have h := cut_nat z (a := st) (b := st + n) (by omega)
      rw [show st + n - st = n by omega] at h
      exact h
    rw [e]
    exact q c p hp
  · rw [if_pos (by omega)]
    exact qe c
theorem ok_value_at {n j : Nat} (hj : 4 ≤ j) (F : Fun K "_value_at" "_value_at" s_value_at f fd) (B : Blt mg) (T : TxtC K mg C td tz tt) (c_end_of_digits : Cal P w K mg base CX0 1 "_end_of_digits" spEod) (c_number_of : Cal P w K mg base (L2N.CX P w) 2 "_number_of" (spNum C))
    (c_string_at : Cal P w K mg base (L2N.CX P w) 2 "_string_at" (spStrAt C)) (c_tuple_at : Cal P w K mg base (L2N.CX P w) j "_tuple_at" (spTupAt C n)) : FnOk P w K mg base (L2N.CX P w) (j + 1) f fd ["text", "start", "levels"] (spVal C n) := by
  refine F.okXN sc_value_at (fun vs H Q E h => ?_) (fun cdv A outer s H vs Q E hr h => ?_)
  · obtain ⟨v, _, rfl, _⟩ := h; rfl
  obtain ⟨z, st, rfl, hz, hs, q, qe⟩ := h
  refine ⟨_, (pss_cons (ps_if (pt_cmpR op_eq (pe_slice sl_str (pv 0) (po_some (pv 1)) (po_some (pe_op op_add (pv 1) pe_int))) pe_str (nomark _)) (pss_one (ps_ret (c_tuple_at.pex hr (passXN (L2N.takes_of rfl rfl rfl rfl) fun _ _ _ _ h => h) (pa_cons (pv 0) (pa_cons (pe_op op_add (pv 1) pe_int) (pa_cons (pv 2) pa_nil)))))) pss_nil)
    (pss_cons (ps_set (i := 3) sc_value_at.nd rfl (Or.inl rfl) (c_end_of_digits.pe hr (pa_cons (pv 0) (pa_cons (pv 1) pa_nil))))
    (pss_cons (ps_set (i := 4) sc_value_at.nd rfl (Or.inl rfl) (c_number_of.pex hr (passXN (L2N.takes_of rfl rfl rfl rfl) fun _ _ _ _ h => h) (pa_cons (pe_slice sl_str (pv 0) (po_some (pv 1)) (po_some (pv 3))) pa_nil)))
    (pss_cons (ps_set (i := 5) sc_value_at.nd rfl (Or.inl rfl) (pe_slice sl_str (pv 0) (po_some (pv 3)) (po_some (pe_op op_add (pv 3) pe_int))))
    (pss_cons (ps_if (pt_cmpR op_eq (pv 5) pe_str (nomark _)) (pss_one (ps_ret (pe_tup (pa_cons (pv 4) (pa_cons (pe_op op_add (pv 3) pe_int) pa_nil))))) pss_nil)
    (pss_cons (ps_if (pt_cmpR op_eq (pv 5) pe_str (nomark _)) (pss_one (ps_ret (c_string_at.pex hr (passXN (L2N.takes_of rfl rfl rfl rfl) fun _ _ _ _ h => h) (pa_cons (pv 0) (pa_cons (pe_op op_add (pv 3) pe_int) (pa_cons (pv 4) pa_nil)))))) pss_nil)
    (pss_one (T.bad.raiseN (L2N.takes_of rfl rfl rfl rfl))))))))), ?_⟩
  walk_at "wp"
  have lim : sizeLine = 16777216 := sizeLine_eq
  have zl : (TL.tl z).length = z.length := (TL.len_tl z).symm
  have e1 : Str.ofString "[" = ⟨#[91]⟩ := by decide +kernel
  have e2 : Str.ofString "." = ⟨#[46]⟩ := by decide +kernel
  have e3 : Str.ofString ":" = ⟨#[58]⟩ := by decide +kernel
  rw [e1, e2, e3]
  refine ⟨by omega, ?_⟩
  have o1 := one_sign_eq (c := 91) (cut_one z st)
  by_cases c1 : cutS z (some (st : Int)) (some ((st : Int) + 1)) = ⟨#[91]⟩
  · rw [if_pos c1]
    have hd := o1.mp c1
    have lt : st < z.length := by
      rcases Nat.lt_or_ge st z.length with h | h
      · exact h
      · rw [List.drop_eq_nil_of_le (by omega)] at hd; cases hd
    obtain ⟨a, e⟩ := TL.getElem_drop_cons (L := TL.tl z) (a := st) (by omega)
    rw [e] at hd
    have ha : a = 91 := Option.some.inj hd
    subst ha
    rw [e] at q qe
    exact ⟨z, st + 1, rfl, hz, lt, q, qe⟩
  · rw [if_neg c1]
    have hd : ((TL.tl z).drop st).head? ≠ some 91 := fun h => c1 (o1.mpr h)
    have pl0 : pval n ((TL.tl z).drop st) = leaf ((TL.tl z).drop st) := pval_leaf fun r e => hd (by rw [e]; rfl)
    rw [pl0] at q qe
    obtain ⟨tk1, tk2⟩ := takeWhile_take ((TL.tl z).drop st)
    refine ⟨z, st, rfl, by omega, hs, _, rfl, by omega, ?_⟩
    have twl : (((TL.tl z).drop st).takeWhile isD).length ≤ z.length - st := by
      have := List.takeWhile_sublist isD (l := (TL.tl z).drop st) |>.length_le
      rw [List.length_drop] at this
      omega
    generalize hk : (((TL.tl z).drop st).takeWhile isD).length = k at tk1 tk2 twl ⊢
    have ed : (TL.tl z).drop (st + k) = ((TL.tl z).drop st).dropWhile isD := by rw [← tk2, List.drop_drop]
    have ec : TL.tl (cutS z (some (st : Int)) (some ((st + k : Nat) : Int))) = ((TL.tl z).drop st).takeWhile isD := by
      rw [cut_nat z (by omega), show st + k - st = k by omega, tk1]
    refine ⟨_, rfl, ?_, ?_, fun g => ?_, fun g => ?_⟩
    · rw [TL.len_tl, ec, hk]; omega
    · rw [ec]; exact takeD _
    · rw [ec] at g ⊢
      refine ⟨_, rfl, _, rfl, by omega, ?_⟩
      have lf : leaf ((TL.tl z).drop st) = match ((TL.tl z).drop st).dropWhile isD with
          | 46 :: r => some (.int (val (((TL.tl z).drop st).takeWhile isD)), r)
          | 58 :: r => if val (((TL.tl z).drop st).takeWhile isD) ≤ r.length then some (.str ⟨(r.take (val (((TL.tl z).drop st).takeWhile isD))).toArray⟩, r.drop (val (((TL.tl z).drop st).takeWhile isD))) else none
          | _ => none := by unfold leaf; rw [if_pos g]; try rfl
      generalize val (((TL.tl z).drop st).takeWhile isD) = vv at lf ⊢
      rw [← ed] at lf
      have o2 := one_sign_eq (c := 46) (cut_one z (st + k))
      have o3 := one_sign_eq (c := 58) (cut_one z (st + k))
      have lt : ∀ {c}, ((TL.tl z).drop (st + k)).head? = some c → st + k < z.length ∧ (TL.tl z).drop (st + k) = c :: (TL.tl z).drop (st + k + 1) := fun {c} h => by
        have l : st + k < z.length := by
          rcases Nat.lt_or_ge (st + k) z.length with h' | h'
          · exact h'
          · rw [List.drop_eq_nil_of_le (by omega)] at h; cases h
        obtain ⟨a, e⟩ := TL.getElem_drop_cons (L := TL.tl z) (a := st + k) (by omega)
        rw [e] at h
        rw [e, Option.some.inj h]
        exact ⟨l, rfl⟩
      by_cases c2 : cutS z (some ((st + k : Nat) : Int)) (some (((st + k : Nat) : Int) + 1)) = ⟨#[46]⟩
      · rw [if_pos c2]
        obtain ⟨l, e⟩ := lt (o2.mp c2)
        rw [e] at lf
        refine ⟨_, rfl, by decide, fun p hp => ?_⟩
        exact q _ _ lf p _ (st + k + 1) _ (Kp.new hp _) upd_same (.int _) (by omega) rfl
      · rw [if_neg c2]
        by_cases c3 : cutS z (some ((st + k : Nat) : Int)) (some (((st + k : Nat) : Int) + 1)) = ⟨#[58]⟩
        · rw [if_pos c3]
          obtain ⟨l, e⟩ := lt (o3.mp c3)
          rw [e] at lf
          have rl : ((TL.tl z).drop (st + k + 1)).length = z.length - (st + k + 1) := by rw [List.length_drop, zl]
          refine ⟨_, rfl, z, st + k + 1, vv, rfl, by omega, by omega, fun h p hp => ?_, fun h => ?_⟩
          · have lf : leaf _ = if vv ≤ ((TL.tl z).drop (st + k + 1)).length then _ else _ := lf
            rw [if_pos (by omega)] at lf
            exact q _ _ lf p _ (st + k + 1 + vv) _ (Kp.new hp _) upd_same (.str _) (by omega) (by rw [List.drop_drop])
          · have lf : leaf _ = if vv ≤ ((TL.tl z).drop (st + k + 1)).length then _ else _ := lf
            rw [if_neg (by omega)] at lf
            exact qe lf H (Kp.refl _ _)
        · rw [if_neg c3]
          refine qe ?_ H (Kp.refl _ _)
          rw [lf]
          split
          · rename_i r e; exact absurd (o2.mpr (by rw [e]; rfl)) c2
          · rename_i r e; exact absurd (o3.mpr (by rw [e]; rfl)) c3
          · rfl
    · rw [ec] at g
      refine qe ?_ H (Kp.refl _ _)
      unfold leaf
      rw [g, if_neg Bool.false_ne_true]
theorem ok_tuple_at0 (F : Fun K "_tuple_at" "_tuple_at" s_tuple_at f fd) (B : Blt mg) (T : TxtC K mg C td tz tt) : FnOk P w K mg base (L2N.CX P w) 4 f fd ["text", "start", "levels"] (spTupAt C 0) := by
  refine F.okXN sc_tuple_at (fun vs H Q E h => ?_) (fun cdv A outer s H vs Q E hr h => ?_)
  · obtain ⟨v, t, rfl, _⟩ := h; rfl
  obtain ⟨z, st, rfl, hz, hs, q, qe⟩ := h
  refine ⟨_, pss_cons (ps_if (pt_cmpR op_eq (pv 2) pe_int (nomark _)) (pss_one (T.bad.raiseN (L2N.takes_of rfl rfl rfl rfl))) pss_nil) pss_never, ?_⟩
  walk_at "wp"
  rw [if_pos (by rfl)]
  exact qe rfl H (Kp.refl _ _)
theorem ok_tuple_at {n j : Nat} (hj : 4 ≤ j) (F : Fun K "_tuple_at" "_tuple_at" s_tuple_at f fd) (B : Blt mg) (T : TxtC K mg C td tz tt) (c_value_at : Cal P w K mg base (L2N.CX P w) j "_value_at" (spVal C n)) : FnOk P w K mg base (L2N.CX P w) (j + 1) f fd ["text", "start", "levels"] (spTupAt C (n + 1)) := by
  refine F.okXN sc_tuple_at (fun vs H Q E h => ?_) (fun cdv A outer s H vs Q E hr h => ?_)
  · obtain ⟨v, t, rfl, _⟩ := h; rfl
  obtain ⟨z, st, rfl, hz, hs, q, qe⟩ := h
  refine ⟨_, (pss_cons (ps_if (pt_cmpR op_eq (pv 2) pe_int (nomark _)) (pss_one (T.bad.raiseN (L2N.takes_of rfl rfl rfl rfl))) pss_nil)
    (pss_cons (ps_set (i := 3) sc_tuple_at.nd rfl (Or.inl rfl) (pe_lst pa_nil))
    (pss_cons (ps_set (i := 4) sc_tuple_at.nd rfl (Or.inl rfl) (pv 1))
    (pss_cons (ps_while (passes_of rfl) (pt_cmpR op_ne (pe_slice sl_str (pv 0) (po_some (pv 4)) (po_some (pe_op op_add (pv 4) pe_int))) pe_str (nomark _)) (pss_cons (ps_asg (c_value_at.pex hr (passXN (L2N.takes_of rfl rfl rfl rfl) fun _ _ _ _ h => h) (pa_cons (pv 0) (pa_cons (pv 4) (pa_cons (pe_op op_sub (pv 2) pe_int) pa_nil)))) (pg_tup rfl (pgs_cons (pg_name (i := 5) sc_tuple_at.nd rfl (Or.inl rfl)) (pgs_cons (pg_name (i := 4) sc_tuple_at.nd rfl (Or.inl rfl)) pgs_nil))))
    (pss_one (ps_expr (pe_bm PySem.F.plainAttrs_list PySem.F.slot_list_append PySem.F.type_list_append mt_append (pv 3) (pa_cons (pv 5) pa_nil))))))
    (pss_one (ps_ret (pe_tup (pa_cons (B.tuple_l (pa_cons (pv 3) pa_nil)) (pa_cons (pe_op op_add (pv 4) pe_int) pa_nil))))))))), ?_⟩
  walk_at "wp"
  have lim : sizeLine = 16777216 := sizeLine_eq
  have zl : (TL.tl z).length = z.length := (TL.len_tl z).symm
  have e1 : Str.ofString "]" = ⟨#[93]⟩ := by decide +kernel
  rw [if_neg (by omega)]
  rw [pval_br] at q qe
  refine ⟨Nat.zero_le _, fun p hp => ⟨fun m σ H' => ∃ (b : Nat) (us : List V) (ts : List Tr) (o : Option V), σ = [some (.str z), some (.int st), some (.int ((n + 1 : Nat) : Int)), some (.ref p), some (.int b), o] ∧ b ≤ z.length ∧ m = z.length - b ∧ H' p = some (.lst us) ∧ RepAll H' us ts ∧ Kp [] H H' ∧ us.length ≤ b ∧
    itm n ((TL.tl z).drop st) = (itm n ((TL.tl z).drop b)).map (fun x => (ts ++ x.1, x.2)), ⟨_, st, [], [], none, rfl, hs, rfl, upd_same, .nil, Kp.new hp _, Nat.zero_le _, ?_⟩, ?_⟩⟩
  · cases itm n ((TL.tl z).drop st) with
    | none => rfl
    | some x => rfl
  rintro m σ H' ⟨b, us, ts, o, rfl, hb, rfl, hu, hR, k, hl, ev⟩
  rw [e1]
  have o1 := one_sign_eq (c := 93) (cut_one z b)
  walk_at "wt"
  refine ⟨by omega, ?_⟩
  by_cases c1 : cutS z (some (b : Int)) (some ((b : Int) + 1)) = ⟨#[93]⟩
  · rw [if_neg (by simp [c1])]
    have hd := o1.mp c1
    have lt : b < z.length := by
      rcases Nat.lt_or_ge b z.length with h | h
      · exact h
      · rw [List.drop_eq_nil_of_le (by omega)] at hd; cases hd
    obtain ⟨a, e⟩ := TL.getElem_drop_cons (L := TL.tl z) (a := b) (by omega)
    rw [e] at hd
    have ha : a = 93 := Option.some.inj hd
    subst ha
    rw [e, itm_close] at ev
    rw [ev] at q
    walk_at "wp"
    refine ⟨us, .inl ⟨SqL.of hu, fun l hl => ⟨by decide, fun p2 hp2 => ?_⟩⟩⟩
    have k2 : Kp [] H' (upd (upd H' l (.tup us)) p2 (.tup [.ref l, .int ((b : Int) + 1)])) := (Kp.new hl _).trans (Kp.new hp2 _)
    refine q _ _ rfl p2 (.ref l) (b + 1) _ (k.trans k2) upd_same ?_ lt rfl
    show Rep _ _ (.tup (ts ++ []))
    rw [List.append_nil]
    exact .tup (by rw [upd_ne (ne_of_none upd_same hp2)]; exact upd_same) (hR.kp0 k2)
  · rw [if_pos (by simp [c1])]
    have hd : ((TL.tl z).drop b).head? ≠ some 93 := fun h => c1 (o1.mpr h)
    have st1 := itm_step (n := n) hd
    refine ⟨_, fun σ' H'' h => h, ?_⟩
    walk_at "wp"
    refine ⟨z, b, by rw [show ((n + 1 : Nat) : Int) - 1 = n by omega], hz, hb, fun t r hv p2 v e H2 k2 hq hRv he hde => ?_, fun hn H2 k2 => ?_⟩
    · refine ⟨p2, [v, .int e], rfl, SqT.of hq, rfl, v, [.int e], rfl, .int e, [], rfl, rfl, ?_⟩
      have hu2 := k2.keep p _ (by simp) hu
      have dec := pval_dec hv
      rw [← hde, List.length_drop, List.length_drop] at dec
      refine ⟨_, rfl, .inl ⟨rfl, _, SqL.of hu2⟩, _, rfl, p, us, v, rfl, rfl, hu2, by omega, ?_⟩
      refine ⟨z.length - e, by omega, e, us ++ [v], ts ++ [t], some v, rfl, he, rfl, upd_same, ((hR.kp0 k2).updL hu2).app (.cons (hRv.updL hu2) .nil), (k.trans k2).upd hp hu2, by rw [List.length_append]; show us.length + 1 ≤ e; omega, ?_⟩
      rw [ev, st1, hv, hde]
      show Option.map _ ((itm n r).map _) = Option.map _ (itm n r)
      cases itm n r with
      | none => rfl
      | some x => show some (ts ++ (t :: x.1), x.2) = some ((ts ++ [t]) ++ x.1, x.2); rw [List.append_assoc]; rfl
    · refine qe ?_ H2 (k.trans k2)
      rw [ev, st1, hn]
      rfl
theorem ok_decode (F : Fun K "decode" "decode" s_decode f fd) (B : Blt mg) (T : TxtC K mg C td tz tt) (c_is_printable : Cal P w K mg base CX0 3 "is_printable" (spPrn Pt)) (c_value_at : Cal P w K mg base (L2N.CX P w) 22 "_value_at" (spVal C 8)) : FnOk P w K mg base (L2N.CX P w) 23 f fd ["text"] (spDec C Pt) := by
  refine F.okXN sc_decode (fun vs H Q E h => ?_) (fun cdv A outer s H vs Q E hr h => ?_)
  · obtain ⟨v, rfl, _⟩ := h; rfl
  obtain ⟨v, rfl, ⟨t, ht⟩, hz, hG, q, qe⟩ := h
  refine ⟨_, (pss_cons (ps_if (PW.pt (pw_or (pt_not (pt_val (B.isT (pv 0) B.v_str))) (pw_or1 (pt_cmpR op_gt (B.len_s (pa_cons (pv 0) pa_nil)) (pe_cI T.mt) (nomark _))))) (pss_one (T.bad.raiseN (L2N.takes_of rfl rfl rfl rfl))) pss_nil)
    (pss_cons (ps_if (pt_not (pt_val (c_is_printable.pe hr (pa_cons (pv 0) pa_nil)))) (pss_one (T.bad.raiseN (L2N.takes_of rfl rfl rfl rfl))) pss_nil)
    (pss_cons (ps_asg (c_value_at.pex hr (passXN (L2N.takes_of rfl rfl rfl rfl) fun _ _ _ _ h => h) (pa_cons (pv 0) (pa_cons pe_int (pa_cons (pe_cI T.dp) pa_nil)))) (pg_tup rfl (pgs_cons (pg_name (i := 1) sc_decode.nd rfl (Or.inl rfl)) (pgs_cons (pg_name (i := 2) sc_decode.nd rfl (Or.inl rfl)) pgs_nil))))
    (pss_cons (ps_if (pt_cmpR op_ne (pv 2) (B.len_s (pa_cons (pv 0) pa_nil)) (nomark _)) (pss_one (T.bad.raiseN (L2N.takes_of rfl rfl rfl rfl))) pss_nil)
    (pss_one (ps_ret (pv 1))))))), ?_⟩
  walk_at "wp"
  have lim : sizeLine = 16777216 := sizeLine_eq
  refine ⟨t, ht, ?_⟩
  cases c1 : isaB t "str" with
  | false =>
    rw [if_pos rfl]
    refine qe (fun z u e => ?_) H (Kp.refl _ _) hG
    subst e
    cases ht
    exact absurd c1 (by decide)
  | true =>
    rw [if_neg (by decide)]
    obtain ⟨z, rfl⟩ := isa_str ht c1
    have hz := hz z rfl
    refine ⟨z, rfl, by omega, ?_⟩
    by_cases c2 : z.length ≤ 100000
    · rw [if_neg (by omega)]
      refine ⟨_, rfl, hG, ⟨_, rfl⟩, fun H1 k1 g1 => ⟨_, rfl, ?_⟩⟩
      cases hp : prn z with
      | false =>
        rw [if_pos (show prV (.str z) = false from hp)]
        exact qe (fun z' u e _ hp' => by cases e; rw [hp] at hp'; cases hp') H1 k1 g1
      | true =>
        rw [if_neg (by rw [show prV (.str z) = true from hp]; decide)]
        refine ⟨z, 0, rfl, c2, Nat.zero_le _, fun u r hv p v e H2 k2 hq hR he hd => ?_, fun hv H2 k2 => ?_⟩
        · have zl : (TL.tl z).length = z.length := (TL.len_tl z).symm
          have kk : Kp [Pt] H H2 := k1.trans (k2.mono fun b hb => absurd hb (by simp))
          have gg := tabG_kp g1 k2 (by simp)
          refine ⟨p, [v, .int e], rfl, SqT.of hq, rfl, v, [.int e], rfl, .int e, [], rfl, rfl, ?_⟩
          walk_at "wp"
          refine ⟨by omega, ?_⟩
          rw [List.drop_zero] at hv
          by_cases c3 : e = z.length
          · rw [if_neg (by omega)]
            refine q z u rfl c2 hp ?_ v H2 kk gg hR
            rw [hv, ← hd, List.drop_eq_nil_of_le (by omega)]
          · rw [if_pos (by omega)]
            refine qe (fun z' u' ez _ _ hv' => ?_) H2 kk gg
            cases ez
            rw [hv] at hv'
            injection hv' with hv'
            injection hv' with _ hr
            have := congrArg List.length hr
            rw [← hd, List.length_drop, List.length_nil] at this
            omega
        · refine qe (fun z' u e _ _ hv' => ?_) H2 (k1.trans (k2.mono fun b hb => absurd hb (by simp))) (tabG_kp g1 k2 (by simp))
          cases e
          rw [List.drop_zero] at hv
          rw [hv] at hv'
          cases hv'
    · rw [if_pos (by omega)]
      exact qe (fun z' u e h => by cases e; exact absurd h c2) H (Kp.refl _ _) hG
end
/-! the office -/
abbrev s_Seals___init : Stmt := inClass (top 92) 0
abbrev N_Seals___init : List Str := ["self"]
theorem sc_Seals___init : FnScope N_Seals___init ["self"] (defScope s_Seals___init) := ⟨rfl, rfl, rfl, by decide +kernel, rfl, by decide +kernel, by decide +kernel⟩
abbrev s_Seals_make : Stmt := inClass (top 92) 1
abbrev N_Seals_make : List Str := ["self", "key", "text", "mark"]
theorem sc_Seals_make : FnScope N_Seals_make ["self", "key", "text"] (defScope s_Seals_make) := ⟨rfl, rfl, rfl, by decide +kernel, rfl, by decide +kernel, by decide +kernel⟩
abbrev s_Seals_holds : Stmt := inClass (top 92) 2
abbrev N_Seals_holds : List Str := ["self", "key", "text", "mark"]
theorem sc_Seals_holds : FnScope N_Seals_holds ["self", "key", "text", "mark"] (defScope s_Seals_holds) := ⟨rfl, rfl, rfl, by decide +kernel, rfl, by decide +kernel, by decide +kernel⟩
/-- the mark of a key and a text -/
def mkS (k t : Str) : Str := dgs (k ++ Str.ofString " " ++ t)
def mkO (made : List (Str × Str)) : List (List Key × V) := made.map fun p => ([Sum.inr p.1, Sum.inr p.2], V.str (mkS p.1 p.2))
/-- made with one pair more, if it is a new one -/
def addP (made : List (Str × Str)) (p : Str × Str) : List (Str × Str) := if p ∈ made then made else made ++ [p]
/-- an office at o, its dict at dm, made the pairs that signed -/
structure Ofc (C o dm : Addr) (made : List (Str × Str)) (H : Hp) : Prop where
  ob : ∃ dx, H o = some (.ins C dx [("_marks", .ref dm)])
  dc : H dm = some (.dT (mkO made))
theorem mkO_val (k t : Str) : ∀ made : List (Str × Str), valV (mkO made) ([Sum.inr k, Sum.inr t] : List Key) = if (k, t) ∈ made then some (.str (mkS k t)) else none
  | [] => rfl
  | p :: r => by
    have ih := mkO_val k t r
    show valV (([Sum.inr p.1, Sum.inr p.2], V.str (mkS p.1 p.2)) :: mkO r) _ = _
    by_cases e : (k, t) = p
    · subst e
      rw [if_pos List.mem_cons_self]
      exact valV_pos rfl
    · rw [valV_neg (fun z => e (by
        have z : ([Sum.inr p.1, Sum.inr p.2] : List Key) = [Sum.inr k, Sum.inr t] := z
        simp only [List.cons.injEq, Sum.inr.injEq, and_true] at z
        exact Prod.ext z.1.symm z.2.symm)), ih]
      by_cases m : (k, t) ∈ r
      · rw [if_pos m, if_pos (List.mem_cons_of_mem _ m)]
      · rw [if_neg m, if_neg (fun z => by
          rcases List.mem_cons.mp z with z | z
          · exact e z
          · exact m z)]
theorem mkO_put (k t : Str) (made : List (Str × Str)) : putK (mkO made) ([Sum.inr k, Sum.inr t] : List Key) (.str (mkS k t)) = mkO (addP made (k, t)) := by
  have v := mkO_val k t made
  unfold addP
  by_cases m : (k, t) ∈ made
  · rw [if_pos m] at v ⊢
    unfold putK
    rw [valV_any, v]
    rw [if_pos (show (some (V.str (mkS k t))).isSome = true from rfl)]
    unfold mkO
    rw [List.map_map]
    refine List.map_congr_left fun p hp => ?_
    show (if ([Sum.inr p.1, Sum.inr p.2] : List Key) = [Sum.inr k, Sum.inr t] then (([Sum.inr p.1, Sum.inr p.2] : List Key), V.str (mkS k t)) else ([Sum.inr p.1, Sum.inr p.2], V.str (mkS p.1 p.2))) = _
    split
    · rename_i z
      simp only [List.cons.injEq, Sum.inr.injEq, and_true] at z
      rw [z.1, z.2]
    · rfl
  · rw [if_neg m] at v ⊢
    rw [putK_new _ v]
    unfold mkO
    rw [List.map_append]
    rfl
theorem addP_len (made : List (Str × Str)) (p : Str × Str) : (addP made p).length ≤ made.length + 1 := by
  unfold addP
  split
  · omega
  · rw [List.length_append]; exact Nat.le_refl _
theorem mkO_len (made : List (Str × Str)) : (mkO made).length = made.length := List.length_map ..
/-- what can be asked of the office -/
def hoV (made : List (Str × Str)) : V → V → V → Bool
  | .str k, .str t, .str m => decide ((k, t) ∈ made) && decide (m = mkS k t)
  | _, _, _ => false
def spInit (C : Addr) : Sp := fun vs H Q _ => ∃ (o dx : Addr), vs = [.ref o] ∧ H o = some (.ins C dx []) ∧ ∀ (dm : Addr) (H' : Hp), H dm = none → dm ≠ o → Ofc C o dm [] H' → Kp [o] H H' → Q .non H'
def spMake (C CK CT : Addr) (Ts : List Addr) : Sp := fun vs H Q E => ∃ (o dm : Addr) (made : List (Str × Str)) (kv tv : V), vs = [.ref o, kv, tv] ∧ Ofc C o dm made H ∧ made.length ≤ 1000 ∧ Tabs Ts H ∧ (∃ t, tyN H kv = some t) ∧ (∃ t, tyN H tv = some t) ∧ szV kv ∧ (∀ z, tv = .str z → z.length ≤ 10000000) ∧
  (kyV kv = false → ∀ H', Kp Ts H H' → Tabs Ts H' → E (.ref CK) none H') ∧ (kyV kv = true → prV tv = false → ∀ H', Kp Ts H H' → Tabs Ts H' → E (.ref CT) none H') ∧
  ∀ k t : Str, kv = .str k → tv = .str t → kyS k = true → prn t = true → ∀ H', Kp (dm :: Ts) H H' → Tabs Ts H' → Ofc C o dm (addP made (k, t)) H' → Q (.str (mkS k t)) H'
def spHolds (C : Addr) : Sp := fun vs H Q _ => ∃ (o dm : Addr) (made : List (Str × Str)) (a b c : V), vs = [.ref o, a, b, c] ∧ Ofc C o dm made H ∧ (∃ t, tyN H a = some t) ∧ (∃ t, tyN H b = some t) ∧ (∃ t, tyN H c = some t) ∧ ∀ H', Kp [] H H' → Q (.bl (hoV made a b c)) H'
structure SlC (K : PySem.W.Frag) (mg : Str → Option Value) (C CK CT : Addr) : Prop where
  cl : Cls K C
  nM : NoAttr K C "_marks"
  BadKey : Err K mg "BadKey" CK
  bad : Err K mg "BadText" CT
section
variable {P : Program} {w : World} {K : PySem.W.Frag} {mg : Str → Option Value} {base : Heap} {f : Addr} {fd : FuncData} {C CK CT : Addr}
theorem Ofc.kp {S : List Addr} {o dm : Addr} {made : List (Str × Str)} {H H' : Hp} (h : Ofc C o dm made H) (k : Kp S H H') (n1 : o ∉ S) (n2 : dm ∉ S) : Ofc C o dm made H' :=
  let ⟨dx, e⟩ := h.ob
  ⟨⟨dx, k.keep _ _ n1 e⟩, k.keep _ _ n2 h.dc⟩
theorem Ofc.tabs {Ts : List Addr} {o dm : Addr} {made : List (Str × Str)} {H H' : Hp} (h : Ofc C o dm made H) (k : Kp Ts H H') (g : Tabs Ts H) : Ofc C o dm made H' :=
  let ⟨dx, e⟩ := h.ob
  h.kp k (g.ne e) (g.ne h.dc)
theorem mk_kp {x dx : Addr} {H H1 : Hp} {o : HO} (n1 : H x = none) (n2 : H dx = none) (n3 : dx ≠ x) (k : Kp [x] (upd (upd H dx (.own x)) x o) H1) : Kp [] H H1 :=
  Kp.drop n1 (((Kp.new n2 (.own x) : Kp [x] _ _).trans (Kp.new (by rw [upd_ne n3.symm]; exact n1) o)).trans k)
theorem ok_sinit (F : Fun K "__init__" "Seals.__init__" s_Seals___init f fd) (T : SlC K mg C CK CT) : FnOk P w K mg base CX0 1 f fd ["self"] (spInit C) := by
  refine F.ok sc_Seals___init (fun vs H Q E h => ?_) (fun cdv A outer s H vs Q E hr h => ?_)
  · obtain ⟨o, dx, rfl, _⟩ := h; rfl
  obtain ⟨o, dx, rfl, ho, q⟩ := h
  refine ⟨_, (pss_one (ps_fld (pv 0) pe_dnewT rfl)), ?_⟩
  intro d hd
  have nod : o ≠ d := ne_of_none ho hd
  refine ⟨_, rfl, o, C, dx, [], rfl, (by rw [upd_ne nod]; exact ho), T.cl, T.nM, (by show 0 < 1000; decide), ?_⟩
  refine q d _ hd nod.symm ⟨⟨dx, upd_same⟩, by rw [upd_ne nod.symm, upd_same]; rfl⟩ ⟨fun b u hb e => ?_, fun b xs e => ?_⟩
  · rw [upd_ne (fun z => hb (by rw [z]; exact List.mem_singleton.mpr rfl)), upd_ne (ne_of_none e hd)]; exact e
  · rw [upd_ne (ne_of e ho (by intro z; cases z)), upd_ne (ne_of_none e hd)]; exact e
theorem ok_smake {Pt Pc : Addr} {Ts : List Addr} (F : Fun K "make" "Seals.make" s_Seals_make f fd) (B : Blt mg) (T : SlC K mg C CK CT) (mt : Pt ∈ Ts) (mc : Pc ∈ Ts) (c_is_key : Cal P w K mg base CX0 4 "is_key" (spNm kyV Pc)) (c_is_printable : Cal P w K mg base CX0 3 "is_printable" (spPrn Pt)) (c_digest : Cal P w K mg base CX0 1 "digest" spDigest) :
    FnOk P w K mg base (L2.CX P w) 5 f fd ["self", "key", "text"] (spMake C CK CT Ts) := by
  refine F.okX sc_Seals_make (fun vs H Q E h => ?_) (fun cdv A outer s H vs Q E hr h => ?_)
  · obtain ⟨o, dm, made, kv, tv, rfl, _⟩ := h; rfl
  obtain ⟨o, dm, made, kv, tv, rfl, hO, hm, hG, ⟨t1, h1⟩, ⟨t2, h2⟩, z1, z2, e1, e2, q⟩ := h
  refine ⟨_, (pss_cons (ps_if (pt_not (pt_val (c_is_key.pe hr (pa_cons (pv 1) pa_nil)))) (pss_one (T.BadKey.raise (takes_of rfl rfl rfl rfl))) pss_nil)
    (pss_cons (ps_if (pt_not (pt_val (c_is_printable.pe hr (pa_cons (pv 2) pa_nil)))) (pss_one (T.bad.raise (takes_of rfl rfl rfl rfl))) pss_nil)
    (pss_cons (ps_set (i := 3) sc_Seals_make.nd rfl (Or.inl rfl) (c_digest.pe hr (pa_cons (pe_op op_add_str (pe_op op_add_str (pv 1) pe_str) (pv 2)) pa_nil)))
    (pss_cons (ps_dput (hu_of hr) (pe_fld (pv 0) rfl) (pe_tup (pa_cons (pv 1) (pa_cons (pv 2) pa_nil))) (pv 3) rfl)
    (pss_one (ps_ret (pv 3))))))), ?_⟩
  walk_at "wp"
  have off : ∀ {v : V} {t : String}, tyN H v = some t → kyV v = true → ∃ k, v = .str k ∧ kyS k = true := fun {v t} h e => by
    cases v <;> first | exact ⟨_, rfl, e⟩ | cases e
  have offT : ∀ {v : V}, prV v = true → ∃ k, v = .str k ∧ prn k = true := fun {v} e => by
    cases v <;> first | exact ⟨_, rfl, e⟩ | cases e
  refine ⟨kv, rfl, hG _ mc, ⟨t1, h1⟩, z1, fun H1 k1 g1 => ⟨_, rfl, ?_⟩⟩
  have G1 := hG.kp1 k1 g1
  have K1 : Kp Ts H H1 := k1.in1 mc
  cases ek : kyV kv with
  | false => rw [if_pos rfl]; exact e1 ek _ K1 G1
  | true =>
    rw [if_neg (by decide)]
    refine ⟨tv, rfl, G1 _ mt, ⟨t2, K1.tys hG h2⟩, fun H2 k2 g2 => ⟨_, rfl, ?_⟩⟩
    have G2 := G1.kp1 k2 g2
    have K2 : Kp Ts H H2 := K1.trans (k2.in1 mt)
    cases et : prV tv with
    | false => rw [if_pos rfl]; exact e2 ek et _ K2 G2
    | true =>
      rw [if_neg (by decide)]
      obtain ⟨k, rfl, hk⟩ := off h1 ek
      obtain ⟨t, rfl, hp⟩ := offT et
      have lk : k.length ≤ 12 := by
        have h := hk
        unfold kyS at h
        simp only [Bool.and_eq_true, decide_eq_true_eq] at h
        omega
      have lim : sizeLine = 16777216 := sizeLine_eq
      have lt : t.length ≤ 10000000 := z2 t rfl
      have l1 : (Str.ofString " ").length = 1 := by decide +kernel
      have la : ∀ x y : Str, (x ++ y).length = x.length + y.length := fun x y => by rw [TL.len_tl, TL.tl_append, List.length_append, ← TL.len_tl, ← TL.len_tl]
      have O2 := hO.tabs K2 hG
      obtain ⟨dx, ho⟩ := O2.ob
      refine ⟨k, rfl, by omega, t, rfl, by rw [la]; omega, _, rfl, by rw [la, la]; omega, C, dx, _, ho, T.cl, T.nM, _, rfl, by rw [lim]; decide, fun p hp2 => ⟨dm, rfl, upd (upd H2 p (.tup [.str k, .str t])) dm (.dT (mkO (addP made (k, t)))), ?_, ?_⟩⟩
      · have e1 : upd H2 p (.tup [.str k, .str t]) dm = some (.dT (mkO made)) := by rw [upd_ne (ne_of_none O2.dc hp2)]; exact O2.dc
        have z := DPut.t (v := .str (mkS k t)) (k := [Sum.inr k, Sum.inr t]) e1 upd_same (by rw [mkO_len]; omega)
        rw [mkO_put] at z
        exact z
      · have kp : Kp (dm :: Ts) H2 (upd (upd H2 p (.tup [.str k, .str t])) dm (.dT (mkO (addP made (k, t))))) := by
          refine ⟨fun b u n q => ?_, fun b xs q => ?_⟩
          · rw [upd_ne (fun z => n (by rw [z]; exact List.mem_cons_self)), upd_ne (ne_of_none q hp2)]; exact q
          · rw [upd_ne (ne_of q O2.dc (by intro z; cases z)), upd_ne (ne_of_none q hp2)]; exact q
        have nd : dm ∉ Ts := G2.ne O2.dc
        have nod : o ≠ dm := ne_of ho O2.dc (by intro z; cases z)
        refine q k t rfl rfl hk hp _ ((K2.mono fun b hb => List.mem_cons_of_mem _ hb).trans kp) (fun P m => ?_) ⟨⟨dx, ?_⟩, upd_same⟩
        · obtain ⟨a, e, z⟩ := G2 P m
          exact ⟨a, by rw [upd_ne (fun z => nd (by rw [← z]; exact m)), upd_ne (ne_of_none e hp2)]; exact e, z⟩
        · rw [upd_ne nod, upd_ne (ne_of_none ho hp2)]; exact ho
theorem ok_sholds (F : Fun K "holds" "Seals.holds" s_Seals_holds f fd) (B : Blt mg) (T : SlC K mg C CK CT) : FnOk P w K mg base CX0 1 f fd ["self", "key", "text", "mark"] (spHolds C) := by
  refine F.ok sc_Seals_holds (fun vs H Q E h => ?_) (fun cdv A outer s H vs Q E hr h => ?_)
  · obtain ⟨o, dm, made, a, b, c, rfl, _⟩ := h; rfl
  obtain ⟨o, dm, made, a, b, c, rfl, hO, ⟨t1, h1⟩, ⟨t2, h2⟩, ⟨t3, h3⟩, q⟩ := h
  refine ⟨_, (pss_cons (ps_if (PW.pt (pw_or (pt_not (pt_val (B.isT (pv 1) B.v_str))) (pw_or (pt_not (pt_val (B.isT (pv 2) B.v_str))) (pw_or1 (pt_not (pt_val (B.isT (pv 3) B.v_str))))))) (pss_one (ps_ret pe_bl)) pss_nil)
    (pss_one (ps_ret (pe_cmpR op_eq (pe_dget1 (hu_of hr) (pe_fld (pv 0) rfl) (pe_tup (pa_cons (pv 1) (pa_cons (pv 2) pa_nil))) ⟨rfl, rfl, rfl, rfl⟩) (pv 3) (nomark _))))), ?_⟩
  walk_at "wp"
  have off : hoV made a b c = false → Q (.bl false) H := fun h => by
    have y := q H (Kp.refl _ _)
    rw [h] at y; exact y
  have no1 : isaB t1 "str" = false → hoV made a b c = false := fun c1 => by
    cases a <;> first | rfl | (cases h1; exact absurd c1 (by decide))
  refine ⟨t1, h1, ?_⟩
  cases c1 : isaB t1 "str" with
  | false => rw [if_pos rfl]; exact off (no1 c1)
  | true =>
    rw [if_neg (by decide)]
    obtain ⟨k, rfl⟩ := isa_str h1 c1
    refine ⟨t2, h2, ?_⟩
    cases c2 : isaB t2 "str" with
    | false =>
      rw [if_pos rfl]
      exact off (by cases b <;> first | rfl | (cases h2; exact absurd c2 (by decide)))
    | true =>
      rw [if_neg (by decide)]
      obtain ⟨t, rfl⟩ := isa_str h2 c2
      refine ⟨t3, h3, ?_⟩
      cases c3 : isaB t3 "str" with
      | false =>
        rw [if_pos rfl]
        exact off (by cases c <;> first | rfl | (cases h3; exact absurd c3 (by decide)))
      | true =>
        rw [if_neg (by decide)]
        obtain ⟨m, rfl⟩ := isa_str h3 c3
        obtain ⟨dx, ho⟩ := hO.ob
        have lim : sizeLine = 16777216 := sizeLine_eq
        refine ⟨C, dx, _, ho, T.cl, T.nM, _, rfl, dm, rfl, .inr ⟨_, .inl hO.dc⟩, by rw [lim]; decide, fun p hp => ⟨_, DGet.t (k := [Sum.inr k, Sum.inr t]) (by rw [upd_ne (ne_of_none hO.dc hp)]; exact hO.dc) upd_same, ?_⟩⟩
        rw [mkO_val]
        have y := q _ (Kp.new hp (.tup [.str k, .str t]))
        have e : hoV made (.str k) (.str t) (.str m) = (decide ((k, t) ∈ made) && decide (m = mkS k t)) := rfl
        rw [e] at y
        by_cases h : (k, t) ∈ made
        · rw [if_pos h]
          rw [decide_eq_true h, Bool.true_and] at y
          refine ⟨rfl, ?_⟩
          show Q (V.bl (decide (V.str (mkS k t) = V.str m))) _
          rw [show decide (V.str (mkS k t) = V.str m) = decide (m = mkS k t) from decide_eq_decide.mpr ⟨fun z => (V.str.inj z).symm, fun z => by rw [z]⟩]
          exact y
        · rw [if_neg h]
          rw [decide_eq_false h, Bool.false_and] at y
          exact ⟨rfl, y⟩
end
/-! ''.join([S[_law_take(stream, m)] for k in range(n)]) -/
section
variable {K : PySem.W.Frag}
theorem cps_lenP (z : Str) : z.cps.toList.length = z.length := by
  show _ = z.cps.size
  exact Array.length_toList
/-- the new list of one-sign texts -/
structure Picked (S : Str) (n : Nat) (st : Addr) (H : Hp) (D : Addr) (cs : List Nat) (H' : Hp) : Prop where
  at_ : H' D = some (.lst ((sgs cs).map V.str))
  len : cs.length = n
  mem : ∀ c ∈ cs, c ∈ S.cps.toList
  kp : Kp [st] H H'
  st : Strm H' st
theorem Picked.sum {S : Str} {n : Nat} {st : Addr} {H : Hp} {D : Addr} {cs : List Nat} {H' : Hp} (p : Picked S n st H D cs H') (hn : n ≤ 16000000) : (List.map (fun x => x.length) (sgs cs)).sum + (sgs cs).length * (Str.ofString "").length ≤ 16777216 := by
  rw [sgs_sum, sgs_len, p.len]
  show n + n * 0 ≤ _
  omega
end
/-! ''.join([S[_law_take(stream, m)] for k in range(n)]), S any reading -/
/-! joined parts, matched -/
mutual
theorem sml_of : ∀ (n : Nat) (t : Tr), pl n t = true → (txt t).length ≤ 1000000 → sml t = true
  | _, .int _, _, _ => rfl
  | _, .str z, _, h => by
    have h : (dig z.length ++ 58 :: TL.tl z).length ≤ 1000000 := h
    rw [List.length_append, List.length_cons, ← TL.len_tl] at h
    show decide (z.length ≤ 10000000) = true
    exact decide_eq_true (by omega)
  | 0, .tup _, hp, _ => by cases hp
  | n + 1, .tup ts, hp, h => by
    have h : (91 :: (txts ts ++ [93])).length ≤ 1000000 := h
    rw [List.length_cons, List.length_append] at h
    obtain ⟨a, b⟩ := smls_of n ts hp (by omega)
    show (smls ts && decide (ts.length ≤ 1000000)) = true
    rw [a, decide_eq_true (by omega)]; rfl
  | _, .oth _, hp, _ => by cases hp
theorem smls_of : ∀ (n : Nat) (ts : List Tr), pls n ts = true → (txts ts).length ≤ 1000000 → smls ts = true ∧ ts.length ≤ (txts ts).length
  | _, [], _, _ => ⟨rfl, Nat.le_refl _⟩
  | n, t :: ts, hp, h => by
    have hp : (pl n t && pls n ts) = true := hp
    rw [Bool.and_eq_true] at hp
    have h : (txt t ++ txts ts).length ≤ 1000000 := h
    rw [List.length_append] at h
    obtain ⟨a, b⟩ := smls_of n ts hp.2 (by omega)
    have c := sml_of n t hp.1 (by omega)
    have d : 1 ≤ (txt t).length := txt_pos n t hp.1
    exact ⟨by show (sml t && smls ts) = true; rw [a, c]; rfl, by show ts.length + 1 ≤ (txt t ++ txts ts).length; rw [List.length_append]; omega⟩
theorem txt_pos : ∀ (n : Nat) (t : Tr), pl n t = true → 1 ≤ (txt t).length
  | _, .int i, _ => by show 1 ≤ (dig i.toNat ++ [46]).length; rw [List.length_append]; exact Nat.le_add_left _ _
  | _, .str z, _ => by show 1 ≤ (dig z.length ++ 58 :: TL.tl z).length; rw [List.length_append, List.length_cons]; omega
  | _, .tup ts, _ => by show 1 ≤ (91 :: (txts ts ++ [93])).length; rw [List.length_cons]; omega
  | _, .oth _, hp => by cases hp
end
/-! texts of proper signs -/
theorem strOk_of {z : Str} (h : ∀ c ∈ TL.tl z, c < 1114112) : PyData.strOk z = true := by
  unfold PyData.strOk
  rw [← Array.all_toList, List.all_eq_true]
  exact fun c hc => decide_eq_true (h c hc)
theorem strOk_prn {z : Str} (h : prn z = true) : PyData.strOk z = true := strOk_of fun c hc => by
  unfold prn at h
  rw [List.all_eq_true] at h
  have := h c hc
  unfold prc at this
  simp only [Bool.and_eq_true, decide_eq_true_eq] at this
  omega
theorem strOk_ky {z : Str} (h : kyS z = true) : PyData.strOk z = true := strOk_of fun c hc => by
  unfold kyS at h
  simp only [Bool.and_eq_true, decide_eq_true_eq] at h
  obtain ⟨⟨⟨h1, h2⟩, h3⟩, h4⟩ := h
  have hl : z.cps.toList.length = z.length := cps_lenP z
  cases e : z.cps.toList with
  | nil => rw [e] at hl; simp at hl; omega
  | cons d r =>
    have hc : c ∈ d :: r := by rw [← e]; exact hc
    rw [e] at h3
    have h3 : d = 107 := Option.some.inj h3
    rcases List.mem_cons.mp hc with hc | hc
    · omega
    · unfold inT at h4
      rw [List.all_eq_true] at h4
      have hm : c ∈ (cutS z (some 1) none).cps.toList := by
        show c ∈ (z.cps.toList.drop (HT.sIx z.length 0 (some ((1 : Nat) : Int)))).take (HT.sIx z.length z.length none - HT.sIx z.length 0 (some ((1 : Nat) : Int)))
        rw [HT.sIx_nat, HT.sIx_none, e, show min 1 z.length = 1 by omega, List.take_of_length_le (by rw [List.length_drop, ← e, hl]; exact Nat.le_refl _)]
        exact hc
      have := of_decide_eq_true (h4 c hm)
      exact (by decide +kernel : ∀ c ∈ (Str.ofString "0123456789").cps.toList, c < 1114112) c this
/-! opened -/
abbrev s_ascends : Stmt := top 31
abbrev N_ascends : List Str := ["names"]
theorem sc_ascends : FnScope N_ascends ["names"] (defScope s_ascends) := ⟨rfl, rfl, rfl, by decide +kernel, rfl, by decide +kernel, by decide +kernel⟩
abbrev s_is_seal : Stmt := top 81
abbrev N_is_seal : List Str := ["value", "key", "mark"]
theorem sc_is_seal : FnScope N_is_seal ["value"] (defScope s_is_seal) := ⟨rfl, rfl, rfl, by decide +kernel, rfl, by decide +kernel, by decide +kernel⟩
abbrev s_is_content : Stmt := top 80
abbrev N_is_content : List Str := ["value", "text", "seals", "key", "_"]
theorem sc_is_content : FnScope N_is_content ["value"] (defScope s_is_content) := ⟨rfl, rfl, rfl, by decide +kernel, rfl, by decide +kernel, by decide +kernel⟩
abbrev s_opened : Stmt := top 77
abbrev N_opened : List Str := ["sealed", "value"]
theorem sc_opened : FnScope N_opened ["sealed"] (defScope s_opened) := ⟨rfl, rfl, rfl, by decide +kernel, rfl, by decide +kernel, by decide +kernel⟩
/-- a seal, as a tree -/
def isSl : Tr → Bool
  | .tup [.str k, .str m] => kyS k && decide (m.length ≤ 40)
  | _ => false
def keyT : Tr → Str
  | .tup (.str k :: _) => k
  | _ => Str.empty
/-- the content of a sealed text -/
def isCo : Tr → Bool
  | .tup [.str _, .tup ss] => decide (ss.length ≤ 32) && ss.all isSl && asc (ss.map keyT)
  | _ => false
def spAsc (K : PySem.W.Frag) : Sp := fun vs H Q _ => ∃ (p : Addr) (xs : List Str), vs = [.ref p] ∧ SqL K H p (xs.map V.str) ∧ xs.length ≤ 100 ∧ (∀ z ∈ xs, PyData.strOk z = true) ∧ ∀ H', Kp [] H H' → Q (.bl (asc xs)) H'
def spSeal (Pc : Addr) : Sp := fun vs H Q _ => ∃ (v : V) (t : Tr), vs = [v] ∧ Rep H v t ∧ sml t = true ∧ GxR.TabG H Pc ∧ ∀ H', Kp [Pc] H H' → GxR.TabG H' Pc → Q (.bl (isSl t)) H'
def spCont (Ts : List Addr) : Sp := fun vs H Q _ => ∃ (v : V) (t : Tr), vs = [v] ∧ Rep H v t ∧ sml t = true ∧ Tabs Ts H ∧ ∀ H', Kp Ts H H' → Tabs Ts H' → Q (.bl (isCo t)) H'
/-- what opened gives: the content that the text is the text of -/
def opn (z : Str) (t : Tr) : Prop := z.length ≤ 100000 ∧ prn z = true ∧ pval 8 (TL.tl z) = some (t, []) ∧ isCo t = true
def spOpen (C : Addr) (Ts : List Addr) : Sp := fun vs H Q E => ∃ v : V, vs = [v] ∧ (∃ t, tyN H v = some t) ∧ (∀ z, v = .str z → z.length ≤ 10000000) ∧ Tabs Ts H ∧
  (∀ z t, v = .str z → opn z t → ∀ (u : V) (H' : Hp), Kp Ts H H' → Tabs Ts H' → Rep H' u t → Q u H') ∧ ((∀ z t, v = .str z → ¬ opn z t) → ∀ H', Kp Ts H H' → Tabs Ts H' → E (.ref C) none H')
structure OpC (mg : Str → Option Value) : Prop where
  c_MOST_MARK : ∃ t, mg "_MOST_MARK" = some (.int 40 t)
  c_MOST_SEALS : ∃ t, mg "MOST_SEALS" = some (.int 32 t)
structure OpT (K : PySem.W.Frag) (mg : Str → Option Value) (C : Addr) : Prop where
  bad : Err K mg "BadText" C
theorem strs_dp {K : PySem.W.Frag} {H : Hp} : ∀ xs : List Str, DpAll K H (xs.map V.str) (xs.map PyData.str)
  | [] => .nil
  | x :: r => .cons (.str x) (strs_dp r)
theorem strs_shaped {xs : List Str} (h : ∀ z ∈ xs, PyData.strOk z = true) : SeqAt.shaped (.list (xs.map PyData.str)) = true := by
  have g : ∀ ys : List Str, (∀ z ∈ ys, PyData.strOk z = true) → PyData.canLayAll0 (ys.map PyData.str) = true ∧ PyData.depthAll (ys.map PyData.str) ≤ 0 := fun ys => by
    induction ys with
    | nil => exact fun _ => ⟨by simp [PyData.canLayAll0], by simp [PyData.depthAll]⟩
    | cons y r ih =>
      intro h
      have ih := ih fun z hz => h z (List.mem_cons_of_mem _ hz)
      exact ⟨by simp [PyData.canLayAll0, PyData.canLay0, ih.1, h y List.mem_cons_self], by
        have := ih.2
        simp only [List.map_cons, PyData.depthAll, PyData.depth]
        omega⟩
  obtain ⟨h1, h2⟩ := g xs h
  unfold SeqAt.shaped
  rw [Bool.and_eq_true]
  exact ⟨by simp [PyData.canLay0, h1], decide_eq_true (by simp only [PyData.depth]; omega)⟩
theorem strs_eqv : ∀ xs ys : List Str, PyData.eqvAll (xs.map PyData.str) (ys.map PyData.str) = decide (xs = ys)
  | [], [] => rfl
  | [], _ :: _ => rfl
  | _ :: _, [] => rfl
  | x :: xs, y :: ys => by
    show (x == y && PyData.eqvAll (xs.map PyData.str) (ys.map PyData.str)) = _
    rw [strs_eqv xs ys, Bool.eq_iff_iff, Bool.and_eq_true, beq_iff_eq, decide_eq_true_eq, decide_eq_true_eq, List.cons.injEq]
mutual
theorem Rep.tabs {Ts : List Addr} {H H' : Hp} (k : Kp Ts H H') (g : Tabs Ts H) : ∀ {v : V} {t : Tr}, Rep H v t → Rep H' v t
  | _, _, .int i => .int i
  | _, _, .str z => .str z
  | _, _, .tup e r => .tup (k.tup _ _ e) (r.tabs k g)
  | _, _, .oth e a b c => .oth (k.tys g e) a b c
theorem RepAll.tabs {Ts : List Addr} {H H' : Hp} (k : Kp Ts H H') (g : Tabs Ts H) : ∀ {vs : List V} {ts : List Tr}, RepAll H vs ts → RepAll H' vs ts
  | _, _, .nil => .nil
  | _, _, .cons a b => .cons (a.tabs k g) (b.tabs k g)
end
theorem rep_tup {H : Hp} {v : V} {t : Tr} {ty : String} (h : Rep H v t) (e : tyN H v = some ty) (b : isaB ty "tuple" = true) : ∃ (a : Addr) (xs : List V) (ts : List Tr), v = .ref a ∧ H a = some (.tup xs) ∧ t = .tup ts ∧ RepAll H xs ts := by
  cases h with
  | int => cases e; exact absurd b (by decide)
  | str => cases e; exact absurd b (by decide)
  | oth e' n1 n2 n3 =>
    rw [e'] at e; cases e
    unfold isaB at b
    simp only [Bool.or_eq_true, Bool.and_eq_true, beq_iff_eq] at b
    rcases b with b | b
    · exact absurd b n3
    · exact absurd b.2 (by decide)
  | tup e' r => exact ⟨_, _, _, rfl, e', rfl, r⟩
theorem rep_str {H : Hp} {v : V} {t : Tr} {ty : String} (h : Rep H v t) (e : tyN H v = some ty) (b : isaB ty "str" = true) : ∃ z : Str, v = .str z ∧ t = .str z := by
  cases h with
  | int => cases e; exact absurd b (by decide)
  | tup e' r => rw [tyN_tup e'] at e; cases e; exact absurd b (by decide)
  | oth e' n1 n2 n3 =>
    rw [e'] at e; cases e
    unfold isaB at b
    simp only [Bool.or_eq_true, Bool.and_eq_true, beq_iff_eq] at b
    rcases b with b | b
    · exact absurd b n2
    · exact absurd b.2 (by decide)
  | str z => exact ⟨_, rfl, rfl⟩
theorem rep_ntup {H : Hp} {v : V} {ts : List Tr} {ty : String} (h : Rep H v (.tup ts)) (e : tyN H v = some ty) : isaB ty "tuple" = true := by
  cases h with
  | tup e' r => rw [tyN_tup e'] at e; cases e; decide
theorem rep_nstr {H : Hp} {v : V} {z : Str} {ty : String} (h : Rep H v (.str z)) (e : tyN H v = some ty) : isaB ty "str" = true := by
  cases h with
  | str => cases e; decide
theorem rep_sz {H : Hp} {v : V} {t : Tr} (h : Rep H v t) (hs : sml t = true) : szV v := by
  cases h with
  | str z =>
    have : z.length ≤ 10000000 := of_decide_eq_true hs
    show z.length ≤ sizeLine
    rw [sizeLine_eq]; omega
  | int => exact True.intro
  | tup => exact True.intro
  | @oth v t e n1 n2 n3 => cases v <;> first | exact True.intro | (cases e; exact absurd rfl n2)
theorem rep_ky {H : Hp} {v : V} {t : Tr} (h : Rep H v t) (k : kyV v = true) : ∃ z : Str, v = .str z ∧ t = .str z ∧ kyS z = true := by
  cases h with
  | str z => exact ⟨z, rfl, rfl, k⟩
  | int => cases k
  | tup => cases k
  | @oth v t e n1 n2 n3 => cases v <;> first | (cases k; done) | (cases e; exact absurd rfl n2)
theorem rep_nky {H : Hp} {v : V} {z : Str} (h : Rep H v (.str z)) (k : kyS z = true) : kyV v = true := by
  cases h with
  | str => exact k
theorem two_or {H : Hp} {xs : List V} {ts : List Tr} (r : RepAll H xs ts) : (xs.length ≠ 2 ∧ ts.length ≠ 2) ∨ ∃ (x1 x2 : V) (t1 t2 : Tr), xs = [x1, x2] ∧ ts = [t1, t2] ∧ Rep H x1 t1 ∧ Rep H x2 t2 := by
  by_cases l : xs.length = 2
  · cases r with
    | nil => cases l
    | cons a r =>
      cases r with
      | nil => cases l
      | cons b r =>
        cases r with
        | nil => exact .inr ⟨_, _, _, _, rfl, rfl, a, b⟩
        | cons c r => simp at l
  · exact .inl ⟨l, by rw [← r.len]; exact l⟩
theorem isSl_two {t : Tr} (h : isSl t = true) : ∃ k m : Str, t = .tup [.str k, .str m] ∧ kyS k = true ∧ m.length ≤ 40 := by
  unfold isSl at h
  split at h
  · rw [Bool.and_eq_true, decide_eq_true_eq] at h; exact ⟨_, _, rfl, h.1, h.2⟩
  · cases h
theorem isCo_two {t : Tr} (h : isCo t = true) : ∃ (z : Str) (ss : List Tr), t = .tup [.str z, .tup ss] ∧ ss.length ≤ 32 ∧ (∀ s ∈ ss, isSl s = true) ∧ asc (ss.map keyT) = true := by
  unfold isCo at h
  split at h
  · simp only [Bool.and_eq_true, decide_eq_true_eq, List.all_eq_true] at h; exact ⟨_, _, rfl, h.1.1, h.1.2, h.2⟩
  · cases h
section
variable {P : Program} {w : World} {K : PySem.W.Frag} {mg : Str → Option Value} {base : Heap} {f : Addr} {fd : FuncData}
theorem ok_asc (F : Fun K "ascends" "ascends" s_ascends f fd) (B : Blt mg) (z1 : mg "sorted" = none) (z2 : mg "set" = none) : FnOk P w K mg base CX0 1 f fd ["names"] (spAsc K) := by
  refine F.ok sc_ascends (fun vs H Q E h => ?_) (fun cdv A outer s H vs Q E hr h => ?_)
  · obtain ⟨p, xs, rfl, _⟩ := h; rfl
  obtain ⟨p, xs, rfl, hp, hl, ho, q⟩ := h
  refine ⟨_, (pss_one (ps_ret (pe_cmpR (op_eqD hr.units) (pv 0) (pe_sortSet rfl rfl z1 rfl z2 (pv 0)) (nomark _)))), ?_⟩
  walk_at "wp"
  refine ⟨_, rfl, p, xs, rfl, hp, by omega, fun ys r ha mem hr2 => ?_⟩
  have n0 : Kp [] H (upd H r (.lst (ys.map V.str))) := Kp.new hr2 _
  refine ⟨.list (xs.map PyData.str), .list (ys.map PyData.str), .lst (n0.seqL List.not_mem_nil hp) (strs_dp xs), .lst (SqL.of upd_same) (strs_dp ys), strs_shaped ho, strs_shaped fun z hz => ho z ((mem z).mp hz), ?_⟩
  have y := q _ n0
  rw [show PyData.eqv (.list (xs.map PyData.str)) (.list (ys.map PyData.str)) = decide (xs = ys) from strs_eqv xs ys]
  have e : decide (xs = ys) = asc xs := by
    cases c : asc xs with
    | true => exact decide_eq_true (asc_eq c ha fun z => (mem z).symm)
    | false => exact decide_eq_false fun e => by rw [e, ha] at c; cases c
  rw [e]; exact y
theorem ok_seal {Pc : Addr} (F : Fun K "_is_seal" "_is_seal" s_is_seal f fd) (B : Blt mg) (D : OpC mg) (c_is_key : Cal P w K mg base CX0 4 "is_key" (spNm kyV Pc)) : FnOk P w K mg base CX0 5 f fd ["value"] (spSeal Pc) := by
  refine F.ok sc_is_seal (fun vs H Q E h => ?_) (fun cdv A outer s H vs Q E hr h => ?_)
  · obtain ⟨v, t, rfl, _⟩ := h; rfl
  obtain ⟨v, t, rfl, hR, hs, hG, q⟩ := h
  refine ⟨_, (pss_cons (ps_if (PW.pt (pw_or (pt_not (pt_val (B.isT (pv 0) B.v_tuple))) (pw_or1 (pt_cmpR op_ne (B.len_q (pa_cons (pv 0) pa_nil)) pe_int (nomark _))))) (pss_one (ps_ret pe_bl)) pss_nil)
    (pss_cons (ps_asg (pv 0) (pg_tup rfl (pgs_cons (pg_name (i := 1) sc_is_seal.nd rfl (Or.inl rfl)) (pgs_cons (pg_name (i := 2) sc_is_seal.nd rfl (Or.inl rfl)) pgs_nil))))
    (pss_one (ps_ret (pe_and (c_is_key.pe hr (pa_cons (pv 1) pa_nil)) (pe_and (B.isT (pv 2) B.v_str) (pe_one (pe_cmpR op_le (B.len_s (pa_cons (pv 2) pa_nil)) (pe_cE D.c_MOST_MARK) (nomark _))))))))), ?_⟩
  walk_at "wp"
  obtain ⟨ty, hty⟩ := hR.ty
  refine ⟨ty, hty, ?_⟩
  have off : isSl t = false → Q (.bl false) H := fun h => by
    have y := q H (Kp.refl _ _) hG
    rw [h] at y; exact y
  have no : (∀ k m : Str, t = .tup [.str k, .str m] → kyS k = true → m.length ≤ 40 → False) → isSl t = false := fun h => by
    cases e : isSl t with
    | false => rfl
    | true => obtain ⟨k, m, e1, e2, e3⟩ := isSl_two e; exact (h k m e1 e2 e3).elim
  split
  · rename_i c
    exact off (no fun k m e _ _ => by subst e; rw [rep_ntup hR hty] at c; cases c)
  · rename_i c
    obtain ⟨a, xs, ts, rfl, ea, rfl, r⟩ := rep_tup hR hty (by simpa using c)
    refine ⟨a, rfl, xs, .inr (SqT.of ea), ?_⟩
    rcases two_or r with ⟨l1, l2⟩ | ⟨x1, x2, t1, t2, rfl, rfl, R1, R2⟩
    · rw [if_pos (by omega)]
      exact off (no fun k m e _ _ => by cases e; exact l2 rfl)
    · rw [if_neg (by simp)]
      refine ⟨a, _, rfl, SqT.of ea, rfl, x1, _, rfl, x2, _, rfl, rfl, ?_⟩
      have hs1 : sml t1 = true := smls_mem (ts := [t1, t2]) (by unfold sml at hs; rw [Bool.and_eq_true] at hs; exact hs.1) List.mem_cons_self
      have hs2 : sml t2 = true := smls_mem (ts := [t1, t2]) (by unfold sml at hs; rw [Bool.and_eq_true] at hs; exact hs.1) (List.mem_cons_of_mem _ List.mem_cons_self)
      walk_at "wp"
      refine ⟨x1, rfl, hG, R1.ty, rep_sz R1 hs1, fun H1 k1 g1 => ⟨_, rfl, ?_⟩⟩
      have R2' := R2.tabs (Ts := [Pc]) k1 (fun p hp => by rw [List.mem_singleton.mp hp]; exact hG)
      obtain ⟨t2y, ht2⟩ := R2'.ty
      have off1 : isSl (.tup [t1, t2]) = false → Q (.bl false) H1 := fun h => by
        have y := q H1 k1 g1
        rw [h] at y; exact y
      split
      · rename_i c1
        obtain ⟨z, rfl, rfl, ck⟩ := rep_ky R1 c1
        refine ⟨t2y, ht2, ?_⟩
        split
        · rename_i c2
          obtain ⟨m, rfl, rfl⟩ := rep_str R2' ht2 c2
          have hm : m.length ≤ 10000000 := of_decide_eq_true hs2
          refine ⟨m, rfl, by rw [sizeLine_eq]; omega, ?_⟩
          have y := q H1 k1 g1
          rw [show isSl (.tup [.str z, .str m]) = (kyS z && decide (m.length ≤ 40)) from rfl, ck, Bool.true_and] at y
          rw [show decide ((m.length : Int) ≤ 40) = decide (m.length ≤ 40) from decide_eq_decide.mpr (by omega)]
          exact y
        · rename_i c2
          exact off1 (no fun k m e _ _ => by cases e; exact c2 (rep_nstr R2' ht2))
      · rename_i c1
        exact off1 (no fun k m e ek _ => by cases e; exact c1 (rep_nky R1 ek))
theorem ok_content {oc kV doc pm ct : Value} {od an : Option Addr} {osl : Array (Option Value)} {c Pt Pc : Addr} {Ts : List Addr} (B : Blt mg) (TB : GxR.TabB base mg c Pt) (D : OpC mg) (mt : Pt ∈ Ts) (mc : Pc ∈ Ts)
    (lk : K.lookup f = some ⟨oc, od, .func (PySem.W.fnOf "_is_content" "_is_content" (defArgs s_is_content) (defBody s_is_content) (defScope s_is_content) .none kV doc pm an (.ref c) ct), osl⟩) (hcd : PySem.W.codeIn K (.ref c) "_is_content" = true)
    (c_is_seal : Cal P w K mg base CX0 5 "_is_seal" (spSeal Pc)) (c_ascends : Cal P w K mg base CX0 1 "ascends" (spAsc K)) :
    FnOk P w K mg base CX0 8 f (PySem.W.fnOf "_is_content" "_is_content" (defArgs s_is_content) (defBody s_is_content) (defScope s_is_content) .none kV doc pm an (.ref c) ct) ["value"] (spCont Ts) := by
  refine fn_of lk hcd sc_is_content (fun vs H Q E h => ?_) (fun A outer s H vs Q E hr h => ?_)
  · obtain ⟨v, t, rfl, _⟩ := h; rfl
  obtain ⟨v, t, rfl, hR, hs, hG, q⟩ := h
  refine ⟨_, PSs.nox (pss_cons (ps_if (PW.pt (pw_or (pt_not (pt_val (B.isT (pv 0) B.v_tuple))) (pw_or1 (pt_cmpR op_ne (B.len_q (pa_cons (pv 0) pa_nil)) pe_int (nomark _))))) (pss_one (ps_ret pe_bl)) pss_nil)
    (pss_cons (ps_asg (pv 0) (pg_tup rfl (pgs_cons (pg_name (i := 1) sc_is_content.nd rfl (Or.inl rfl)) (pgs_cons (pg_name (i := 2) sc_is_content.nd rfl (Or.inl rfl)) pgs_nil))))
    (pss_cons (ps_if (PW.pt (pw_or (pt_not (pt_val (B.isT (pv 1) B.v_str))) (pw_or (pt_not (pt_val (B.isT (pv 2) B.v_tuple))) (pw_or1 (pt_cmpR op_gt (B.len_q (pa_cons (pv 2) pa_nil)) (pe_cE D.c_MOST_SEALS) (nomark _)))))) (pss_one (ps_ret pe_bl)) pss_nil)
    (pss_cons (ps_if (pt_not (pt_val (pe_allG (N := ["pair"]) (nt := 1) (fr := []) rfl hr B TB rfl (gnOf (by decide +kernel)) (by show freeOk _ (defScope s_is_content) = true; decide +kernel) (by show capOk _ _ _ N_is_content _ (defScope s_is_content) = true; decide +kernel)
      (pi_tup (pv 2)) (fun _ _ _ _ _ hr => (pg_name (i := 0) (by show List.Nodup (["pair"] : List Str); decide +kernel) rfl (Or.inl rfl))) (fun _ _ _ _ _ hr => pts_nil) (fun _ _ _ _ _ hr => (c_is_seal.pe hr (pa_cons (pv 0) pa_nil))) (fun _ => rfl)))) (pss_one (ps_ret pe_bl)) pss_nil)
    (pss_one (ps_ret (c_ascends.pe hr (pa_cons (pe_lc (own := [("key", 3), ("_", 4)]) (g := gTup _ 2 (gCons (gName 3) (gCons (gName 4) (gNil)))) (tt := tYes) rfl sc_is_content.nd (pi_tup (pv 2)) (blkOk_by (own := [("key", 3), ("_", 4)]) (N := N_is_content) (sc := defScope s_is_content) (by decide +kernel)) (fun _ _ _ _ _ => (pg_tup rfl (pgs_cons (pg_name (i := 3) sc_is_content.nd rfl (Or.inl rfl)) (pgs_cons (pg_name (i := 4) sc_is_content.nd rfl (Or.inl rfl)) pgs_nil)))) (fun _ _ _ _ _ => pts_nil) (fun _ _ _ _ _ => (pv 3))) pa_nil)))))))), ?_⟩
  walk_at "wp"
  obtain ⟨ty, hty⟩ := hR.ty
  refine ⟨ty, hty, ?_⟩
  have off : ∀ H', Kp Ts H H' → Tabs Ts H' → isCo t = false → Q (.bl false) H' := fun H' k g h => by
    have y := q H' k g
    rw [h] at y; exact y
  have no : (∀ (z : Str) (ss : List Tr), t = .tup [.str z, .tup ss] → ss.length ≤ 32 → (∀ s ∈ ss, isSl s = true) → asc (ss.map keyT) = true → False) → isCo t = false := fun h => by
    cases e : isCo t with
    | false => rfl
    | true => obtain ⟨k, m, e1, e2, e3, e4⟩ := isCo_two e; exact (h k m e1 e2 e3 e4).elim
  split
  · rename_i c
    exact off _ (Kp.refl _ _) hG (no fun k m e _ _ _ => by subst e; rw [rep_ntup hR hty] at c; cases c)
  · rename_i c
    obtain ⟨a, xs, ts, rfl, ea, rfl, r⟩ := rep_tup hR hty (by simpa using c)
    refine ⟨a, rfl, xs, .inr (SqT.of ea), ?_⟩
    rcases two_or r with ⟨l1, l2⟩ | ⟨x1, x2, t1, t2, rfl, rfl, R1, R2⟩
    · rw [if_pos (by omega)]
      exact off _ (Kp.refl _ _) hG (no fun k m e _ _ _ => by cases e; exact l2 rfl)
    · rw [if_neg (by simp)]
      refine ⟨a, _, rfl, SqT.of ea, rfl, x1, _, rfl, x2, _, rfl, rfl, ?_⟩
      have hs1 : sml t1 = true := smls_mem (ts := [t1, t2]) (by unfold sml at hs; rw [Bool.and_eq_true] at hs; exact hs.1) List.mem_cons_self
      have hs2 : sml t2 = true := smls_mem (ts := [t1, t2]) (by unfold sml at hs; rw [Bool.and_eq_true] at hs; exact hs.1) (List.mem_cons_of_mem _ List.mem_cons_self)
      walk_at "wp"
      obtain ⟨ty1, hty1⟩ := R1.ty
      obtain ⟨ty2, hty2⟩ := R2.ty
      refine ⟨ty1, hty1, ?_⟩
      split
      · rename_i c1
        exact off _ (Kp.refl _ _) hG (no fun k m e _ _ _ => by cases e; rw [rep_nstr R1 hty1] at c1; cases c1)
      rename_i c1
      obtain ⟨z, rfl, rfl⟩ := rep_str R1 hty1 (by simpa using c1)
      refine ⟨ty2, hty2, ?_⟩
      split
      · rename_i c2
        exact off _ (Kp.refl _ _) hG (no fun k m e _ _ _ => by cases e; rw [rep_ntup R2 hty2] at c2; cases c2)
      rename_i c2
      obtain ⟨b, ys, us, rfl, eb, rfl, rr⟩ := rep_tup R2 hty2 (by simpa using c2)
      refine ⟨b, rfl, ys, .inr (SqT.of eb), ?_⟩
      split
      · rename_i c3
        exact off _ (Kp.refl _ _) hG (no fun k m e l _ _ => by cases e; rw [rr.len] at c3; omega)
      rename_i c3
      have ly : ys.length ≤ 32 := by omega
      refine ⟨_, rfl, b, rfl, ⟨ys, SqT.of eb⟩, hG _ mt, fun H2 hT => ?_⟩
      have g2 := hG.tab hT mt
      have k2 : Kp Ts H H2 := Kp.tab (hG _ mt) hT mt
      have e2 := k2.get hG eb
      have hsu : smls us = true := by
        unfold sml at hs2
        rw [Bool.and_eq_true] at hs2; exact hs2.1
      refine for_tup (K := K) (a := b) (xs := ys) (fun i σ H' => (∃ o : Option V, σ = [o]) ∧ Kp Ts H H' ∧ Tabs Ts H' ∧ ((us.take i).all isSl) = true)
        ⟨⟨_, rfl⟩, k2, g2, rfl⟩ (fun i σ H' _ ⟨_, k, _, _⟩ => SqT.of (k.get hG eb)) (fun i x σ H' hx ⟨⟨o, hσ⟩, k3, g3, ha⟩ => ?_) (fun σ H' ⟨⟨o, hσ⟩, k3, g3, ha⟩ => ?_)
      · subst hσ
        obtain ⟨u, hu, Ru⟩ := rr.get hx
        have tk : us.take (i + 1) = us.take i ++ [u] := by rw [List.take_add_one, hu]; rfl
        unfold tbAll
        simp only [tYes, if_true]
        walk_at "wp"
        refine ⟨x, u, rfl, Ru.tabs k3 hG, smls_mem hsu (List.mem_of_getElem? hu), g3 _ mc, fun H4 k4 g4 => ⟨_, rfl, ?_⟩⟩
        have k5 := k3.trans (k4.in1 mc)
        have g5 := g3.kp1 k4 g4
        cases hb : isSl u with
        | true =>
          rw [if_pos rfl]
          exact ⟨⟨_, rfl⟩, k5, g5, by rw [tk, List.all_append, ha]; simp [hb]⟩
        | false =>
          rw [if_neg (by decide)]
          exact off _ k5 g5 (no fun k m e _ al _ => by cases e; rw [al u (List.mem_of_getElem? hu)] at hb; cases hb)
      · refine ⟨_, rfl, ?_⟩
        rw [if_neg (by decide)]
        rw [rr.len, List.take_length] at ha
        have al : ∀ u ∈ us, isSl u = true := List.all_eq_true.mp ha
        have e3 := k3.get hG eb
        refine ⟨_, rfl, b, rfl, ⟨ys, SqT.of e3⟩, fun D hD => ?_⟩
        have nD : ∀ P ∈ Ts, P ∉ [D] := fun P m e => g3.ne0 hD (List.mem_singleton.mp e ▸ m)
        refine lc_tup (K := K) (a := b) (xs := ys) (fun i Hx => Kp Ts H' Hx ∧ Tabs Ts Hx ∧ Hx D = some (.lst (((us.take i).map keyT).map V.str)))
          ⟨Kp.new hD _, g3.new hD _, upd_same⟩ (fun i Hx _ ⟨k, _, _⟩ => SqT.of (k.get g3 e3)) (fun i x Hx hx ⟨k4, g4, a4⟩ => ?_) (fun Hx ⟨k4, g4, a4⟩ => ?_)
        · obtain ⟨u, hu, Ru⟩ := rr.get hx
          obtain ⟨ky, mk, rfl, _, _⟩ := isSl_two (al u (List.mem_of_getElem? hu))
          have Ru := (Ru.tabs k3 hG).tabs k4 g3
          cases Ru with
          | @tup p xs ts e5 r5 =>
            cases r5 with
            | cons r6 r7 =>
              cases r7 with
              | cons r8 r9 =>
                cases r6; cases r8; cases r9
                refine ⟨p, _, rfl, SqT.of e5, rfl, _, _, rfl, _, _, rfl, rfl, rfl, ?_⟩
                simp only [tYes, if_true]
                refine ⟨_, rfl, _, a4, by rw [List.length_map, List.length_map, List.length_take, sizeLine_eq, ← rr.len]; omega, Kp.upd k4 hD a4, g4.kp (Kp.lst a4 (List.mem_singleton.mpr rfl)) nD, ?_⟩
                rw [upd_same, List.take_add_one, hu]
                simp [keyT]
        · rw [rr.len, List.take_length] at a4
          refine ⟨D, us.map keyT, rfl, SqL.of a4, by rw [List.length_map, ← rr.len]; omega, fun z hz => ?_, fun H5 k5 => ?_⟩
          · obtain ⟨u, hu, rfl⟩ := List.mem_map.mp hz
            obtain ⟨ky, mk, rfl, h1, _⟩ := isSl_two (al u hu)
            exact strOk_ky h1
          · have y := q H5 ((k3.trans k4).trans k5.in0) (g4.kp0 k5)
            rw [show isCo (.tup [.str z, .tup us]) = (decide (us.length ≤ 32) && us.all isSl && asc (us.map keyT)) from rfl, ha, decide_eq_true (by rw [← rr.len]; exact ly), Bool.true_and, Bool.true_and] at y
            exact y
theorem ok_opened {C Pp : Addr} {Ts : List Addr} (F : Fun K "opened" "opened" s_opened f fd) (B : Blt mg) (T : Err K mg "BadText" C) (mp : Pp ∈ Ts) (c_decode : Cal P w K mg base (L2N.CX P w) 23 "decode" (spDec C Pp)) (c_is_content : Cal P w K mg base CX0 8 "_is_content" (spCont Ts)) :
    FnOk P w K mg base (L2N.CX P w) 24 f fd ["sealed"] (spOpen C Ts) := by
  refine F.okXN sc_opened (fun vs H Q E h => ?_) (fun cdv A outer s H vs Q E hr h => ?_)
  · obtain ⟨v, rfl, _⟩ := h; rfl
  obtain ⟨v, rfl, ht, hz, hG, q, qe⟩ := h
  have T : OpT K mg C := ⟨T⟩
  refine ⟨_, (pss_cons (ps_set (i := 1) sc_opened.nd rfl (Or.inl rfl) (c_decode.pex hr (passXN (L2N.takes_of rfl rfl rfl rfl) fun _ _ _ _ h => h) (pa_cons (pv 0) pa_nil)))
    (pss_cons (ps_if (pt_not (pt_val (c_is_content.pe hr (pa_cons (pv 1) pa_nil)))) (pss_one (T.bad.raiseN (L2N.takes_of rfl rfl rfl rfl))) pss_nil)
    (pss_one (ps_ret (pv 1))))), ?_⟩
  walk_at "wp"
  refine ⟨v, rfl, ht, hz, hG _ mp, fun z t e l1 l2 l3 u H' k1 g1 R => ?_, fun n H' k1 g1 => qe (fun z t e o => n z t e o.1 o.2.1 o.2.2.1) H' (k1.in1 mp) (hG.kp1 k1 g1)⟩
  have k2 := k1.in1 mp
  have g2 := hG.kp1 k1 g1
  have ⟨pe, pb⟩ := pval_back 8 _ _ _ l3
  have hp : pl 8 t = true := pb (by
    unfold prn at l2
    rw [List.all_eq_true] at l2; exact l2)
  have hl : (txt t).length ≤ 1000000 := by
    have := congrArg List.length pe
    rw [List.append_nil, ← TL.len_tl] at this
    omega
  refine ⟨u, t, rfl, R, sml_of 8 t hp hl, g2, fun H2 k3 g3 => ⟨_, rfl, ?_⟩⟩
  split
  · rename_i c
    refine qe (fun z' t' e' o => ?_) H2 (k2.trans k3) g3
    rw [e] at e'; cases e'
    obtain ⟨_, _, o3, o4⟩ := o
    rw [l3] at o3; cases o3
    rw [c] at o4; cases o4
  · rename_i c
    exact q z t e ⟨l1, l2, l3, by simpa using c⟩ u H2 (k2.trans k3) g3 (R.tabs k3 g2)
end
/-! support -/
abbrev s_support : Stmt := top 78
abbrev N_support : List Str := ["office", "sealed", "keys", "text", "seals"]
theorem sc_support : FnScope N_support ["office", "sealed", "keys"] (defScope s_support) := ⟨rfl, rfl, rfl, by decide +kernel, rfl, by decide +kernel, by decide +kernel⟩
/-- the mark of a seal -/
def markT : Tr → Str
  | .tup (_ :: .str m :: _) => m
  | _ => Str.empty
/-- the seals that count -/
def suC (made : List (Str × Str)) (keys : List Str) (z : Str) (s : Tr) : Bool := decide (keyT s ∈ keys) && hoV made (.str (keyT s)) (.str z) (.str (markT s))
def suN (made : List (Str × Str)) (keys : List Str) (z : Str) (ss : List Tr) : Nat := ss.countP (suC made keys z)
def spSupp (C C0 : Addr) (Ts : List Addr) (K : PySem.W.Frag) : Sp := fun vs H Q E => ∃ (o dm ks : Addr) (made : List (Str × Str)) (v : V) (keys : List Str), vs = [.ref o, v, .ref ks] ∧ Ofc C o dm made H ∧ (∃ t, tyN H v = some t) ∧ (∀ z, v = .str z → z.length ≤ 10000000) ∧ Tabs Ts H ∧
  (SqL K H ks (keys.map V.str) ∨ SqT K H ks (keys.map V.str)) ∧
  (∀ x z ss, v = .str x → opn x (.tup [.str z, .tup ss]) → ∀ H', Kp Ts H H' → Tabs Ts H' → Q (.int (suN made keys z ss)) H') ∧ ((∀ x t, v = .str x → ¬ opn x t) → ∀ H', Kp Ts H H' → Tabs Ts H' → E (.ref C0) none H')
theorem Kp.seqT {K : PySem.W.Frag} {Ts : List Addr} {H H' : Hp} {a : Addr} {xs : List V} (k : Kp Ts H H') (g : Tabs Ts H) (h : SqT K H a xs) : SqT K H' a xs := by
  rcases h with (h | ⟨o, h⟩) | h
  · exact .inl (.inl (k.get g h))
  · exact .inl (.inr ⟨o, k.get g h⟩)
  · exact .inr h
theorem flat_strs : ∀ keys : List Str, (keys.map V.str).all flatV = true
  | [] => rfl
  | _ :: r => flat_strs r
theorem inV_strs (k : Str) : ∀ keys : List Str, L2.inV (V.str k) (keys.map V.str) = decide (k ∈ keys)
  | [] => rfl
  | y :: r => by
    show (eqV (.str y) (.str k) || L2.inV (V.str k) (r.map V.str)) = _
    rw [inV_strs k r, Bool.eq_iff_iff, Bool.or_eq_true, decide_eq_true_eq, decide_eq_true_eq, List.mem_cons, show eqV (V.str y) (.str k) = (y == k) from rfl, beq_iff_eq]
    exact or_congr_left eq_comm
section
variable {P : Program} {w : World} {K : PySem.W.Frag} {mg : Str → Option Value} {base : Heap} {f : Addr} {fd : FuncData} {C C0 : Addr} {Ts : List Addr}
theorem ok_support {oc kV doc pm ct : Value} {od an : Option Addr} {osl : Array (Option Value)} {c Pt : Addr} (B : Blt mg) (zsum : mg "sum" = none) (TB : GxR.TabB base mg c Pt) (mt : Pt ∈ Ts)
    (lk : K.lookup f = some ⟨oc, od, .func (PySem.W.fnOf "support" "support" (defArgs s_support) (defBody s_support) (defScope s_support) .none kV doc pm an (.ref c) ct), osl⟩) (hcd : PySem.W.codeIn K (.ref c) "support" = true)
    (c_opened : Cal P w K mg base (L2.CX P w) 24 "opened" (spOpen C0 Ts)) (m_holds : CalM P w K mg base CX0 1 C "holds" (spHolds C)) :
    FnOk P w K mg base (L2.CX P w) 25 f (PySem.W.fnOf "support" "support" (defArgs s_support) (defBody s_support) (defScope s_support) .none kV doc pm an (.ref c) ct) ["office", "sealed", "keys"] (spSupp C C0 Ts K) := by
  refine fn_of (CX := L2.CX P w) lk hcd sc_support (fun vs H Q E h => ?_) (fun A outer s H vs Q E hr h => ?_)
  · obtain ⟨o, dm, ks, made, v, keys, rfl, _⟩ := h; rfl
  obtain ⟨o, dm, ks, made, v, keys, rfl, hO, ht, hz, hG, hk, q, qe⟩ := h
  refine ⟨_, (pss_cons (ps_asg (c_opened.pex hr (passX (takes_of rfl rfl rfl rfl) fun _ _ _ _ h => h) (pa_cons (pv 1) pa_nil)) (pg_tup rfl (pgs_cons (pg_name (i := 3) sc_support.nd rfl (Or.inr rfl)) (pgs_cons (pg_name (i := 4) sc_support.nd rfl (Or.inl rfl)) pgs_nil))))
    (pss_one (ps_ret (pe_sumG (N := ["key", "mark", "keys", "text", "office"]) (nt := 2) (fr := [2, 3, 0]) (g := gTup _ 2 (gCons (gName 0) (gCons (gName 1) (gNil)))) rfl hr zsum TB rfl (gnOf (by decide +kernel)) (by show freeOk _ (defScope s_support) = true; decide +kernel) (by show capOk _ _ _ N_support _ (defScope s_support) = true; decide +kernel)
      (pi_tup (pv 4)) (fun _ _ _ _ _ hr => (pg_tup rfl (pgs_cons (pg_name (i := 0) (by show List.Nodup (["key", "mark", "keys", "text", "office"] : List Str); decide +kernel) rfl (Or.inl rfl)) (pgs_cons (pg_name (i := 1) (by show List.Nodup (["key", "mark", "keys", "text", "office"] : List Str); decide +kernel) rfl (Or.inl rfl)) pgs_nil)))) (fun _ _ _ _ _ hr => pts_one (PW.pt (pw_and (pt_cmpR (show OpR _ _ (rIn K false) from op_in_seq) (pv 0) (pv 2) (by rfl)) (pw_and1 (pt_val (m_holds.pe hr (pv 4) (pa_cons (pv 0) (pa_cons (pv 3) (pa_cons (pv 1) pa_nil))))))))) (fun _ _ _ _ _ hr => pe_int) (fun _ => rfl))))), ?_⟩
  walk_at "wp"
  refine ⟨v, rfl, ht, hz, hG, fun x t e o1 u H1 k1 g1 hR => ?_, fun n H1 k1 g1 => qe n H1 k1 g1⟩
  obtain ⟨z, ss, rfl, c1, c2, c3⟩ := isCo_two o1.2.2.2
  obtain ⟨a, xs, eu, ea, r⟩ : ∃ a xs, u = .ref a ∧ H1 a = some (.tup xs) ∧ RepAll H1 xs [.str z, .tup ss] := by
    cases hR with
    | tup e r => exact ⟨_, _, rfl, e, r⟩
  subst eu
  cases r with
  | cons r1 r =>
  cases r with
  | cons r2 r =>
  cases r
  cases r1
  cases r2 with
  | @tup b ys _ eb rr =>
  have l8 : pl 8 (.tup [.str z, .tup ss]) = true := (pval_back 8 _ _ _ o1.2.2.1).2 (by have := o1.2.1; unfold prn at this; exact List.all_eq_true.mp this)
  refine ⟨a, _, rfl, SqT.of ea, rfl, _, _, rfl, _, _, rfl, rfl, ?_⟩
  refine ⟨_, rfl, b, rfl, ⟨ys, SqT.of eb⟩, g1 _ mt, fun H2 hT => ?_⟩
  have g2 := g1.tab hT mt
  have k2 : Kp Ts H1 H2 := Kp.tab (g1 _ mt) hT mt
  refine sum_tup (K := K) (a := b) (xs := ys) (fun i n σ H' => n = (suN made keys z (ss.take i) : Nat) ∧ (∃ q1 q2 : Option V, σ = [q1, q2, some (.ref ks), some (.str z), some (.ref o)]) ∧ Kp Ts H1 H' ∧ Tabs Ts H')
    ⟨rfl, ⟨_, _, rfl⟩, k2, g2⟩ (fun i n σ H' _ ⟨_, _, k, _⟩ => SqT.of (k.get g1 eb)) (fun i n y σ H' hy ⟨hn, ⟨q1, q2, hσ⟩, k3, g3⟩ => ?_) (fun n σ H' ⟨hn, ⟨q1, q2, hσ⟩, k3, g3⟩ => ?_)
  · subst hσ
    obtain ⟨s1, hs1, Rs⟩ := rr.get hy
    have tk : ss.take (i + 1) = ss.take i ++ [s1] := by rw [List.take_add_one, hs1]; rfl
    obtain ⟨ky, mk, rfl, _, _⟩ := isSl_two (c2 s1 (List.mem_of_getElem? hs1))
    have li : i < ss.length := (List.getElem?_eq_some_iff.mp hs1).1
    have le : suN made keys z (ss.take i) ≤ 32 := Nat.le_trans (List.countP_le_length) (by rw [List.length_take]; omega)
    have Rs := Rs.tabs k3 g1
    cases Rs with
    | @tup d _ _ ed rs =>
    cases rs with
    | cons q1 rs =>
    cases rs with
    | cons q2 rs =>
    cases rs; cases q1; cases q2
    refine ⟨d, _, rfl, SqT.of ed, rfl, _, _, rfl, _, _, rfl, rfl, ?_⟩
    walk_at "wp"
    have hk' : SqL K H' ks (keys.map V.str) ∨ SqT K H' ks (keys.map V.str) := hk.imp (fun h => (k1.trans k3).seqs hG h) fun h => (k1.trans k3).seqT hG h
    have ad : suN made keys z (ss.take (i + 1)) = suN made keys z (ss.take i) + if suC made keys z (.tup [.str ky, .str mk]) = true then 1 else 0 := by
      rw [tk]; unfold suN; rw [List.countP_append, List.countP_singleton]
    refine ⟨ks, _, rfl, hk', rfl, flat_strs keys, _, rfl, ?_⟩
    rw [if_neg Bool.false_ne_true, inV_strs]
    have ec : suC made keys z (.tup [.str ky, .str mk]) = (decide (ky ∈ keys) && hoV made (.str ky) (.str z) (.str mk)) := rfl
    split
    · rename_i h1
      obtain ⟨⟨dx, ho⟩, hd⟩ := hO
      have ho' := k3.get g1 (k1.get hG ho)
      have hd' := k3.get g1 (k1.get hG hd)
      refine ⟨dx, _, ho', rfl, o, dm, made, _, _, _, rfl, ⟨⟨dx, ho'⟩, hd'⟩, ⟨_, rfl⟩, ⟨_, rfl⟩, ⟨_, rfl⟩, fun H4 k4 => ⟨_, rfl, ?_⟩⟩
      rw [h1, Bool.true_and] at ec
      split
      · rename_i h2
        rw [ec, h2, if_pos rfl] at ad
        exact ⟨⟨by decide, by decide⟩, ⟨by omega, by omega⟩, by rw [ad, hn]; rfl, ⟨_, rfl⟩, k3.trans k4.in0, g3.kp0 k4⟩
      · rename_i h2
        rw [ec, if_neg h2] at ad
        exact ⟨by rw [ad, hn]; rfl, ⟨_, rfl⟩, k3.trans k4.in0, g3.kp0 k4⟩
    · rename_i h1
      have h1 : decide (ky ∈ keys) = false := by simpa using h1
      rw [ec, h1, Bool.false_and, if_neg (by decide)] at ad
      exact ⟨by rw [ad, hn]; rfl, ⟨_, rfl⟩, k3, g3⟩
  · subst hσ
    rw [hn, rr.len, List.take_length]
    exact q x z ss e o1 H' (k1.trans k3) g3
end
/-! k14, k17: each key once -/
def lstS (l : List Str) : Str := l.getLast?.getD (Str.ofString "")
theorem asc_snocN {k : Str} : ∀ l : List Str, l ≠ [] → asc (l ++ [k]) = (asc l && lt (lstS l) k)
  | [], h => absurd rfl h
  | [x], _ => by
    show (lt x k && (true && true)) = ((true && true) && lt x k)
    cases lt x k <;> rfl
  | x :: y :: r, _ => by
    have ih := asc_snocN (k := k) (y :: r) (by simp)
    show (lt x y && asc ((y :: r) ++ [k])) = ((lt x y && asc (y :: r)) && lt (lstS (x :: y :: r)) k)
    rw [ih, show lstS (x :: y :: r) = lstS (y :: r) from rfl, Bool.and_assoc]
theorem rise_next : ∀ (p : Str) (l : List Str) (j : Nat) (x y : Str), PyProof.Rows.risingS p l = true → (p :: l)[j]? = some x → (p :: l)[j + 1]? = some y → lt y x = false
  | p, [], j, x, y, _, _, h => by cases j <;> cases h
  | p, z :: r, 0, x, y, h, hx, hy => by
    have h : (!PySem.Spec.ltCps z.cps.toList p.cps.toList && PyProof.Rows.risingS z r) = true := h
    rw [Bool.and_eq_true] at h
    cases hx; cases hy
    simpa [lt, TL.tl] using h.1
  | p, z :: r, j + 1, x, y, h, hx, hy => by
    have h : (!PySem.Spec.ltCps z.cps.toList p.cps.toList && PyProof.Rows.risingS z r) = true := h
    rw [Bool.and_eq_true] at h
    exact rise_next z r j x y h.2 hx hy
theorem sorted_next {l : List Str} {j : Nat} {x y : Str} (h : PyProof.Rows.sortedS l = true) (hx : l[j]? = some x) (hy : l[j + 1]? = some y) : lt y x = false := by
  cases l with
  | nil => cases hx
  | cons p r => exact rise_next p r j x y h hx hy
/-- what is kept of the first i -/
structure Kept (ys : List Str) (i : Nat) (zs : List Str) : Prop where
  a : asc zs = true
  m : ∀ z, z ∈ zs ↔ z ∈ ys.take i
  n : zs.length ≤ i
  l : (zs = [] ∧ i = 0) ∨ ∃ j, i = j + 1 ∧ zs ≠ [] ∧ ys[j]? = some (lstS zs)
theorem Kept.step {ys zs : List Str} {i : Nat} {y : Str} (k : Kept ys i zs) (s : PyProof.Rows.sortedS ys = true) (h : ys[i]? = some y) (d : zs = [] ∨ lstS zs ≠ y) : Kept ys (i + 1) (zs ++ [y]) := by
  have tk : ys.take (i + 1) = ys.take i ++ [y] := by rw [List.take_add_one, h]; rfl
  refine ⟨?_, fun z => ?_, by rw [List.length_append, List.length_singleton]; exact Nat.succ_le_succ k.n, .inr ⟨i, rfl, by simp, by unfold lstS; rw [List.getLast?_append]; simpa using h⟩⟩
  · rcases k.l with ⟨e, _⟩ | ⟨j, rfl, ne, hj⟩
    · rw [e]; rfl
    · rw [asc_snocN zs ne, k.a, Bool.true_and]
      rcases lt_tri (lstS zs) y with e | e | e
      · rcases d with d | d
        · exact absurd d ne
        · exact absurd e d
      · exact e
      · rw [sorted_next s hj h] at e; cases e
  · rw [tk, List.mem_append, List.mem_append, k.m]
/-! the law's own text and comparison -/
/-! the laws' own keys, words, marks -/
/-- the lowest k hexadecimal signs of n -/
def ldx : Nat → Nat → List Nat
  | 0, _ => []
  | k + 1, n => (Nat.digitChar (n / 16 ^ k % 16)).toNat :: ldx k n
theorem ldx_snoc : ∀ (k n : Nat), ldx (k + 1) n = ldx k (n / 16) ++ [(Nat.digitChar (n % 16)).toNat]
  | 0, n => by
    show [(Nat.digitChar (n / 16 ^ 0 % 16)).toNat] = _
    rw [Nat.pow_zero, Nat.div_one]; rfl
  | k + 1, n => by
    show (Nat.digitChar (n / 16 ^ (k + 1) % 16)).toNat :: ldx (k + 1) n = _
    rw [ldx_snoc k n]
    show _ = (Nat.digitChar (n / 16 / 16 ^ k % 16)).toNat :: ldx k (n / 16) ++ _
    rw [Nat.div_div_eq_div_mul, ← Nat.pow_succ']
    rfl
theorem ldx_zero : ∀ k, ldx k 0 = List.replicate k 48
  | 0 => rfl
  | k + 1 => by
    show (Nat.digitChar (0 / 16 ^ k % 16)).toNat :: ldx k 0 = _
    rw [Nat.zero_div, ldx_zero k]; rfl
theorem ldx_hx : ∀ (k n : Nat), n < 16 ^ (k + 1) → List.replicate (k + 1 - (hxT n).length) 48 ++ hxT n = ldx (k + 1) n
  | 0, n, h => by
    have h : n < 16 := h
    rw [hxT_one h, ldx_snoc, Nat.mod_eq_of_lt h]; rfl
  | k + 1, n, h => by
    rw [ldx_snoc]
    by_cases c : n < 16
    · rw [hxT_one c, Nat.div_eq_of_lt c, ldx_zero, Nat.mod_eq_of_lt c]
      rfl
    · have ih := ldx_hx k (n / 16) (by rw [Nat.pow_succ] at h; exact Nat.div_lt_of_lt_mul (by omega))
      rw [← ih, hxT_snoc c, List.length_append, List.append_assoc]
      congr 2
      show k + 1 + 1 - ((hxT (n / 16)).length + 1) = _
      omega
theorem ldx_len : ∀ (k n : Nat), (ldx k n).length = k
  | 0, _ => rfl
  | k + 1, n => by show (ldx k n).length + 1 = _; rw [ldx_len k n]
theorem hx18_ldx {n : Nat} (h : n < dgD) : hx18 n = ldx 18 n := ldx_hx 17 n (Nat.lt_trans h (by decide))
/-! plain trees and their sizes -/
def okT (d : Nat) (t : Tr) (n : Nat) : Prop := pl d t = true ∧ sml t = true ∧ (txt t).length ≤ n
theorem okT_str {d m : Nat} {z : Str} (p : prn z = true) (h : z.length ≤ m) (hm : m ≤ 1000) : okT d (.str z) (m + 21) := by
  refine ⟨by cases d <;> exact p, decide_eq_true (show z.length ≤ 10000000 by omega), ?_⟩
  have := dig_len (n := z.length) (by omega)
  show (dig z.length ++ 58 :: TL.tl z).length ≤ _
  rw [List.length_append, List.length_cons, ← TL.len_tl]
  omega
theorem okT.le {d n m : Nat} {t : Tr} (h : okT d t n) (l : n ≤ m) : okT d t m := ⟨h.1, h.2.1, Nat.le_trans h.2.2 l⟩
theorem okT_all {d n : Nat} : ∀ {ts : List Tr}, (∀ t ∈ ts, okT d t n) → pls d ts = true ∧ smls ts = true ∧ (txts ts).length ≤ ts.length * n
  | [], _ => ⟨rfl, rfl, by simp [txts]⟩
  | t :: ts, h => by
    obtain ⟨a1, a2, a3⟩ := h t List.mem_cons_self
    obtain ⟨b1, b2, b3⟩ := okT_all fun u m => h u (List.mem_cons_of_mem _ m)
    refine ⟨by show (pl d t && pls d ts) = true; rw [a1, b1]; rfl, by show (sml t && smls ts) = true; rw [a2, b2]; rfl, ?_⟩
    show (txt t ++ txts ts).length ≤ (ts.length + 1) * n
    rw [List.length_append, Nat.succ_mul]; omega
theorem okT_tup {d n m : Nat} {ts : List Tr} (h : ∀ t ∈ ts, okT d t n) (l : ts.length ≤ m) (hm : m ≤ 1000) : okT (d + 1) (.tup ts) (m * n + 2) := by
  obtain ⟨b1, b2, b3⟩ := okT_all h
  refine ⟨b1, by show (smls ts && decide (ts.length ≤ 1000000)) = true; rw [b2, decide_eq_true (by omega)]; rfl, ?_⟩
  show (91 :: (txts ts ++ [93])).length ≤ _
  rw [List.length_cons, List.length_append, List.length_singleton]
  have := Nat.mul_le_mul_right n l
  omega
/-- a pair, near a seal, or whatever -/
def Fine (H : Hp) (x : V) (d n : Nat) : Prop := ∃ t, Rep H x t ∧ okT d t n
theorem Fine.any {S : List Addr} {H H' : Hp} {x : V} {d n : Nat} (k : Kp S H H') (g : Fine H x d n) : Fine H' x d n :=
  let ⟨t, a, b⟩ := g
  ⟨t, a.any k (pl_pure _ _ b.1), b⟩
theorem Fine.le {H : Hp} {x : V} {d n m : Nat} (g : Fine H x d n) (l : n ≤ m) : Fine H x d m :=
  let ⟨t, a, b⟩ := g
  ⟨t, a, b.le l⟩
/-! documents: tuples, roles -/
abbrev s_is_tuple_of : Stmt := top 64
abbrev N_is_tuple_of : List Str := ["value", "many"]
theorem sc_is_tuple_of : FnScope N_is_tuple_of ["value", "many"] (defScope s_is_tuple_of) := ⟨rfl, rfl, rfl, by decide +kernel, rfl, by decide +kernel, by decide +kernel⟩
abbrev s_is_tuple_within : Stmt := top 65
abbrev N_is_tuple_within : List Str := ["value", "least", "most"]
theorem sc_is_tuple_within : FnScope N_is_tuple_within ["value", "least", "most"] (defScope s_is_tuple_within) := ⟨rfl, rfl, rfl, by decide +kernel, rfl, by decide +kernel, by decide +kernel⟩
abbrev s_is_role : Stmt := top 53
abbrev N_is_role : List Str := ["value", "threshold", "keys"]
theorem sc_is_role : FnScope N_is_role ["value"] (defScope s_is_role) := ⟨rfl, rfl, rfl, by decide +kernel, rfl, by decide +kernel, by decide +kernel⟩
def kyD : PyData → Bool
  | .str z => kyS z
  | _ => false
/-- a role -/
def isRole (d : PyData) : Bool := tupB 2 2 d && (tupB 1 16 (ixD d 1) && ((itD (ixD d 1)).all kyD && (asc ((itD (ixD d 1)).map strD) && numB 1 ((itD (ixD d 1)).length : Nat) (ixD d 0))))
def spTOf : Sp := fun vs H Q _ => ∃ (v : V) (d : PyData) (m : Nat), vs = [v, .int m] ∧ Rq H v d ∧ Q (.bl (tupB m m d)) H
def spTIn : Sp := fun vs H Q _ => ∃ (v : V) (d : PyData) (a b : Nat), vs = [v, .int a, .int b] ∧ Rq H v d ∧ Q (.bl (tupB a b d)) H
def spDoc (f : PyData → Bool) (Ts : List Addr) : Sp := fun vs H Q _ => ∃ (v : V) (d : PyData), vs = [v] ∧ Rq H v d ∧ okD 12 d = true ∧ Tabs Ts H ∧ ∀ H', Kp Ts H H' → Tabs Ts H' → Q (.bl (f d)) H'
structure DcC (mg : Str → Option Value) : Prop where
  c_MOST_KEYS : ∃ t, mg "MOST_KEYS" = some (.int 16 t)
theorem kyD_of {H : Hp} {v : V} {d : PyData} (r : Rq H v d) : kyV v = kyD d := by cases r <;> rfl
theorem ok_szV {n : Nat} {H : Hp} {v : V} {d : PyData} (r : Rq H v d) (h : okD n d = true) : szV v := by
  cases r with
  | str z =>
    have := (okD_str.mp h).1
    show z.length ≤ sizeLine
    rw [sizeLine_eq]; omega
  | _ => exact True.intro
theorem kyD_s {d : PyData} (h : kyD d = true) : isS d = true := by cases d <;> first | rfl | cases h
theorem strOk_kyD {d : PyData} (h : kyD d = true) : PyData.strOk (strD d) = true := by
  cases d with
  | str z => exact strOk_ky h
  | _ => cases h
theorem inV_rq {lo hi : Int} {H : Hp} {v : V} {d : PyData} (r : Rq H v d) : inV lo hi v = numB lo hi d := by cases r <;> rfl
section
variable {P : Program} {w : World} {K : PySem.W.Frag} {mg : Str → Option Value} {base : Heap} {f : Addr} {fd : FuncData}
theorem ok_tof (F : Fun K "_is_tuple_of" "_is_tuple_of" s_is_tuple_of f fd) (B : Blt mg) : FnOk P w K mg base CX0 1 f fd ["value", "many"] spTOf := by
  refine F.ok sc_is_tuple_of (fun vs H Q E h => ?_) (fun cdv A outer s H vs Q E hr h => ?_)
  · obtain ⟨v, d, m, rfl, _⟩ := h; rfl
  obtain ⟨v, d, m, rfl, hR, q⟩ := h
  refine ⟨_, (pss_one (ps_ret (pe_and (B.isT (pv 0) B.v_tuple) (pe_one (pe_cmpR op_eq (B.len_q (pa_cons (pv 0) pa_nil)) (pv 1) (nomark _)))))), ?_⟩
  walk_at "wp"
  refine ⟨_, hR.ty, ?_⟩
  cases hR with
  | tup e r =>
    rename_i a xs ds
    dsimp only [tyD]
    walk_at "wp"
    refine ⟨xs, .inr (SqT.of e), ?_⟩
    rw [show decide ((xs.length : Int) = (m : Int)) = tupB m m (.tuple ds) by
      rw [r.len]
      show _ = (decide (m ≤ ds.length) && decide (ds.length ≤ m))
      rw [Bool.eq_iff_iff, Bool.and_eq_true, decide_eq_true_eq, decide_eq_true_eq, decide_eq_true_eq]
      omega]
    exact q
  | _ => dsimp only [tyD]; walk_at "wp"; exact q
theorem ok_tin (F : Fun K "_is_tuple_within" "_is_tuple_within" s_is_tuple_within f fd) (B : Blt mg) : FnOk P w K mg base CX0 1 f fd ["value", "least", "most"] spTIn := by
  refine F.ok sc_is_tuple_within (fun vs H Q E h => ?_) (fun cdv A outer s H vs Q E hr h => ?_)
  · obtain ⟨v, d, a, b, rfl, _⟩ := h; rfl
  obtain ⟨v, d, a, b, rfl, hR, q⟩ := h
  refine ⟨_, (pss_one (ps_ret (pe_and (B.isT (pv 0) B.v_tuple) (pe_one (pe_chain op_le op_le (pv 1) (B.len_q (pa_cons (pv 0) pa_nil)) (pv 2)))))), ?_⟩
  walk_at "wp"
  refine ⟨_, hR.ty, ?_⟩
  cases hR with
  | tup e r =>
    rename_i p xs ds
    dsimp only [tyD]
    walk_at "wp"
    refine ⟨xs, .inr (SqT.of e), ?_⟩
    rw [r.len]
    have y : Q (.bl (decide (a ≤ ds.length) && decide (ds.length ≤ b))) H := q
    split
    · rename_i c
      rw [decide_eq_true (by omega), Bool.true_and] at y
      rw [show decide ((ds.length : Int) ≤ (b : Int)) = decide (ds.length ≤ b) from decide_eq_decide.mpr (by omega)]
      exact y
    · rename_i c
      rw [decide_eq_false (by omega), Bool.false_and] at y
      exact y
  | _ => dsimp only [tyD]; walk_at "wp"; exact q
theorem ok_role {oc kV doc pm ct : Value} {od an : Option Addr} {osl : Array (Option Value)} {c Pt Pc : Addr} {Ts : List Addr} (B : Blt mg) (TB : GxR.TabB base mg c Pt) (D : DcC mg) (mt : Pt ∈ Ts) (mc : Pc ∈ Ts)
    (lk : K.lookup f = some ⟨oc, od, .func (PySem.W.fnOf "is_role" "is_role" (defArgs s_is_role) (defBody s_is_role) (defScope s_is_role) .none kV doc pm an (.ref c) ct), osl⟩) (hcd : PySem.W.codeIn K (.ref c) "is_role" = true)
    (c_is_tuple_of : Cal P w K mg base CX0 1 "_is_tuple_of" spTOf) (c_is_tuple_within : Cal P w K mg base CX0 1 "_is_tuple_within" spTIn) (c_is_key : Cal P w K mg base CX0 4 "is_key" (spNm kyV Pc)) (c_ascends : Cal P w K mg base CX0 1 "ascends" (spAsc K)) (c_is_integer : Cal P w K mg base CX0 1 "is_integer" spIntg) :
    FnOk P w K mg base CX0 8 f (PySem.W.fnOf "is_role" "is_role" (defArgs s_is_role) (defBody s_is_role) (defScope s_is_role) .none kV doc pm an (.ref c) ct) ["value"] (spDoc isRole Ts) := by
  refine fn_of lk hcd sc_is_role (fun vs H Q E h => ?_) (fun A outer s H vs Q E hr h => ?_)
  · obtain ⟨v, d, rfl, _⟩ := h; rfl
  obtain ⟨v, d, rfl, hR, ho, hG, q⟩ := h
  refine ⟨_, PSs.nox (pss_cons (ps_if (pt_not (pt_val (c_is_tuple_of.pe hr (pa_cons (pv 0) (pa_cons pe_int pa_nil))))) (pss_one (ps_ret pe_bl)) pss_nil)
    (pss_cons (ps_asg (pv 0) (pg_tup rfl (pgs_cons (pg_name (i := 1) sc_is_role.nd rfl (Or.inl rfl)) (pgs_cons (pg_name (i := 2) sc_is_role.nd rfl (Or.inl rfl)) pgs_nil))))
    (pss_cons (ps_if (PW.pt (pw_or (pt_not (pt_val (c_is_tuple_within.pe hr (pa_cons (pv 2) (pa_cons pe_int (pa_cons (pe_cE D.c_MOST_KEYS) pa_nil)))))) (pw_or1 (pt_not (pt_val (pe_allG (N := ["key"]) (nt := 1) (fr := []) rfl hr B TB rfl (gnOf (by decide +kernel)) (by show freeOk _ (defScope s_is_role) = true; decide +kernel) (by show capOk _ _ _ N_is_role _ (defScope s_is_role) = true; decide +kernel)
      (pi_tup (pv 2)) (fun _ _ _ _ _ hr => (pg_name (i := 0) (by show List.Nodup (["key"] : List Str); decide +kernel) rfl (Or.inl rfl))) (fun _ _ _ _ _ hr => pts_nil) (fun _ _ _ _ _ hr => (c_is_key.pe hr (pa_cons (pv 0) pa_nil))) (fun _ => rfl))))))) (pss_one (ps_ret pe_bl)) pss_nil)
    (pss_one (ps_ret (pe_and (c_ascends.pe hr (pa_cons (B.list_q (pa_cons (pv 2) pa_nil)) pa_nil)) (pe_one (c_is_integer.pe hr (pa_cons (pv 1) (pa_cons pe_int (pa_cons (B.len_q (pa_cons (pv 2) pa_nil)) pa_nil))))))))))), ?_⟩
  walk_at "wp"
  have off : isRole d = false → ∀ H', Kp Ts H H' → Tabs Ts H' → Q (.bl false) H' := fun h H' k g => by have y := q H' k g; rw [h] at y; exact y
  refine ⟨v, d, 2, rfl, hR, _, rfl, ?_⟩
  cases h1 : tupB 2 2 d with
  | false =>
    rw [if_pos rfl]
    exact off (by unfold isRole; rw [h1]; rfl) H (Kp.refl _ _) hG
  | true =>
  obtain ⟨p, xs, ds, rfl, ep, rfl, r, l1, l2⟩ := tupB_of hR h1
  obtain ⟨x0, x1, d0, d1, rfl, rfl, R0, R1⟩ := rq2 r (by omega)
  rw [if_neg (by decide)]
  obtain ⟨o1, o2⟩ := okD_tup.mp ho
  have ok0 := o2 d0 List.mem_cons_self
  have ok1 := o2 d1 (List.mem_cons_of_mem _ List.mem_cons_self)
  refine ⟨p, _, rfl, SqT.of ep, rfl, x0, _, rfl, x1, _, rfl, rfl, ?_⟩
  walk_at "wp"
  have e1 : isRole (.tuple [d0, d1]) = (tupB 1 16 d1 && ((itD d1).all kyD && (asc ((itD d1).map strD) && numB 1 ((itD d1).length : Nat) d0))) := rfl
  rw [e1] at off q
  refine ⟨x1, d1, 1, 16, rfl, R1, _, rfl, ?_⟩
  cases h2 : tupB 1 16 d1 with
  | false =>
    rw [if_pos rfl]
    exact off (by rw [h2]; rfl) H (Kp.refl _ _) hG
  | true =>
  obtain ⟨b, ys, es, rfl, eb, rfl, rr, l3, l4⟩ := tupB_of R1 h2
  rw [h2, Bool.true_and, show itD (.tuple es) = es from rfl] at off q
  obtain ⟨o3, o4⟩ := okD_tup.mp ok1
  rw [if_neg (by decide)]
  refine ⟨_, rfl, b, rfl, ⟨ys, SqT.of eb⟩, hG _ mt, fun H2 hT => ?_⟩
  have g2 := hG.tab hT mt
  have k2 : Kp Ts H H2 := Kp.tab (hG _ mt) hT mt
  refine all_rq (K := K) (o := none) (cap := []) (f := kyD) (k2.get hG eb) (rr.tabs k2 hG) g2 (fun x d H' R hx md k3 g3 hq => ?_) (fun H3 k3 g3 h3 => ?_) (fun σ H3 k3 g3 h3 => ?_)
  · exact ⟨x, rfl, x, rfl, g3 _ mc, hx.tyx, ok_szV hx (o4 d md), fun H4 k4 g4 => by rw [kyD_of hx]; exact hq H4 (k4.in1 mc) (g3.kp1 k4 g4)⟩
  · refine ⟨_, rfl, ?_⟩
    rw [if_pos rfl]
    exact off (by rw [h3]; rfl) H3 (k2.trans k3) g3
  refine ⟨_, rfl, ?_⟩
  rw [if_neg (by decide)]
  have K3 := k2.trans k3
  rw [h3, Bool.true_and] at off q
  have al := List.all_eq_true.mp h3
  have ey : ys = (es.map strD).map V.str := rqa_strs rr fun d m => kyD_s (al d m)
  have e3 := K3.get hG eb
  refine ⟨b, rfl, ys, .inr (SqT.of e3), fun l hl => ⟨l, es.map strD, rfl, by rw [← ey]; exact SqL.of upd_same, by rw [List.length_map]; omega, fun z hz => ?_, fun H4 k4 => ⟨_, rfl, ?_⟩⟩⟩
  · obtain ⟨d, m, rfl⟩ := List.mem_map.mp hz
    exact strOk_kyD (al d m)
  have k5 : Kp [] H3 H4 := (Kp.new hl _).trans k4
  have g4 := g3.kp0 k5
  cases h4 : asc (es.map strD) with
  | false =>
    rw [if_neg (by decide)]
    exact off (by rw [h4]; rfl) H4 (K3.trans k5.in0) g4
  | true =>
  rw [if_pos rfl]
  rw [h4, Bool.true_and] at off q
  refine ⟨b, rfl, ys, .inr (SqT.of (k5.tup _ _ e3)), x0, _, _, rfl, ((R0.tabs K3 hG).kp0 k5).tyx, ?_⟩
  rw [inV_rq R0, rr.len]
  exact q H4 (K3.trans k5.in0) g4
end
/-! what a law asks of a value: numbers, tuples, texts that rise, roles -/
/-! documents as trees, and their texts -/
mutual
def trD : PyData → Tr
  | .int i => .int i
  | .str z => .str z
  | .tuple ds => .tup (trDs ds)
  | _ => .oth .non
def trDs : List PyData → List Tr
  | [] => []
  | d :: ds => trD d :: trDs ds
end
mutual
def dT : Tr → PyData
  | .int i => .int i
  | .str z => .str z
  | .tup ts => .tuple (dTs ts)
  | .oth _ => .none
def dTs : List Tr → List PyData
  | [] => []
  | t :: ts => dT t :: dTs ts
end
/-! a role that a law draws -/
/-- a role's keys -/
structure RoleOk (t : Int) (ks : List Str) : Prop where
  t1 : 1 ≤ t
  t2 : t ≤ (ks.length : Nat)
  n : ks.length ≤ 16
  ky : ∀ k ∈ ks, kyS k = true
  a : asc ks = true
def roleD (t : Int) (ks : List Str) : PyData := .tuple [.int t, .tuple (ks.map .str)]
theorem strs_rq {H : Hp} : ∀ ks : List Str, RqA H (ks.map V.str) (ks.map PyData.str)
  | [] => .nil
  | k :: r => .cons (.str k) (strs_rq r)
theorem RoleOk.rq {t : Int} {ks : List Str} {H : Hp} {p b : Addr} (e : H p = some (.tup [.int t, .ref b])) (e2 : H b = some (.tup (ks.map V.str))) : Rq H (.ref p) (roleD t ks) := .tup e (.cons (.int t) (.cons (.tup e2 (strs_rq ks)) .nil))
theorem strD_map (ks : List Str) : (ks.map PyData.str).map strD = ks := by
  rw [List.map_map]
  exact List.map_id ks
theorem RoleOk.is {t : Int} {ks : List Str} (h : RoleOk t ks) : isRole (roleD t ks) = true := by
  have h1 := h.t1
  have h2 := h.t2
  have h3 := h.n
  show (true && (tupB 1 16 (.tuple (ks.map .str)) && ((ks.map PyData.str).all kyD && (asc ((ks.map PyData.str).map strD) && numB 1 ((ks.map PyData.str).length : Nat) (.int t))))) = true
  rw [show tupB 1 16 (.tuple (ks.map .str)) = true by
    show (decide (1 ≤ (ks.map PyData.str).length) && decide ((ks.map PyData.str).length ≤ 16)) = true
    rw [List.length_map, decide_eq_true (by omega), decide_eq_true (by omega)]; rfl]
  rw [show (ks.map PyData.str).all kyD = true by
    rw [List.all_map, List.all_eq_true]
    exact fun k m => h.ky k m]
  rw [strD_map, h.a, List.length_map]
  show (decide (1 ≤ t) && decide (t ≤ (ks.length : Nat))) = true
  rw [decide_eq_true h1, decide_eq_true h2]; rfl
/-! list names that a law draws -/
def lnD : PyData → Bool
  | .str z => lnS z
  | _ => false
theorem lnD_of {H : Hp} {v : V} {d : PyData} (r : Rq H v d) : lnV v = lnD d := by cases r <;> rfl
theorem ln_low {z : Str} (h : lnS z = true) : z.length ≤ 12 ∧ ∀ c ∈ z.cps.toList, c < 128 := by
  unfold lnS at h
  simp only [Bool.and_eq_true, decide_eq_true_eq] at h
  refine ⟨h.1.2, fun c hc => ?_⟩
  have h2 := h.2
  unfold inT at h2
  rw [List.all_eq_true] at h2
  exact (by decide +kernel : ∀ c ∈ (Str.ofString "abcdefghijklmnopqrstuvwxyz").cps.toList, c < 128) c (of_decide_eq_true (h2 c hc))
/-! [f(stream, k) for k in a list of texts] -/
inductive Al (P : Str → PyData → Prop) : List Str → List PyData → Prop
  | nil : Al P [] []
  | cons {k : Str} {ks : List Str} {d : PyData} {ds : List PyData} : P k d → Al P ks ds → Al P (k :: ks) (d :: ds)
theorem Al.app {P : Str → PyData → Prop} : ∀ {ks js : List Str} {ds es : List PyData}, Al P ks ds → Al P js es → Al P (ks ++ js) (ds ++ es)
  | _, _, _, _, .nil, h => h
  | _, _, _, _, .cons a b, h => .cons a (b.app h)
theorem Al.len {P : Str → PyData → Prop} : ∀ {ks : List Str} {ds : List PyData}, Al P ks ds → ks.length = ds.length
  | _, _, .nil => rfl
  | _, _, .cons _ b => congrArg (· + 1) b.len
theorem Al.mem {P : Str → PyData → Prop} : ∀ {ks : List Str} {ds : List PyData}, Al P ks ds → ∀ d ∈ ds, ∃ k ∈ ks, P k d
  | _, _, .nil, _, h => absurd h List.not_mem_nil
  | _, _, .cons a b, d, h => by
    rcases List.mem_cons.mp h with rfl | h
    · exact ⟨_, List.mem_cons_self, a⟩
    · obtain ⟨k, m, p⟩ := b.mem d h
      exact ⟨k, List.mem_cons_of_mem _ m, p⟩
theorem Al.map {P : Str → PyData → Prop} {f : PyData → Str} (hf : ∀ k d, P k d → f d = k) : ∀ {ks : List Str} {ds : List PyData}, Al P ks ds → ds.map f = ks
  | _, _, .nil => rfl
  | _, _, .cons a b => by rw [List.map_cons, hf _ _ a, b.map hf]
theorem flat_strsQ : ∀ keys : List Str, (keys.map V.str).all flatV = true
  | [] => rfl
  | _ :: r => flat_strsQ r
theorem inV_strsQ (k : Str) : ∀ keys : List Str, L2.inV (V.str k) (keys.map V.str) = decide (k ∈ keys)
  | [] => rfl
  | y :: r => by
    show (eqV (.str y) (.str k) || L2.inV (V.str k) (r.map V.str)) = _
    rw [inV_strsQ k r, Bool.eq_iff_iff, Bool.or_eq_true, decide_eq_true_eq, decide_eq_true_eq, List.mem_cons, show eqV (V.str y) (.str k) = (y == k) from rfl, beq_iff_eq]
    exact or_congr_left eq_comm
theorem cutD_tl (d : PyData) (ds : List PyData) : cutD (d :: ds) (some 1) none = ds := by
  unfold cutD
  rw [show (some (1 : Int)) = some ((1 : Nat) : Int) from rfl, HT.sIx_nat, HT.sIx_none, List.length_cons, show min 1 (ds.length + 1) = 1 by omega]
  show ds.take (ds.length + 1 - 1) = ds
  simp
/-! the heads of documents -/
abbrev s_is_headed : Stmt := top 66
abbrev N_is_headed : List Str := ["value", "word", "many"]
theorem sc_is_headed : FnScope N_is_headed ["value", "word", "many"] (defScope s_is_headed) := ⟨rfl, rfl, rfl, by decide +kernel, rfl, by decide +kernel, by decide +kernel⟩
abbrev s_is_version : Stmt := top 67
abbrev N_is_version : List Str := ["value"]
theorem sc_is_version : FnScope N_is_version ["value"] (defScope s_is_version) := ⟨rfl, rfl, rfl, by decide +kernel, rfl, by decide +kernel, by decide +kernel⟩
abbrev s_is_amount : Stmt := top 60
abbrev N_is_amount : List Str := ["value"]
theorem sc_is_amount : FnScope N_is_amount ["value"] (defScope s_is_amount) := ⟨rfl, rfl, rfl, by decide +kernel, rfl, by decide +kernel, by decide +kernel⟩
def headB (w : Str) (n : Nat) (d : PyData) : Bool := tupB n n d && eqS w (ixD d 0)
def spHead : Sp := fun vs H Q _ => ∃ (v : V) (d : PyData) (w : Str) (n : Nat), vs = [v, .str w, .int n] ∧ Rq H v d ∧ 1 ≤ n ∧ Q (.bl (headB w n d)) H
def spNumP (lo : Int) : Sp := fun vs H Q _ => ∃ (v : V) (d : PyData), vs = [v] ∧ Rq H v d ∧ Q (.bl (numB lo 1000000000000 d)) H
structure DhC (mg : Str → Option Value) : Prop where
  c_MOST_NUMBER : ∃ t, mg "MOST_NUMBER" = some (.int 1000000000000 t)
section
variable {P : Program} {w : World} {K : PySem.W.Frag} {mg : Str → Option Value} {base : Heap} {f : Addr} {fd : FuncData}
theorem ok_headed (F : Fun K "_is_headed" "_is_headed" s_is_headed f fd) (B : Blt mg) (c_is_tuple_of : Cal P w K mg base CX0 1 "_is_tuple_of" spTOf) : FnOk P w K mg base CX0 2 f fd ["value", "word", "many"] spHead := by
  refine F.ok sc_is_headed (fun vs H Q E h => ?_) (fun cdv A outer s H vs Q E hr h => ?_)
  · obtain ⟨v, d, w, n, rfl, _⟩ := h; rfl
  obtain ⟨v, d, wd, n, rfl, hR, hn, q⟩ := h
  refine ⟨_, (pss_cons (ps_if (pt_not (pt_val (c_is_tuple_of.pe hr (pa_cons (pv 0) (pa_cons (pv 2) pa_nil))))) (pss_one (ps_ret pe_bl)) pss_nil)
    (pss_one (ps_ret (pe_and (B.isT (pe_ix ix_tM (pv 0) pe_int (fun _ _ => rfl)) B.v_str) (pe_one (pe_cmpR op_eq (pe_ix ix_tM (pv 0) pe_int (fun _ _ => rfl)) (pv 1) (nomark _))))))), ?_⟩
  walk_at "wp"
  refine ⟨v, d, n, rfl, hR, _, rfl, ?_⟩
  cases h1 : tupB n n d with
  | false =>
    rw [if_pos rfl]
    rw [show headB wd n d = false by unfold headB; rw [h1]; rfl] at q
    exact q
  | true =>
  obtain ⟨p, xs, ds, rfl, ep, rfl, r, l1, l2⟩ := tupB_of hR h1
  rw [if_neg (by decide)]
  obtain ⟨x0, e0, R0⟩ := r.ix (i := 0) (by omega)
  rw [show headB wd n (.tuple ds) = eqS wd (ds.getD 0 .none) by unfold headB; rw [h1, Bool.true_and]; rfl] at q
  refine ⟨p, rfl, _, ep, _, e0, _, R0.ty, ?_⟩
  generalize ds.getD 0 .none = d0 at R0 q
  cases R0 with
  | str z =>
    dsimp only [tyD]
    walk_at "wp"
    refine ⟨_, ep, _, e0, rfl, ?_⟩
    rw [show decide (V.str z = V.str wd) = eqS wd (.str z) from decide_eq_decide.mpr ⟨V.str.inj, congrArg _⟩]
    exact q
  | _ => dsimp only [tyD]; walk_at "wp"; exact q
theorem ok_version (F : Fun K "_is_version" "_is_version" s_is_version f fd) (B : Blt mg) (D : DhC mg) (c_is_integer : Cal P w K mg base CX0 1 "is_integer" spIntg) : FnOk P w K mg base CX0 2 f fd ["value"] (spNumP 1) := by
  refine F.ok sc_is_version (fun vs H Q E h => ?_) (fun cdv A outer s H vs Q E hr h => ?_)
  · obtain ⟨v, d, rfl, _⟩ := h; rfl
  obtain ⟨v, d, rfl, hR, q⟩ := h
  refine ⟨_, (pss_one (ps_ret (c_is_integer.pe hr (pa_cons (pv 0) (pa_cons pe_int (pa_cons (pe_cE D.c_MOST_NUMBER) pa_nil)))))), ?_⟩
  walk_at "wp"
  refine ⟨v, 1, 1000000000000, rfl, hR.tyx, ?_⟩
  rw [inV_rq hR]
  exact q
theorem ok_amount (F : Fun K "is_amount" "is_amount" s_is_amount f fd) (B : Blt mg) (D : DhC mg) (c_is_integer : Cal P w K mg base CX0 1 "is_integer" spIntg) : FnOk P w K mg base CX0 2 f fd ["value"] (spNumP 0) := by
  refine F.ok sc_is_amount (fun vs H Q E h => ?_) (fun cdv A outer s H vs Q E hr h => ?_)
  · obtain ⟨v, d, rfl, _⟩ := h; rfl
  obtain ⟨v, d, rfl, hR, q⟩ := h
  refine ⟨_, (pss_one (ps_ret (c_is_integer.pe hr (pa_cons (pv 0) (pa_cons pe_int (pa_cons (pe_cE D.c_MOST_NUMBER) pa_nil)))))), ?_⟩
  walk_at "wp"
  refine ⟨v, 0, 1000000000000, rfl, hR.tyx, ?_⟩
  rw [inV_rq hR]
  exact q
end
/-! amounts; [f(stream) for k in range(n)], f draws a value -/
theorem head_self (w : Str) (ds : List PyData) {n : Nat} (h : ds.length + 1 = n) : headB w n (.tuple (.str w :: ds)) = true := by
  subst h
  show ((decide (ds.length + 1 ≤ ds.length + 1) && decide (ds.length + 1 ≤ ds.length + 1)) && decide (w = w)) = true
  rw [decide_eq_true (Nat.le_refl _), decide_eq_true rfl]; rfl
/-! [row[0] for row in a tuple]; [f(stream, k) for k in texts if ..] -/
theorem lc_nm {K : PySem.W.Frag} {σ : St} {H : Hp} {R : VK} {tl te : TE} {ks : Nat} {b : Addr} {xs : List V} {ds : List PyData} {nm : PyData → Str} (eb : H b = some (.tup xs)) (r : RqA H xs ds) (ln : ds.length ≤ 200000)
    (hl : ∀ R : VK, R (.ref b) H → tl σ H R) (hw : ∀ x : V, wipe ((wipe σ [ks]).set ks (some x)) [ks] = wipe σ [ks])
    (he : ∀ (x : V) (d : PyData) (H' : Hp) (R : VK), Rq H' x d → d ∈ ds → R (.str (nm d)) H' → te ((wipe σ [ks]).set ks (some x)) H' R)
    (q : ∀ (D : Addr) (Hx : Hp), Kp [] H Hx → Hx D = some (.lst ((ds.map nm).map V.str)) → H D = none → R (.ref D) Hx) :
    tLc (iTup K tl) (gName ks) tYes te [ks] σ H R := by
  refine hl _ ⟨b, rfl, ⟨xs, SqT.of eb⟩, fun D hD => ?_⟩
  have lim : sizeLine = 16777216 := sizeLine_eq
  refine lc_tup (K := K) (a := b) (xs := xs) (fun i Hx => Kp [] H Hx ∧ Hx D = some (.lst (((ds.take i).map nm).map V.str))) ⟨Kp.new hD _, upd_same⟩ (fun i Hx _ ⟨k, _⟩ => SqT.of (k.tup _ _ eb)) (fun i x Hx hx ⟨k4, a4⟩ => ?_) (fun Hx ⟨k4, a4⟩ => ?_)
  · obtain ⟨u, hu, Ru⟩ := r.get hx
    refine ⟨hw _, ?_⟩
    simp only [tYes, if_true]
    refine he x u _ _ (Ru.kp0 k4) (List.mem_of_getElem? hu) ⟨_, a4, by rw [List.length_map, List.length_map, List.length_take]; omega, Kp.upd k4 hD a4, ?_⟩
    rw [upd_same, List.take_add_one, hu]
    simp
  · rw [r.len, List.take_length] at a4
    exact q D Hx k4 a4 hD
/-! digests and entries -/
abbrev s_is_digest : Stmt := top 54
abbrev N_is_digest : List Str := ["value"]
theorem sc_is_digest : FnScope N_is_digest ["value"] (defScope s_is_digest) := ⟨rfl, rfl, rfl, by decide +kernel, rfl, by decide +kernel, by decide +kernel⟩
abbrev s_is_entry : Stmt := top 68
abbrev N_is_entry : List Str := ["value"]
theorem sc_is_entry : FnScope N_is_entry ["value"] (defScope s_is_entry) := ⟨rfl, rfl, rfl, by decide +kernel, rfl, by decide +kernel, by decide +kernel⟩
def hexM : Str := Str.ofString "0123456789abcdef"
def isDig : PyData → Bool
  | .str z => decide (z.length = 18) && inT hexM z
  | _ => false
def isEntry (d : PyData) : Bool := tupB 3 3 d && (numB 1 1000000000000 (ixD d 0) && (numB 0 1000000000000 (ixD d 1) && isDig (ixD d 2)))
structure DdC (mg : Str → Option Value) : Prop where
  c_DIGEST_LENGTH : ∃ t, mg "DIGEST_LENGTH" = some (.int 18 t)
  c_DIGEST_MARKS : ∃ t, mg "_DIGEST_MARKS" = some (.str "0123456789abcdef" t)
/-- all(p(x) for x in a text) -/
theorem all_chars {y : Str} {pb : Nat → Bool} {te : TE} {D : Ends} {H2 : Hp} {o : Option V} {cap : L2.St}
    (step : ∀ (c : Nat) (R : VK), R (.bl (pb c)) H2 → te (some (.str ⟨#[c]⟩) :: cap) H2 R)
    (qf : y.cps.toList.all pb = false → D.rt (.bl false) H2) (qt : ∀ σ, y.cps.toList.all pb = true → D.nx σ H2) :
    tForB (Its y) (gName 0) (tbAll tYes te) D (o :: cap) H2 := by
  refine for_it walk_str (fun i σ H' => H' = H2 ∧ (y.cps.toList.take i).all pb = true ∧ ∃ o : Option V, σ = o :: cap) ⟨rfl, rfl, _, rfl⟩ (fun _ _ _ _ _ => True.intro) (fun i x σ H1 H3 hi ⟨hH, ha, o, hσ⟩ ⟨h2, c, hc, hx⟩ => ?_) (fun σ H1 ⟨hH, ha, o, hσ⟩ => ?_)
  · subst hσ
    subst hx
    subst h2
    subst hH
    have hci : y.cps.toList[i]? = some c := by rw [Array.getElem?_toList]; exact hc
    unfold tbAll
    simp only [tYes, if_true, gName, List.set_cons_zero]
    refine step c _ ⟨_, rfl, ?_⟩
    cases hb : pb c with
    | true =>
      rw [if_pos rfl]
      exact ⟨rfl, by rw [List.take_add_one, hci, List.all_append, ha]; simp [hb], _, rfl⟩
    | false =>
      rw [if_neg (by decide)]
      exact qf (List.all_eq_false.mpr ⟨c, List.mem_of_getElem? hci, by rw [hb]; decide⟩)
  · subst hH
    rw [List.take_of_length_le (by rw [Array.length_toList]; exact Nat.le_refl _)] at ha
    exact qt _ ha
section
variable {P : Program} {w : World} {K : PySem.W.Frag} {mg : Str → Option Value} {base : Heap} {f : Addr} {fd : FuncData}
theorem ok_digestD {oc kV doc pm ct : Value} {od an : Option Addr} {osl : Array (Option Value)} {c Pt : Addr} {Ts : List Addr} (B : Blt mg) (TB : GxR.TabB base mg c Pt) (D : DdC mg) (mt : Pt ∈ Ts)
    (lk : K.lookup f = some ⟨oc, od, .func (PySem.W.fnOf "is_digest" "is_digest" (defArgs s_is_digest) (defBody s_is_digest) (defScope s_is_digest) .none kV doc pm an (.ref c) ct), osl⟩) (hcd : PySem.W.codeIn K (.ref c) "is_digest" = true) :
    FnOk P w K mg base CX0 3 f (PySem.W.fnOf "is_digest" "is_digest" (defArgs s_is_digest) (defBody s_is_digest) (defScope s_is_digest) .none kV doc pm an (.ref c) ct) ["value"] (spDoc isDig Ts) := by
  refine fn_of lk hcd sc_is_digest (fun vs H Q E h => ?_) (fun A outer s H vs Q E hr h => ?_)
  · obtain ⟨v, d, rfl, _⟩ := h; rfl
  obtain ⟨v, d, rfl, hR, ho, hG, q⟩ := h
  refine ⟨_, PSs.nox (pss_cons (ps_if (PW.pt (pw_or (pt_not (pt_val (B.isT (pv 0) B.v_str))) (pw_or1 (pt_cmpR op_ne (B.len_s (pa_cons (pv 0) pa_nil)) (pe_cE D.c_DIGEST_LENGTH) (nomark _))))) (pss_one (ps_ret pe_bl)) pss_nil)
    (pss_one (ps_ret (pe_allG (N := ["mark"]) (nt := 1) (fr := []) rfl hr B TB rfl (gnOf (by decide +kernel)) (by show freeOk _ (defScope s_is_digest) = true; decide +kernel) (by show capOk _ _ _ N_is_digest _ (defScope s_is_digest) = true; decide +kernel)
      (pi_str (pv 0)) (fun _ _ _ _ _ hr => (pg_name (i := 0) (by show List.Nodup (["mark"] : List Str); decide +kernel) rfl (Or.inl rfl))) (fun _ _ _ _ _ hr => pts_nil) (fun _ _ _ _ _ hr => (pe_cmpR op_in_sign (pv 0) (pe_cSE D.c_DIGEST_MARKS) (by rfl))) (fun _ => rfl))))), ?_⟩
  walk_at "wp"
  refine ⟨_, hR.ty, ?_⟩
  have q0 := q H (Kp.refl _ _) hG
  cases hR with
  | str z =>
    have lz := (okD_str.mp ho).1
    have lim : sizeLine = 16777216 := sizeLine_eq
    dsimp only [tyD]
    walk_at "wp"
    refine ⟨by omega, ?_⟩
    have q1 : ∀ H', Kp Ts H H' → Tabs Ts H' → Q (.bl (decide (z.length = 18) && inT hexM z)) H' := q
    split
    · rename_i c1
      have y := q1 H (Kp.refl _ _) hG
      rw [decide_eq_false (by omega), Bool.false_and] at y
      exact y
    · rename_i c1
      rw [decide_eq_true (show z.length = 18 by omega)] at q1
      refine ⟨_, rfl, z, rfl, hG _ mt, fun H2 hT => ?_⟩
      have g2 := hG.tab hT mt
      have k2 : Kp Ts H H2 := Kp.tab (hG _ mt) hT mt
      have y := q1 H2 k2 g2
      rw [Bool.true_and] at y
      refine all_chars (o := none) (cap := []) (pb := fun c => decide (c ∈ hexM.cps.toList)) (fun c R h => ⟨_, rfl, c, rfl, _, rfl, h⟩) (fun h => ?_) (fun σ h => ?_)
      · rw [show inT hexM z = false from h] at y; exact y
      · rw [show inT hexM z = true from h] at y; exact y
  | _ => dsimp only [tyD]; walk_at "wp"; exact q0
theorem ok_entry {Ts : List Addr} (F : Fun K "_is_entry" "_is_entry" s_is_entry f fd) (B : Blt mg) (c_is_tuple_of : Cal P w K mg base CX0 1 "_is_tuple_of" spTOf) (c_is_version : Cal P w K mg base CX0 2 "_is_version" (spNumP 1)) (c_is_amount : Cal P w K mg base CX0 2 "is_amount" (spNumP 0)) (c_is_digest : Cal P w K mg base CX0 3 "is_digest" (spDoc isDig Ts)) : FnOk P w K mg base CX0 4 f fd ["value"] (spDoc isEntry Ts) := by
  refine F.ok sc_is_entry (fun vs H Q E h => ?_) (fun cdv A outer s H vs Q E hr h => ?_)
  · obtain ⟨v, d, rfl, _⟩ := h; rfl
  obtain ⟨v, d, rfl, hR, ho, hG, q⟩ := h
  refine ⟨_, (pss_one (ps_ret (pe_and (c_is_tuple_of.pe hr (pa_cons (pv 0) (pa_cons pe_int pa_nil))) (pe_and (c_is_version.pe hr (pa_cons (pe_ix ix_tM (pv 0) pe_int (fun _ _ => rfl)) pa_nil)) (pe_and (c_is_amount.pe hr (pa_cons (pe_ix ix_tM (pv 0) pe_int (fun _ _ => rfl)) pa_nil)) (pe_one (c_is_digest.pe hr (pa_cons (pe_ix ix_tM (pv 0) pe_int (fun _ _ => rfl)) pa_nil)))))))), ?_⟩
  walk_at "wp"
  have off : isEntry d = false → Q (.bl false) H := fun h => by have y := q H (Kp.refl _ _) hG; rw [h] at y; exact y
  refine ⟨v, d, 3, rfl, hR, _, rfl, ?_⟩
  cases h1 : tupB 3 3 d with
  | false =>
    rw [if_neg (by decide)]
    exact off (by unfold isEntry; rw [h1]; rfl)
  | true =>
  obtain ⟨p, xs, ds, rfl, ep, rfl, r, l1, l2⟩ := tupB_of hR h1
  obtain ⟨x0, x1, x2, d0, d1, d2, rfl, rfl, R0, R1, R2⟩ := rq3 r (by omega)
  rw [if_pos rfl]
  obtain ⟨o1, o2⟩ := okD_tup.mp ho
  have e1 : isEntry (.tuple [d0, d1, d2]) = (numB 1 1000000000000 d0 && (numB 0 1000000000000 d1 && isDig d2)) := rfl
  rw [e1] at off q
  refine ⟨p, rfl, _, ep, _, rfl, x0, d0, rfl, R0, _, rfl, ?_⟩
  cases h2 : numB 1 1000000000000 d0 with
  | false =>
    rw [if_neg (by decide)]
    exact off (by rw [h2]; rfl)
  | true =>
  rw [if_pos rfl]
  rw [h2, Bool.true_and] at off q
  refine ⟨p, rfl, _, ep, _, rfl, x1, d1, rfl, R1, _, rfl, ?_⟩
  cases h3 : numB 0 1000000000000 d1 with
  | false =>
    rw [if_neg (by decide)]
    exact off (by rw [h3]; rfl)
  | true =>
  rw [if_pos rfl]
  rw [h3, Bool.true_and] at q
  exact ⟨p, rfl, _, ep, _, rfl, x2, d2, rfl, R2, ok_mono _ 12 d2 (by decide) (o2 d2 (by simp)), hG, q⟩
end
/-! paths that a law draws, and what it asks of them -/
def paD (m : Str) : PyData → Bool
  | .str z => hpS m z
  | _ => false
theorem paD_of {m : Str} {H : Hp} {v : V} {d : PyData} (r : Rq H v d) : hpV m v = paD m d := by cases r <;> rfl
/-! grants -/
abbrev s_is_grant : Stmt := top 55
abbrev N_is_grant : List Str := ["value", "name", "role", "patterns", "last"]
theorem sc_is_grant : FnScope N_is_grant ["value"] (defScope s_is_grant) := ⟨rfl, rfl, rfl, by decide +kernel, rfl, by decide +kernel, by decide +kernel⟩
def isGrant (d : PyData) : Bool := tupB 4 4 d && (lnD (ixD d 0) && (!eqS (Str.ofString "list") (ixD d 0) && (isRole (ixD d 1) && (tupB 1 8 (ixD d 2) && ((itD (ixD d 2)).all (paD ptM) && numB 0 1 (ixD d 3))))))
def nmG (d : PyData) : Str := strD (ixD d 0)
structure DgrC (mg : Str → Option Value) : Prop where
  c_MOST_PATTERNS : ∃ t, mg "_MOST_PATTERNS" = some (.int 8 t)
  c_TOP_LIST : ∃ t, mg "TOP_LIST" = some (.str "list" t)
theorem isGrant_of {H : Hp} {v : V} {d : PyData} (r : Rq H v d) (h : isGrant d = true) : ∃ (p : Addr) (xs : List V) (z : Str) (es : List PyData), v = .ref p ∧ H p = some (.tup (.str z :: xs)) ∧ d = .tuple (.str z :: es) ∧ RqA H xs es ∧ lnS z = true ∧ z ≠ Str.ofString "list" ∧ es.length = 3 := by
  unfold isGrant at h
  simp only [Bool.and_eq_true, Bool.not_eq_true'] at h
  obtain ⟨h1, h2, h3, _⟩ := h
  obtain ⟨p, xs, ds, rfl, ep, rfl, rr, l1, l2⟩ := tupB_of r h1
  cases rr with
  | nil => exact absurd l1 (by decide)
  | @cons v vs d ds a b =>
    have h2 : lnD d = true := h2
    have h3 : eqS (Str.ofString "list") d = false := h3
    cases a with
    | str z => exact ⟨p, vs, z, ds, rfl, ep, rfl, b, h2, of_decide_eq_false h3, by rw [List.length_cons] at l1 l2; omega⟩
    | _ => cases h2
section
variable {P : Program} {w : World} {K : PySem.W.Frag} {mg : Str → Option Value} {base : Heap} {f : Addr} {fd : FuncData}
theorem ok_grant {oc kV doc pm ct : Value} {od an : Option Addr} {osl : Array (Option Value)} {c Pt Pc : Addr} {Ts : List Addr} (B : Blt mg) (TB : GxR.TabB base mg c Pt) (D : DgrC mg) (mt : Pt ∈ Ts) (mc : Pc ∈ Ts)
    (lk : K.lookup f = some ⟨oc, od, .func (PySem.W.fnOf "is_grant" "is_grant" (defArgs s_is_grant) (defBody s_is_grant) (defScope s_is_grant) .none kV doc pm an (.ref c) ct), osl⟩) (hcd : PySem.W.codeIn K (.ref c) "is_grant" = true)
    (c_is_tuple_of : Cal P w K mg base CX0 1 "_is_tuple_of" spTOf) (c_is_tuple_within : Cal P w K mg base CX0 1 "_is_tuple_within" spTIn) (c_is_list_name : Cal P w K mg base CX0 4 "is_list_name" (spNm lnV Pc)) (c_is_role : Cal P w K mg base CX0 8 "is_role" (spDoc isRole Ts)) (c_is_pattern : Cal P w K mg base CX0 7 "is_pattern" (spPa ptM Ts)) (c_is_integer : Cal P w K mg base CX0 1 "is_integer" spIntg) :
    FnOk P w K mg base CX0 11 f (PySem.W.fnOf "is_grant" "is_grant" (defArgs s_is_grant) (defBody s_is_grant) (defScope s_is_grant) .none kV doc pm an (.ref c) ct) ["value"] (spDoc isGrant Ts) := by
  refine fn_of lk hcd sc_is_grant (fun vs H Q E h => ?_) (fun A outer s H vs Q E hr h => ?_)
  · obtain ⟨v, d, rfl, _⟩ := h; rfl
  obtain ⟨v, d, rfl, hR, ho, hG, q⟩ := h
  refine ⟨_, PSs.nox (pss_cons (ps_if (pt_not (pt_val (c_is_tuple_of.pe hr (pa_cons (pv 0) (pa_cons pe_int pa_nil))))) (pss_one (ps_ret pe_bl)) pss_nil)
    (pss_cons (ps_asg (pv 0) (pg_tup rfl (pgs_cons (pg_name (i := 1) sc_is_grant.nd rfl (Or.inl rfl)) (pgs_cons (pg_name (i := 2) sc_is_grant.nd rfl (Or.inl rfl)) (pgs_cons (pg_name (i := 3) sc_is_grant.nd rfl (Or.inl rfl)) (pgs_cons (pg_name (i := 4) sc_is_grant.nd rfl (Or.inl rfl)) pgs_nil))))))
    (pss_cons (ps_if (PW.pt (pw_or (pt_not (pt_val (c_is_list_name.pe hr (pa_cons (pv 1) pa_nil)))) (pw_or (pt_cmpR op_eq (pv 1) (pe_cSE D.c_TOP_LIST) (nomark _)) (pw_or1 (pt_not (pt_val (c_is_role.pe hr (pa_cons (pv 2) pa_nil)))))))) (pss_one (ps_ret pe_bl)) pss_nil)
    (pss_cons (ps_if (PW.pt (pw_or (pt_not (pt_val (c_is_tuple_within.pe hr (pa_cons (pv 3) (pa_cons pe_int (pa_cons (pe_cE D.c_MOST_PATTERNS) pa_nil)))))) (pw_or1 (pt_not (pt_val (pe_allG (N := ["pattern"]) (nt := 1) (fr := []) rfl hr B TB rfl (gnOf (by decide +kernel)) (by show freeOk _ (defScope s_is_grant) = true; decide +kernel) (by show capOk _ _ _ N_is_grant _ (defScope s_is_grant) = true; decide +kernel)
      (pi_tup (pv 3)) (fun _ _ _ _ _ hr => (pg_name (i := 0) (by show List.Nodup (["pattern"] : List Str); decide +kernel) rfl (Or.inl rfl))) (fun _ _ _ _ _ hr => pts_nil) (fun _ _ _ _ _ hr => (c_is_pattern.pe hr (pa_cons (pv 0) pa_nil))) (fun _ => rfl))))))) (pss_one (ps_ret pe_bl)) pss_nil)
    (pss_one (ps_ret (c_is_integer.pe hr (pa_cons (pv 4) (pa_cons pe_int (pa_cons pe_int pa_nil)))))))))), ?_⟩
  walk_at "wp"
  have off : isGrant d = false → ∀ H', Kp Ts H H' → Tabs Ts H' → Q (.bl false) H' := fun h H' k g => by have y := q H' k g; rw [h] at y; exact y
  refine ⟨v, d, 4, rfl, hR, _, rfl, ?_⟩
  cases h1 : tupB 4 4 d with
  | false =>
    rw [if_pos rfl]
    exact off (by unfold isGrant; rw [h1]; rfl) H (Kp.refl _ _) hG
  | true =>
  rw [if_neg (by decide)]
  obtain ⟨p, xs, ds, rfl, ep, rfl, r, l1, l2⟩ := tupB_of hR h1
  obtain ⟨x0, x1, x2, x3, d0, d1, d2, d3, rfl, rfl, R0, R1, R2, R3⟩ := rq4 r (by omega)
  obtain ⟨o1, o2⟩ := okD_tup.mp ho
  have e1 : isGrant (.tuple [d0, d1, d2, d3]) = (lnD d0 && (!eqS (Str.ofString "list") d0 && (isRole d1 && (tupB 1 8 d2 && ((itD d2).all (paD ptM) && numB 0 1 d3))))) := rfl
  rw [e1] at off q
  refine ⟨p, _, rfl, SqT.of ep, rfl, x0, _, rfl, x1, _, rfl, x2, _, rfl, x3, _, rfl, rfl, ?_⟩
  walk_at "wp"
  refine ⟨x0, rfl, hG _ mc, R0.tyx, ok_szV R0 (o2 d0 (by simp)), fun H1 k1 g1 => ⟨_, rfl, ?_⟩⟩
  rw [lnD_of R0]
  have K1 := k1.in1 mc
  have G1 := hG.kp1 k1 g1
  cases h2 : lnD d0 with
  | false =>
    rw [if_pos rfl]
    exact off (by rw [h2]; rfl) _ K1 G1
  | true =>
  rw [if_neg (by decide)]
  rw [h2, Bool.true_and] at off q
  obtain ⟨z, rfl, rfl⟩ : ∃ z, x0 = .str z ∧ d0 = .str z := isS_of R0 (by cases d0 <;> first | rfl | cases h2)
  refine ⟨rfl, ?_⟩
  split
  · rename_i c1
    exact off (by rw [show eqS (Str.ofString "list") (.str z) = true from decide_eq_true (V.str.inj c1)]; rfl) _ K1 G1
  rename_i c1
  rw [show eqS (Str.ofString "list") (.str z) = false from decide_eq_false (fun h => c1 (congrArg _ h)), Bool.not_false, Bool.true_and] at off q
  refine ⟨x1, d1, rfl, R1.tabs K1 hG, ok_mono _ 12 d1 (by decide) (o2 d1 (by simp)), G1, fun H2 k2 g2 => ⟨_, rfl, ?_⟩⟩
  have K2 := K1.trans k2
  cases h3 : isRole d1 with
  | false =>
    rw [if_pos rfl]
    exact off (by rw [h3]; rfl) _ K2 g2
  | true =>
  rw [if_neg (by decide)]
  rw [h3, Bool.true_and] at off q
  refine ⟨x2, d2, 1, 8, rfl, R2.tabs K2 hG, _, rfl, ?_⟩
  cases h4 : tupB 1 8 d2 with
  | false =>
    rw [if_pos rfl]
    exact off (by rw [h4]; rfl) _ K2 g2
  | true =>
  rw [if_neg (by decide)]
  obtain ⟨b, ys, es, rfl, eb, rfl, rr, l3, l4⟩ := tupB_of R2 h4
  rw [h4, Bool.true_and, show itD (.tuple es) = es from rfl] at off q
  obtain ⟨o3, o4⟩ := okD_tup.mp (o2 (.tuple es) (by simp))
  have e3 := K2.get hG eb
  refine ⟨_, rfl, b, rfl, ⟨ys, SqT.of e3⟩, g2 _ mt, fun H3 hT => ?_⟩
  have g3 := g2.tab hT mt
  have k3 : Kp Ts H2 H3 := Kp.tab (g2 _ mt) hT mt
  have K3 := K2.trans k3
  refine all_rq (K := K) (o := none) (cap := []) (f := paD ptM) (k3.get g2 e3) ((rr.tabs K2 hG).tabs k3 g2) g3 (fun x d H' R hx md k4 g4 hq => ?_) (fun H4 k4 g4 h5 => ?_) (fun σ H4 k4 g4 h5 => ?_)
  · exact ⟨x, rfl, x, rfl, g4, hx.tyx, ok_szV hx (o4 d md), fun H5 k5 g5 => by rw [paD_of hx]; exact hq H5 k5 g5⟩
  · refine ⟨_, rfl, ?_⟩
    rw [if_pos rfl]
    exact off (by rw [h5]; rfl) _ (K3.trans k4) g4
  · refine ⟨_, rfl, ?_⟩
    rw [if_neg (by decide)]
    rw [h5, Bool.true_and] at q
    refine ⟨x3, 0, 1, rfl, (R3.tabs (K3.trans k4) hG).tyx, ?_⟩
    rw [inV_rq R3]
    exact q _ (K3.trans k4) g4
end
/-! charters -/
abbrev s_is_charter : Stmt := top 56
abbrev N_is_charter : List Str := ["value", "_", "version", "expires", "roles"]
theorem sc_is_charter : FnScope N_is_charter ["value"] (defScope s_is_charter) := ⟨rfl, rfl, rfl, by decide +kernel, rfl, by decide +kernel, by decide +kernel⟩
def isCharter (d : PyData) : Bool := headB (Str.ofString "charter") 4 d && (numB 1 1000000000000 (ixD d 1) && (numB 0 1000000000000 (ixD d 2) && (tupB 4 4 (ixD d 3) && (itD (ixD d 3)).all isRole)))
structure DchC (mg : Str → Option Value) : Prop where
  c_ROLES : ∃ t, mg "_ROLES" = some (.int 4 t)
section
variable {P : Program} {w : World} {K : PySem.W.Frag} {mg : Str → Option Value} {base : Heap} {f : Addr} {fd : FuncData}
theorem ok_charter {oc kV doc pm ct : Value} {od an : Option Addr} {osl : Array (Option Value)} {c Pt : Addr} {Ts : List Addr} (B : Blt mg) (TB : GxR.TabB base mg c Pt) (D : DchC mg) (mt : Pt ∈ Ts)
    (lk : K.lookup f = some ⟨oc, od, .func (PySem.W.fnOf "is_charter" "is_charter" (defArgs s_is_charter) (defBody s_is_charter) (defScope s_is_charter) .none kV doc pm an (.ref c) ct), osl⟩) (hcd : PySem.W.codeIn K (.ref c) "is_charter" = true)
    (c_is_headed : Cal P w K mg base CX0 2 "_is_headed" spHead) (c_is_version : Cal P w K mg base CX0 2 "_is_version" (spNumP 1)) (c_is_amount : Cal P w K mg base CX0 2 "is_amount" (spNumP 0)) (c_is_tuple_of : Cal P w K mg base CX0 1 "_is_tuple_of" spTOf) (c_is_role : Cal P w K mg base CX0 8 "is_role" (spDoc isRole Ts)) :
    FnOk P w K mg base CX0 12 f (PySem.W.fnOf "is_charter" "is_charter" (defArgs s_is_charter) (defBody s_is_charter) (defScope s_is_charter) .none kV doc pm an (.ref c) ct) ["value"] (spDoc isCharter Ts) := by
  refine fn_of lk hcd sc_is_charter (fun vs H Q E h => ?_) (fun A outer s H vs Q E hr h => ?_)
  · obtain ⟨v, d, rfl, _⟩ := h; rfl
  obtain ⟨v, d, rfl, hR, ho, hG, q⟩ := h
  refine ⟨_, PSs.nox (pss_cons (ps_if (pt_not (pt_val (c_is_headed.pe hr (pa_cons (pv 0) (pa_cons pe_str (pa_cons pe_int pa_nil)))))) (pss_one (ps_ret pe_bl)) pss_nil)
    (pss_cons (ps_asg (pv 0) (pg_tup rfl (pgs_cons (pg_name (i := 1) sc_is_charter.nd rfl (Or.inl rfl)) (pgs_cons (pg_name (i := 2) sc_is_charter.nd rfl (Or.inl rfl)) (pgs_cons (pg_name (i := 3) sc_is_charter.nd rfl (Or.inl rfl)) (pgs_cons (pg_name (i := 4) sc_is_charter.nd rfl (Or.inl rfl)) pgs_nil))))))
    (pss_cons (ps_if (PW.pt (pw_or (pt_not (pt_val (c_is_version.pe hr (pa_cons (pv 2) pa_nil)))) (pw_or1 (pt_not (pt_val (c_is_amount.pe hr (pa_cons (pv 3) pa_nil))))))) (pss_one (ps_ret pe_bl)) pss_nil)
    (pss_one (ps_ret (pe_and (c_is_tuple_of.pe hr (pa_cons (pv 4) (pa_cons (pe_cE D.c_ROLES) pa_nil))) (pe_one (pe_allG (N := ["role"]) (nt := 1) (fr := []) rfl hr B TB rfl (gnOf (by decide +kernel)) (by show freeOk _ (defScope s_is_charter) = true; decide +kernel) (by show capOk _ _ _ N_is_charter _ (defScope s_is_charter) = true; decide +kernel)
      (pi_tup (pv 4)) (fun _ _ _ _ _ hr => (pg_name (i := 0) (by show List.Nodup (["role"] : List Str); decide +kernel) rfl (Or.inl rfl))) (fun _ _ _ _ _ hr => pts_nil) (fun _ _ _ _ _ hr => (c_is_role.pe hr (pa_cons (pv 0) pa_nil))) (fun _ => rfl))))))))), ?_⟩
  walk_at "wp"
  have off : isCharter d = false → ∀ H', Kp Ts H H' → Tabs Ts H' → Q (.bl false) H' := fun h H' k g => by have y := q H' k g; rw [h] at y; exact y
  refine ⟨v, d, _, 4, rfl, hR, by decide, _, rfl, ?_⟩
  cases h1 : headB (Str.ofString "charter") 4 d with
  | false =>
    rw [if_pos rfl]
    exact off (by unfold isCharter; rw [h1]; rfl) H (Kp.refl _ _) hG
  | true =>
  rw [if_neg (by decide)]
  have h1' := h1
  unfold headB at h1'
  rw [Bool.and_eq_true] at h1'
  obtain ⟨p, xs, ds, rfl, ep, rfl, r, l1, l2⟩ := tupB_of hR h1'.1
  obtain ⟨x0, x1, x2, x3, d0, d1, d2, d3, rfl, rfl, R0, R1, R2, R3⟩ := rq4 r (by omega)
  obtain ⟨o1, o2⟩ := okD_tup.mp ho
  have e1 : isCharter (.tuple [d0, d1, d2, d3]) = (headB (Str.ofString "charter") 4 (.tuple [d0, d1, d2, d3]) && (numB 1 1000000000000 d1 && (numB 0 1000000000000 d2 && (tupB 4 4 d3 && (itD d3).all isRole)))) := rfl
  rw [h1, Bool.true_and] at e1
  rw [e1] at off q
  refine ⟨p, _, rfl, SqT.of ep, rfl, x0, _, rfl, x1, _, rfl, x2, _, rfl, x3, _, rfl, rfl, ?_⟩
  walk_at "wp"
  refine ⟨x1, d1, rfl, R1, _, rfl, ?_⟩
  cases h2 : numB 1 1000000000000 d1 with
  | false =>
    rw [if_pos rfl]
    exact off (by rw [h2]; rfl) H (Kp.refl _ _) hG
  | true =>
  rw [if_neg (by decide)]
  rw [h2, Bool.true_and] at off q
  refine ⟨x2, d2, rfl, R2, _, rfl, ?_⟩
  cases h3 : numB 0 1000000000000 d2 with
  | false =>
    rw [if_pos rfl]
    exact off (by rw [h3]; rfl) H (Kp.refl _ _) hG
  | true =>
  rw [if_neg (by decide)]
  rw [h3, Bool.true_and] at off q
  refine ⟨x3, d3, 4, rfl, R3, _, rfl, ?_⟩
  cases h4 : tupB 4 4 d3 with
  | false =>
    rw [if_neg (by decide)]
    exact off (by rw [h4]; rfl) H (Kp.refl _ _) hG
  | true =>
  rw [if_pos rfl]
  obtain ⟨b, ys, es, rfl, eb, rfl, rr, l3, l4⟩ := tupB_of R3 h4
  rw [h4, Bool.true_and, show itD (.tuple es) = es from rfl] at off q
  obtain ⟨o3, o4⟩ := okD_tup.mp (o2 (.tuple es) (by simp))
  refine ⟨_, rfl, b, rfl, ⟨ys, SqT.of eb⟩, hG _ mt, fun H2 hT => ?_⟩
  have g2 := hG.tab hT mt
  have k2 : Kp Ts H H2 := Kp.tab (hG _ mt) hT mt
  refine all_rq (K := K) (o := none) (cap := []) (f := isRole) (k2.get hG eb) (rr.tabs k2 hG) g2 (fun x d H' R hx md k3 g3 hq => ?_) (fun H3 k3 g3 h3 => ?_) (fun σ H3 k3 g3 h3 => ?_)
  · exact ⟨x, rfl, x, d, rfl, hx, ok_mono _ 12 d (by decide) (o4 d md), g3, hq⟩
  · exact off h3 H3 (k2.trans k3) g3
  · have y := q H3 (k2.trans k3) g3
    rw [h3] at y; exact y
end
/-! charters that a law draws, and what it asks of them -/
/-! stamps -/
abbrev s_is_stamp : Stmt := top 57
abbrev N_is_stamp : List Str := ["value", "_", "version", "expires", "shelf"]
theorem sc_is_stamp : FnScope N_is_stamp ["value"] (defScope s_is_stamp) := ⟨rfl, rfl, rfl, by decide +kernel, rfl, by decide +kernel, by decide +kernel⟩
def isStamp (d : PyData) : Bool := headB (Str.ofString "stamp") 4 d && (numB 1 1000000000000 (ixD d 1) && (numB 0 1000000000000 (ixD d 2) && isEntry (ixD d 3)))
section
variable {P : Program} {w : World} {K : PySem.W.Frag} {mg : Str → Option Value} {base : Heap} {f : Addr} {fd : FuncData}
theorem ok_stamp {Ts : List Addr} (F : Fun K "is_stamp" "is_stamp" s_is_stamp f fd) (B : Blt mg)
    (c_is_headed : Cal P w K mg base CX0 2 "_is_headed" spHead) (c_is_version : Cal P w K mg base CX0 2 "_is_version" (spNumP 1)) (c_is_amount : Cal P w K mg base CX0 2 "is_amount" (spNumP 0)) (c_is_entry : Cal P w K mg base CX0 4 "_is_entry" (spDoc isEntry Ts)) :
    FnOk P w K mg base CX0 12 f fd ["value"] (spDoc isStamp Ts) := by
  refine F.ok sc_is_stamp (fun vs H Q E h => ?_) (fun cdv A outer s H vs Q E hr h => ?_)
  · obtain ⟨v, d, rfl, _⟩ := h; rfl
  obtain ⟨v, d, rfl, hR, ho, hG, q⟩ := h
  refine ⟨_, (pss_cons (ps_if (pt_not (pt_val (c_is_headed.pe hr (pa_cons (pv 0) (pa_cons pe_str (pa_cons pe_int pa_nil)))))) (pss_one (ps_ret pe_bl)) pss_nil)
    (pss_cons (ps_asg (pv 0) (pg_tup rfl (pgs_cons (pg_name (i := 1) sc_is_stamp.nd rfl (Or.inl rfl)) (pgs_cons (pg_name (i := 2) sc_is_stamp.nd rfl (Or.inl rfl)) (pgs_cons (pg_name (i := 3) sc_is_stamp.nd rfl (Or.inl rfl)) (pgs_cons (pg_name (i := 4) sc_is_stamp.nd rfl (Or.inl rfl)) pgs_nil))))))
    (pss_one (ps_ret (pe_and (c_is_version.pe hr (pa_cons (pv 2) pa_nil)) (pe_and (c_is_amount.pe hr (pa_cons (pv 3) pa_nil)) (pe_one (c_is_entry.pe hr (pa_cons (pv 4) pa_nil))))))))), ?_⟩
  walk_at "wp"
  have off : isStamp d = false → Q (.bl false) H := fun h => by have y := q H (Kp.refl _ _) hG; rw [h] at y; exact y
  refine ⟨v, d, _, 4, rfl, hR, by decide, _, rfl, ?_⟩
  cases h1 : headB (Str.ofString "stamp") 4 d with
  | false =>
    rw [if_pos rfl]
    exact off (by unfold isStamp; rw [h1]; rfl)
  | true =>
  rw [if_neg (by decide)]
  have h1' := h1
  unfold headB at h1'
  rw [Bool.and_eq_true] at h1'
  obtain ⟨p, xs, ds, rfl, ep, rfl, r, l1, l2⟩ := tupB_of hR h1'.1
  obtain ⟨x0, x1, x2, x3, d0, d1, d2, d3, rfl, rfl, R0, R1, R2, R3⟩ := rq4 r (by omega)
  obtain ⟨o1, o2⟩ := okD_tup.mp ho
  have e1 : isStamp (.tuple [d0, d1, d2, d3]) = (headB (Str.ofString "stamp") 4 (.tuple [d0, d1, d2, d3]) && (numB 1 1000000000000 d1 && (numB 0 1000000000000 d2 && isEntry d3))) := rfl
  rw [h1, Bool.true_and] at e1
  rw [e1] at off q
  refine ⟨p, _, rfl, SqT.of ep, rfl, x0, _, rfl, x1, _, rfl, x2, _, rfl, x3, _, rfl, rfl, ?_⟩
  walk_at "wp"
  refine ⟨x1, d1, rfl, R1, _, rfl, ?_⟩
  cases h2 : numB 1 1000000000000 d1 with
  | false =>
    rw [if_neg (by decide)]
    exact off (by rw [h2]; rfl)
  | true =>
  rw [if_pos rfl]
  rw [h2, Bool.true_and] at off q
  refine ⟨x2, d2, rfl, R2, _, rfl, ?_⟩
  cases h3 : numB 0 1000000000000 d2 with
  | false =>
    rw [if_neg (by decide)]
    exact off (by rw [h3]; rfl)
  | true =>
  rw [if_pos rfl]
  rw [h3, Bool.true_and] at off q
  exact ⟨x3, d3, rfl, R3, ok_mono _ 12 d3 (by decide) (o2 d3 (by simp)), hG, q⟩
end
/-! shelves -/
abbrev s_is_named_entry : Stmt := top 69
abbrev N_is_named_entry : List Str := ["value"]
theorem sc_is_named_entry : FnScope N_is_named_entry ["value"] (defScope s_is_named_entry) := ⟨rfl, rfl, rfl, by decide +kernel, rfl, by decide +kernel, by decide +kernel⟩
abbrev s_is_shelf : Stmt := top 58
abbrev N_is_shelf : List Str := ["value", "_", "version", "expires", "lists", "names", "row"]
theorem sc_is_shelf : FnScope N_is_shelf ["value"] (defScope s_is_shelf) := ⟨rfl, rfl, rfl, by decide +kernel, rfl, by decide +kernel, by decide +kernel⟩
def isNE (d : PyData) : Bool := tupB 4 4 d && (lnD (ixD d 0) && isEntry (.tuple ((itD d).drop 1)))
def nmD (d : PyData) : Str := strD (ixD d 0)
def isShelf (d : PyData) : Bool := headB (Str.ofString "shelf") 4 d && (numB 1 1000000000000 (ixD d 1) && (numB 0 1000000000000 (ixD d 2) && (tupB 1 32 (ixD d 3) && ((itD (ixD d 3)).all isNE && (asc ((itD (ixD d 3)).map nmD) && decide (Str.ofString "list" ∈ (itD (ixD d 3)).map nmD))))))
structure DshC (mg : Str → Option Value) : Prop where
  c_MOST_LISTS : ∃ t, mg "MOST_LISTS" = some (.int 32 t)
  c_TOP_LIST : ∃ t, mg "TOP_LIST" = some (.str "list" t)
theorem isNE_of {H : Hp} {v : V} {d : PyData} (r : Rq H v d) (h : isNE d = true) : ∃ (p : Addr) (xs : List V) (z : Str) (es : List PyData), v = .ref p ∧ H p = some (.tup (.str z :: xs)) ∧ d = .tuple (.str z :: es) ∧ RqA H xs es ∧ lnS z = true := by
  unfold isNE at h
  rw [Bool.and_eq_true, Bool.and_eq_true] at h
  obtain ⟨h1, h2, _⟩ := h
  obtain ⟨p, xs, ds, rfl, ep, rfl, rr, l1, l2⟩ := tupB_of r h1
  cases rr with
  | nil => exact absurd l1 (by decide)
  | @cons v vs d ds a b =>
    have h2 : lnD d = true := h2
    cases a with
    | str z => exact ⟨p, vs, z, ds, rfl, ep, rfl, b, h2⟩
    | _ => cases h2
section
variable {P : Program} {w : World} {K : PySem.W.Frag} {mg : Str → Option Value} {base : Heap} {f : Addr} {fd : FuncData}
theorem ok_nentry {Pc : Addr} {Ts : List Addr} (F : Fun K "_is_named_entry" "_is_named_entry" s_is_named_entry f fd) (B : Blt mg) (mc : Pc ∈ Ts) (c_is_tuple_of : Cal P w K mg base CX0 1 "_is_tuple_of" spTOf) (c_is_list_name : Cal P w K mg base CX0 4 "is_list_name" (spNm lnV Pc)) (c_is_entry : Cal P w K mg base CX0 4 "_is_entry" (spDoc isEntry Ts)) : FnOk P w K mg base CX0 5 f fd ["value"] (spDoc isNE Ts) := by
  refine F.ok sc_is_named_entry (fun vs H Q E h => ?_) (fun cdv A outer s H vs Q E hr h => ?_)
  · obtain ⟨v, d, rfl, _⟩ := h; rfl
  obtain ⟨v, d, rfl, hR, ho, hG, q⟩ := h
  refine ⟨_, (pss_one (ps_ret (pe_and (c_is_tuple_of.pe hr (pa_cons (pv 0) (pa_cons pe_int pa_nil))) (pe_and (c_is_list_name.pe hr (pa_cons (pe_ix ix_tM (pv 0) pe_int (fun _ _ => rfl)) pa_nil)) (pe_one (c_is_entry.pe hr (pa_cons (pe_slice sl_tupA (pv 0) (po_some pe_int) po_none) pa_nil))))))), ?_⟩
  walk_at "wp"
  have off : isNE d = false → ∀ H', Kp Ts H H' → Tabs Ts H' → Q (.bl false) H' := fun h H' k g => by have y := q H' k g; rw [h] at y; exact y
  refine ⟨v, d, 4, rfl, hR, _, rfl, ?_⟩
  cases h1 : tupB 4 4 d with
  | false =>
    rw [if_neg (by decide)]
    exact off (by unfold isNE; rw [h1]; rfl) _ (Kp.refl _ _) hG
  | true =>
  obtain ⟨p, xs, ds, rfl, ep, rfl, r, l1, l2⟩ := tupB_of hR h1
  obtain ⟨x0, x1, x2, x3, d0, d1, d2, d3, rfl, rfl, R0, R1, R2, R3⟩ := rq4 r (by omega)
  rw [if_pos rfl]
  obtain ⟨o1, o2⟩ := okD_tup.mp ho
  have e1 : isNE (.tuple [d0, d1, d2, d3]) = (lnD d0 && isEntry (.tuple [d1, d2, d3])) := rfl
  rw [e1] at off q
  refine ⟨p, rfl, _, ep, _, rfl, x0, rfl, hG _ mc, R0.tyx, ok_szV R0 (o2 d0 (by simp)), fun H1 k1 g1 => ⟨_, rfl, ?_⟩⟩
  rw [lnD_of R0]
  have K1 := k1.in1 mc
  have G1 := hG.kp1 k1 g1
  cases h2 : lnD d0 with
  | false =>
    rw [if_neg (by decide)]
    exact off (by rw [h2]; rfl) _ K1 G1
  | true =>
  rw [if_pos rfl]
  rw [h2, Bool.true_and] at q
  refine sl_q (k1.tup _ _ ep) fun z H2 k2 f2 => ?_
  have r2 := ((r.tabs K1 hG).kp0 k2).cut (some 1) none
  rw [cutD_tl] at r2
  exact ⟨.ref z, .tuple [d1, d2, d3], rfl, .tup f2 r2, okD_tup.mpr ⟨by show 3 ≤ 200000; decide, fun d m => o2 d (List.mem_cons_of_mem _ m)⟩, G1.kp0 k2, fun H3 k3 g3 => q H3 ((K1.trans k2.in0).trans k3) g3⟩
theorem ok_shelf {oc kV doc pm ct : Value} {od an : Option Addr} {osl : Array (Option Value)} {c Pt : Addr} {Ts : List Addr} (B : Blt mg) (TB : GxR.TabB base mg c Pt) (D : DshC mg) (mt : Pt ∈ Ts)
    (lk : K.lookup f = some ⟨oc, od, .func (PySem.W.fnOf "is_shelf" "is_shelf" (defArgs s_is_shelf) (defBody s_is_shelf) (defScope s_is_shelf) .none kV doc pm an (.ref c) ct), osl⟩) (hcd : PySem.W.codeIn K (.ref c) "is_shelf" = true)
    (c_is_headed : Cal P w K mg base CX0 2 "_is_headed" spHead) (c_is_version : Cal P w K mg base CX0 2 "_is_version" (spNumP 1)) (c_is_amount : Cal P w K mg base CX0 2 "is_amount" (spNumP 0)) (c_is_tuple_within : Cal P w K mg base CX0 1 "_is_tuple_within" spTIn) (c_is_named_entry : Cal P w K mg base CX0 5 "_is_named_entry" (spDoc isNE Ts)) (c_ascends : Cal P w K mg base CX0 1 "ascends" (spAsc K)) :
    FnOk P w K mg base CX0 12 f (PySem.W.fnOf "is_shelf" "is_shelf" (defArgs s_is_shelf) (defBody s_is_shelf) (defScope s_is_shelf) .none kV doc pm an (.ref c) ct) ["value"] (spDoc isShelf Ts) := by
  refine fn_of lk hcd sc_is_shelf (fun vs H Q E h => ?_) (fun A outer s H vs Q E hr h => ?_)
  · obtain ⟨v, d, rfl, _⟩ := h; rfl
  obtain ⟨v, d, rfl, hR, ho, hG, q⟩ := h
  refine ⟨_, PSs.nox (pss_cons (ps_if (pt_not (pt_val (c_is_headed.pe hr (pa_cons (pv 0) (pa_cons pe_str (pa_cons pe_int pa_nil)))))) (pss_one (ps_ret pe_bl)) pss_nil)
    (pss_cons (ps_asg (pv 0) (pg_tup rfl (pgs_cons (pg_name (i := 1) sc_is_shelf.nd rfl (Or.inl rfl)) (pgs_cons (pg_name (i := 2) sc_is_shelf.nd rfl (Or.inl rfl)) (pgs_cons (pg_name (i := 3) sc_is_shelf.nd rfl (Or.inl rfl)) (pgs_cons (pg_name (i := 4) sc_is_shelf.nd rfl (Or.inl rfl)) pgs_nil))))))
    (pss_cons (ps_if (PW.pt (pw_or (pt_not (pt_val (c_is_version.pe hr (pa_cons (pv 2) pa_nil)))) (pw_or1 (pt_not (pt_val (c_is_amount.pe hr (pa_cons (pv 3) pa_nil))))))) (pss_one (ps_ret pe_bl)) pss_nil)
    (pss_cons (ps_if (PW.pt (pw_or (pt_not (pt_val (c_is_tuple_within.pe hr (pa_cons (pv 4) (pa_cons pe_int (pa_cons (pe_cE D.c_MOST_LISTS) pa_nil)))))) (pw_or1 (pt_not (pt_val (pe_allG (N := ["row"]) (nt := 1) (fr := []) rfl hr B TB rfl (gnOf (by decide +kernel)) (by show freeOk _ (defScope s_is_shelf) = true; decide +kernel) (by show capOk _ _ _ N_is_shelf _ (defScope s_is_shelf) = true; decide +kernel)
      (pi_tup (pv 4)) (fun _ _ _ _ _ hr => (pg_name (i := 0) (by show List.Nodup (["row"] : List Str); decide +kernel) rfl (Or.inl rfl))) (fun _ _ _ _ _ hr => pts_nil) (fun _ _ _ _ _ hr => (c_is_named_entry.pe hr (pa_cons (pv 0) pa_nil))) (fun _ => rfl))))))) (pss_one (ps_ret pe_bl)) pss_nil)
    (pss_cons (ps_setLc (i := 5) (own := [("row", 6)]) (g := gName 6) (tt := tYes) rfl sc_is_shelf.nd rfl rfl (sw_true rfl rfl rfl (by decide +kernel)) (pi_tup (pv 4)) (blkOk_by (own := [("row", 6)]) (N := N_is_shelf) (sc := defScope s_is_shelf) (by decide +kernel)) (fun _ _ _ _ _ => pg_name (i := 6) sc_is_shelf.nd rfl (Or.inl rfl)) (fun _ _ _ _ _ => pts_nil) (fun _ _ _ _ _ => (pe_ix ix_tM (pv 6) pe_int (fun _ _ => rfl))))
    (pss_one (ps_ret (pe_and (c_ascends.pe hr (pa_cons (pv 5) pa_nil)) (pe_one (pe_cmpR (show OpR _ _ (rIn K false) from op_in_seq) (pe_cSE D.c_TOP_LIST) (pv 5) (by rfl))))))))))), ?_⟩
  walk_at "wp"
  have off : isShelf d = false → ∀ H', Kp Ts H H' → Tabs Ts H' → Q (.bl false) H' := fun h H' k g => by have y := q H' k g; rw [h] at y; exact y
  refine ⟨v, d, _, 4, rfl, hR, by decide, _, rfl, ?_⟩
  cases h1 : headB (Str.ofString "shelf") 4 d with
  | false =>
    rw [if_pos rfl]
    exact off (by unfold isShelf; rw [h1]; rfl) H (Kp.refl _ _) hG
  | true =>
  rw [if_neg (by decide)]
  have h1' := h1
  unfold headB at h1'
  rw [Bool.and_eq_true] at h1'
  obtain ⟨p, xs, ds, rfl, ep, rfl, r, l1, l2⟩ := tupB_of hR h1'.1
  obtain ⟨x0, x1, x2, x3, d0, d1, d2, d3, rfl, rfl, R0, R1, R2, R3⟩ := rq4 r (by omega)
  obtain ⟨o1, o2⟩ := okD_tup.mp ho
  have e1 : isShelf (.tuple [d0, d1, d2, d3]) = (headB (Str.ofString "shelf") 4 (.tuple [d0, d1, d2, d3]) && (numB 1 1000000000000 d1 && (numB 0 1000000000000 d2 && (tupB 1 32 d3 && ((itD d3).all isNE && (asc ((itD d3).map nmD) && decide (Str.ofString "list" ∈ (itD d3).map nmD))))))) := rfl
  rw [h1, Bool.true_and] at e1
  rw [e1] at off q
  refine ⟨p, _, rfl, SqT.of ep, rfl, x0, _, rfl, x1, _, rfl, x2, _, rfl, x3, _, rfl, rfl, ?_⟩
  walk_at "wp"
  refine ⟨x1, d1, rfl, R1, _, rfl, ?_⟩
  cases h2 : numB 1 1000000000000 d1 with
  | false =>
    rw [if_pos rfl]
    exact off (by rw [h2]; rfl) H (Kp.refl _ _) hG
  | true =>
  rw [if_neg (by decide)]
  rw [h2, Bool.true_and] at off q
  refine ⟨x2, d2, rfl, R2, _, rfl, ?_⟩
  cases h3 : numB 0 1000000000000 d2 with
  | false =>
    rw [if_pos rfl]
    exact off (by rw [h3]; rfl) H (Kp.refl _ _) hG
  | true =>
  rw [if_neg (by decide)]
  rw [h3, Bool.true_and] at off q
  refine ⟨x3, d3, 1, 32, rfl, R3, _, rfl, ?_⟩
  cases h4 : tupB 1 32 d3 with
  | false =>
    rw [if_pos rfl]
    exact off (by rw [h4]; rfl) H (Kp.refl _ _) hG
  | true =>
  rw [if_neg (by decide)]
  obtain ⟨b, ys, es, rfl, eb, rfl, rr, l3, l4⟩ := tupB_of R3 h4
  rw [h4, Bool.true_and, show itD (.tuple es) = es from rfl] at off q
  obtain ⟨o3, o4⟩ := okD_tup.mp (o2 (.tuple es) (by simp))
  refine ⟨_, rfl, b, rfl, ⟨ys, SqT.of eb⟩, hG _ mt, fun H2 hT => ?_⟩
  have g2 := hG.tab hT mt
  have k2 : Kp Ts H H2 := Kp.tab (hG _ mt) hT mt
  refine all_rq (K := K) (o := none) (cap := []) (f := isNE) (k2.get hG eb) (rr.tabs k2 hG) g2 (fun x d H' R hx md k3 g3 hq => ?_) (fun H3 k3 g3 h3 => ?_) (fun σ H3 k3 g3 h3 => ?_)
  · exact ⟨x, rfl, x, d, rfl, hx, ok_mono _ 12 d (by decide) (o4 d md), g3, hq⟩
  · refine ⟨_, rfl, ?_⟩
    rw [if_pos rfl]
    exact off (by rw [h3]; rfl) H3 (k2.trans k3) g3
  refine ⟨_, rfl, ?_⟩
  rw [if_neg (by decide)]
  have K3 := k2.trans k3
  rw [h3, Bool.true_and] at off q
  have al := List.all_eq_true.mp h3
  have e3 := K3.get hG eb
  have rr3 := rr.tabs K3 hG
  refine ⟨_, rfl, b, rfl, ⟨ys, SqT.of e3⟩, fun D hD => ?_⟩
  have nD : ∀ P ∈ Ts, P ∉ [D] := fun P m e => g3.ne0 hD (List.mem_singleton.mp e ▸ m)
  refine lc_tup (K := K) (a := b) (xs := ys) (fun i Hx => Kp Ts H3 Hx ∧ Tabs Ts Hx ∧ Hx D = some (.lst (((es.take i).map nmD).map V.str)))
    ⟨Kp.new hD _, g3.new hD _, upd_same⟩ (fun i Hx _ ⟨k, _, _⟩ => SqT.of (k.get g3 e3)) (fun i x Hx hx ⟨k4, g4, a4⟩ => ?_) (fun Hx ⟨k4, g4, a4⟩ => ?_)
  · obtain ⟨u, hu, Ru⟩ := rr3.get hx
    obtain ⟨pr, vs, z, us, rfl, epr, rfl, _, _⟩ := isNE_of (Ru.tabs k4 g3) (al u (List.mem_of_getElem? hu))
    refine ⟨rfl, ?_⟩
    simp only [tYes, if_true]
    refine ⟨_, rfl, pr, rfl, _, epr, 0, rfl, _, at0, _, a4, by rw [List.length_map, List.length_map, List.length_take, sizeLine_eq]; omega, Kp.upd k4 hD a4, g4.kp (Kp.lst a4 (List.mem_singleton.mpr rfl)) nD, ?_⟩
    rw [upd_same, List.take_add_one, hu]
    simp [nmD, ixD, itD, strD]
  · rw [rr.len, List.take_length] at a4
    refine ⟨D, es.map nmD, rfl, SqL.of a4, by rw [List.length_map]; omega, fun z hz => ?_, fun H5 k5 => ⟨_, rfl, ?_⟩⟩
    · obtain ⟨d, m, rfl⟩ := List.mem_map.mp hz
      obtain ⟨i, hi, e⟩ := List.getElem_of_mem m
      obtain ⟨x, _, Rx⟩ := rr3.at hi
      rw [List.getD_eq_getElem?_getD, List.getElem?_eq_getElem hi] at Rx
      have Rx : Rq H3 x d := e ▸ Rx
      obtain ⟨pr, vs, z, us, rfl, epr, rfl, _, hl⟩ := isNE_of Rx (al d m)
      exact strOk_low (ln_low hl).2
    have K5 := (K3.trans k4).trans (k5.in0 : Kp Ts Hx H5)
    have g5 := g4.kp0 k5
    cases h5 : asc (es.map nmD) with
    | false =>
      rw [if_neg (by decide)]
      exact off (by rw [h5]; rfl) H5 K5 g5
    | true =>
    rw [if_pos rfl]
    rw [h5, Bool.true_and] at q
    refine ⟨D, _, rfl, .inl (SqL.of (k5.keep _ _ List.not_mem_nil a4)), rfl, flat_strsQ _, ?_⟩
    rw [inV_strsQ]
    exact q H5 K5 g5
end
/-! lists -/
abbrev s_is_good : Stmt := top 70
abbrev N_is_good : List Str := ["value"]
theorem sc_is_good : FnScope N_is_good ["value"] (defScope s_is_good) := ⟨rfl, rfl, rfl, by decide +kernel, rfl, by decide +kernel, by decide +kernel⟩
abbrev s_is_list : Stmt := top 59
abbrev N_is_list : List Str := ["value", "_", "name", "version", "expires", "goods", "grants", "granted", "grant", "good"]
theorem sc_is_list : FnScope N_is_list ["value"] (defScope s_is_list) := ⟨rfl, rfl, rfl, by decide +kernel, rfl, by decide +kernel, by decide +kernel⟩
def isGood (d : PyData) : Bool := tupB 3 3 d && (paD paM (ixD d 0) && (numB 0 1000000000000 (ixD d 1) && isDig (ixD d 2)))
def isGoods (d : PyData) : Bool := tupB 0 64 d && ((itD d).all isGood && asc ((itD d).map nmG))
def isList (d : PyData) : Bool := headB (Str.ofString "list") 6 d && (lnD (ixD d 1) && (numB 1 1000000000000 (ixD d 2) && (numB 0 1000000000000 (ixD d 3) && (isGoods (ixD d 4) && (tupB 0 32 (ixD d 5) && ((itD (ixD d 5)).all isGrant && decide ((strD (ixD d 1) :: (itD (ixD d 5)).map nmG).Nodup)))))))
structure DlsC (mg : Str → Option Value) : Prop where
  c_MOST_GOODS : ∃ t, mg "MOST_GOODS" = some (.int 64 t)
  c_MOST_LISTS : ∃ t, mg "MOST_LISTS" = some (.int 32 t)
theorem isGood_of {H : Hp} {v : V} {d : PyData} (r : Rq H v d) (h : isGood d = true) : ∃ (p : Addr) (xs : List V) (z : Str) (es : List PyData), v = .ref p ∧ H p = some (.tup (.str z :: xs)) ∧ d = .tuple (.str z :: es) ∧ RqA H xs es ∧ hpS paM z = true ∧ es.length = 2 := by
  unfold isGood at h
  simp only [Bool.and_eq_true] at h
  obtain ⟨h1, h2, _⟩ := h
  obtain ⟨p, xs, ds, rfl, ep, rfl, rr, l1, l2⟩ := tupB_of r h1
  cases rr with
  | nil => exact absurd l1 (by decide)
  | @cons v vs d ds a b =>
    have h2 : paD paM d = true := h2
    cases a with
    | str z => exact ⟨p, vs, z, ds, rfl, ep, rfl, b, h2, by rw [List.length_cons] at l1 l2; omega⟩
    | _ => cases h2
theorem strOk_good {H : Hp} {ds : List PyData} {n : Nat} (ho : ∀ d ∈ ds, okD n d = true) {xs : List V} (r : RqA H xs ds) {f : PyData → Bool} (hf : ∀ (v : V) (d : PyData), Rq H v d → f d = true → ∃ z es, d = .tuple (.str z :: es)) (al : ∀ d ∈ ds, f d = true) : ∀ z ∈ ds.map nmG, PyData.strOk z = true := fun z hz => by
  obtain ⟨d, m, rfl⟩ := List.mem_map.mp hz
  obtain ⟨i, hi, e⟩ := List.getElem_of_mem m
  obtain ⟨x, _, Rx⟩ := r.at hi
  rw [List.getD_eq_getElem?_getD, List.getElem?_eq_getElem hi] at Rx
  have Rx : Rq H x d := e ▸ Rx
  obtain ⟨z, es, rfl⟩ := hf x d Rx (al d m)
  have o := ho _ m
  cases n with
  | zero => cases o
  | succ n => exact (okD_str.mp ((okD_tup.mp o).2 _ List.mem_cons_self)).2
theorem asc_sorted {ys xs : List Str} (p : ys.Perm xs) (s : PyProof.Rows.sortedS ys = true) : asc ys = decide xs.Nodup := by
  cases h : asc ys with
  | true => exact (decide_eq_true (p.nodup_iff.mp (asc_nodup h))).symm
  | false =>
    refine (decide_eq_false fun n => ?_).symm
    rw [asc_of s (p.nodup_iff.mpr n)] at h
    cases h
section
variable {P : Program} {w : World} {K : PySem.W.Frag} {mg : Str → Option Value} {base : Heap} {f : Addr} {fd : FuncData}
theorem ok_good {Ts : List Addr} (F : Fun K "_is_good" "_is_good" s_is_good f fd) (B : Blt mg) (c_is_tuple_of : Cal P w K mg base CX0 1 "_is_tuple_of" spTOf) (c_is_path : Cal P w K mg base CX0 7 "is_path" (spPa paM Ts)) (c_is_amount : Cal P w K mg base CX0 2 "is_amount" (spNumP 0)) (c_is_digest : Cal P w K mg base CX0 3 "is_digest" (spDoc isDig Ts)) : FnOk P w K mg base CX0 8 f fd ["value"] (spDoc isGood Ts) := by
  refine F.ok sc_is_good (fun vs H Q E h => ?_) (fun cdv A outer s H vs Q E hr h => ?_)
  · obtain ⟨v, d, rfl, _⟩ := h; rfl
  obtain ⟨v, d, rfl, hR, ho, hG, q⟩ := h
  refine ⟨_, (pss_one (ps_ret (pe_and (c_is_tuple_of.pe hr (pa_cons (pv 0) (pa_cons pe_int pa_nil))) (pe_and (c_is_path.pe hr (pa_cons (pe_ix ix_tM (pv 0) pe_int (fun _ _ => rfl)) pa_nil)) (pe_and (c_is_amount.pe hr (pa_cons (pe_ix ix_tM (pv 0) pe_int (fun _ _ => rfl)) pa_nil)) (pe_one (c_is_digest.pe hr (pa_cons (pe_ix ix_tM (pv 0) pe_int (fun _ _ => rfl)) pa_nil)))))))), ?_⟩
  walk_at "wp"
  have off : isGood d = false → ∀ H', Kp Ts H H' → Tabs Ts H' → Q (.bl false) H' := fun h H' k g => by have y := q H' k g; rw [h] at y; exact y
  refine ⟨v, d, 3, rfl, hR, _, rfl, ?_⟩
  cases h1 : tupB 3 3 d with
  | false =>
    rw [if_neg (by decide)]
    exact off (by unfold isGood; rw [h1]; rfl) _ (Kp.refl _ _) hG
  | true =>
  rw [if_pos rfl]
  obtain ⟨p, xs, ds, rfl, ep, rfl, r, l1, l2⟩ := tupB_of hR h1
  obtain ⟨x0, x1, x2, d0, d1, d2, rfl, rfl, R0, R1, R2⟩ := rq3 r (by omega)
  obtain ⟨o1, o2⟩ := okD_tup.mp ho
  have e1 : isGood (.tuple [d0, d1, d2]) = (paD paM d0 && (numB 0 1000000000000 d1 && isDig d2)) := rfl
  rw [e1] at off q
  refine ⟨p, rfl, _, ep, _, rfl, x0, rfl, hG, R0.tyx, ok_szV R0 (o2 d0 (by simp)), fun H1 k1 g1 => ⟨_, rfl, ?_⟩⟩
  rw [paD_of R0]
  cases h2 : paD paM d0 with
  | false =>
    rw [if_neg (by decide)]
    exact off (by rw [h2]; rfl) _ k1 g1
  | true =>
  rw [if_pos rfl]
  rw [h2, Bool.true_and] at off q
  refine ⟨p, rfl, _, k1.get hG ep, _, rfl, x1, d1, rfl, R1.tabs k1 hG, _, rfl, ?_⟩
  cases h3 : numB 0 1000000000000 d1 with
  | false =>
    rw [if_neg (by decide)]
    exact off (by rw [h3]; rfl) _ k1 g1
  | true =>
  rw [if_pos rfl]
  rw [h3, Bool.true_and] at off q
  exact ⟨p, rfl, _, k1.get hG ep, _, rfl, x2, d2, rfl, R2.tabs k1 hG, ok_mono _ 12 d2 (by decide) (o2 d2 (by simp)), g1, fun H2 k2 g2 => q H2 (k1.trans k2) g2⟩
theorem ok_list {oc kV doc pm ct : Value} {od an : Option Addr} {osl : Array (Option Value)} {c Pt Pc : Addr} {Ts : List Addr} (B : Blt mg) (z1 : mg "sorted" = none) (TB : GxR.TabB base mg c Pt) (D : DlsC mg) (mt : Pt ∈ Ts) (mc : Pc ∈ Ts)
    (lk : K.lookup f = some ⟨oc, od, .func (PySem.W.fnOf "is_list" "is_list" (defArgs s_is_list) (defBody s_is_list) (defScope s_is_list) .none kV doc pm an (.ref c) ct), osl⟩) (hcd : PySem.W.codeIn K (.ref c) "is_list" = true)
    (c_is_headed : Cal P w K mg base CX0 2 "_is_headed" spHead) (c_is_list_name : Cal P w K mg base CX0 4 "is_list_name" (spNm lnV Pc)) (c_is_version : Cal P w K mg base CX0 2 "_is_version" (spNumP 1)) (c_is_amount : Cal P w K mg base CX0 2 "is_amount" (spNumP 0)) (c_is_tuple_within : Cal P w K mg base CX0 1 "_is_tuple_within" spTIn) (c_is_good : Cal P w K mg base CX0 8 "_is_good" (spDoc isGood Ts)) (c_is_grant : Cal P w K mg base CX0 11 "is_grant" (spDoc isGrant Ts)) (c_ascends : Cal P w K mg base CX0 1 "ascends" (spAsc K)) :
    FnOk P w K mg base CX0 15 f (PySem.W.fnOf "is_list" "is_list" (defArgs s_is_list) (defBody s_is_list) (defScope s_is_list) .none kV doc pm an (.ref c) ct) ["value"] (spDoc isList Ts) := by
  refine fn_of lk hcd sc_is_list (fun vs H Q E h => ?_) (fun A outer s H vs Q E hr h => ?_)
  · obtain ⟨v, d, rfl, _⟩ := h; rfl
  obtain ⟨v, d, rfl, hR, ho, hG, q⟩ := h
  refine ⟨_, PSs.nox (pss_cons (ps_if (pt_not (pt_val (c_is_headed.pe hr (pa_cons (pv 0) (pa_cons pe_str (pa_cons pe_int pa_nil)))))) (pss_one (ps_ret pe_bl)) pss_nil)
    (pss_cons (ps_asg (pv 0) (pg_tup rfl (pgs_cons (pg_name (i := 1) sc_is_list.nd rfl (Or.inl rfl)) (pgs_cons (pg_name (i := 2) sc_is_list.nd rfl (Or.inl rfl)) (pgs_cons (pg_name (i := 3) sc_is_list.nd rfl (Or.inl rfl)) (pgs_cons (pg_name (i := 4) sc_is_list.nd rfl (Or.inl rfl)) (pgs_cons (pg_name (i := 5) sc_is_list.nd rfl (Or.inl rfl)) (pgs_cons (pg_name (i := 6) sc_is_list.nd rfl (Or.inl rfl)) pgs_nil))))))))
    (pss_cons (ps_if (PW.pt (pw_or (pt_not (pt_val (c_is_list_name.pe hr (pa_cons (pv 2) pa_nil)))) (pw_or (pt_not (pt_val (c_is_version.pe hr (pa_cons (pv 3) pa_nil)))) (pw_or1 (pt_not (pt_val (c_is_amount.pe hr (pa_cons (pv 4) pa_nil)))))))) (pss_one (ps_ret pe_bl)) pss_nil)
    (pss_cons (ps_if (PW.pt (pw_or (pt_not (pt_val (c_is_tuple_within.pe hr (pa_cons (pv 5) (pa_cons pe_int (pa_cons (pe_cE D.c_MOST_GOODS) pa_nil)))))) (pw_or1 (pt_not (pt_val (pe_allG (N := ["good"]) (nt := 1) (fr := []) rfl hr B TB rfl (gnOf (by decide +kernel)) (by show freeOk _ (defScope s_is_list) = true; decide +kernel) (by show capOk _ _ _ N_is_list _ (defScope s_is_list) = true; decide +kernel)
      (pi_tup (pv 5)) (fun _ _ _ _ _ hr => (pg_name (i := 0) (by show List.Nodup (["good"] : List Str); decide +kernel) rfl (Or.inl rfl))) (fun _ _ _ _ _ hr => pts_nil) (fun _ _ _ _ _ hr => (c_is_good.pe hr (pa_cons (pv 0) pa_nil))) (fun _ => rfl))))))) (pss_one (ps_ret pe_bl)) pss_nil)
    (pss_cons (ps_if (PW.pt (pw_or (pt_not (pt_val (c_is_tuple_within.pe hr (pa_cons (pv 6) (pa_cons pe_int (pa_cons (pe_cE D.c_MOST_LISTS) pa_nil)))))) (pw_or1 (pt_not (pt_val (pe_allG (N := ["grant"]) (nt := 1) (fr := []) rfl hr B TB rfl (gnOf (by decide +kernel)) (by show freeOk _ (defScope s_is_list) = true; decide +kernel) (by show capOk _ _ _ N_is_list _ (defScope s_is_list) = true; decide +kernel)
      (pi_tup (pv 6)) (fun _ _ _ _ _ hr => (pg_name (i := 0) (by show List.Nodup (["grant"] : List Str); decide +kernel) rfl (Or.inl rfl))) (fun _ _ _ _ _ hr => pts_nil) (fun _ _ _ _ _ hr => (c_is_grant.pe hr (pa_cons (pv 0) pa_nil))) (fun _ => rfl))))))) (pss_one (ps_ret pe_bl)) pss_nil)
    (pss_cons (ps_setLc (i := 7) (own := [("grant", 8)]) (g := gName 8) (tt := tYes) rfl sc_is_list.nd rfl rfl (sw_true rfl rfl rfl (by decide +kernel)) (pi_tup (pv 6)) (blkOk_by (own := [("grant", 8)]) (N := N_is_list) (sc := defScope s_is_list) (by decide +kernel)) (fun _ _ _ _ _ => pg_name (i := 8) sc_is_list.nd rfl (Or.inl rfl)) (fun _ _ _ _ _ => pts_nil) (fun _ _ _ _ _ => (pe_ix ix_tM (pv 8) pe_int (fun _ _ => rfl))))
    (pss_one (ps_ret (pe_and (c_ascends.pe hr (pa_cons (pe_lc (own := [("good", 9)]) (g := gName 9) (tt := tYes) rfl sc_is_list.nd (pi_tup (pv 5)) (blkOk_by (own := [("good", 9)]) (N := N_is_list) (sc := defScope s_is_list) (by decide +kernel)) (fun _ _ _ _ _ => pg_name (i := 9) sc_is_list.nd rfl (Or.inl rfl)) (fun _ _ _ _ _ => pts_nil) (fun _ _ _ _ _ => (pe_ix ix_tM (pv 9) pe_int (fun _ _ => rfl)))) pa_nil)) (pe_and (c_ascends.pe hr (pa_cons (pe_callB cr_sortedA rfl z1 (by decide +kernel) (pa_cons (pv 7) pa_nil)) pa_nil)) (pe_one (pe_cmpR (show OpR _ _ (rIn K true) from op_notIn_seq) (pv 2) (pv 7) (by rfl))))))))))))), ?_⟩
  walk_at "wp"
  have off : isList d = false → ∀ H', Kp Ts H H' → Tabs Ts H' → Q (.bl false) H' := fun h H' k g => by have y := q H' k g; rw [h] at y; exact y
  refine ⟨v, d, _, 6, rfl, hR, by decide, _, rfl, ?_⟩
  cases h1 : headB (Str.ofString "list") 6 d with
  | false =>
    rw [if_pos rfl]
    exact off (by unfold isList; rw [h1]; rfl) H (Kp.refl _ _) hG
  | true =>
  rw [if_neg (by decide)]
  have h1' := h1
  unfold headB at h1'
  rw [Bool.and_eq_true] at h1'
  obtain ⟨p, xs, ds, rfl, ep, rfl, r, l1, l2⟩ := tupB_of hR h1'.1
  obtain ⟨x0, x1, x2, x3, x4, x5, d0, d1, d2, d3, d4, d5, rfl, rfl, R0, R1, R2, R3, R4, R5⟩ := rq6 r (by omega)
  obtain ⟨o1, o2⟩ := okD_tup.mp ho
  have e1 : isList (.tuple [d0, d1, d2, d3, d4, d5]) = (headB (Str.ofString "list") 6 (.tuple [d0, d1, d2, d3, d4, d5]) && (lnD d1 && (numB 1 1000000000000 d2 && (numB 0 1000000000000 d3 && (isGoods d4 && (tupB 0 32 d5 && ((itD d5).all isGrant && decide ((strD d1 :: (itD d5).map nmG).Nodup)))))))) := rfl
  rw [h1, Bool.true_and] at e1
  rw [e1] at off q
  refine ⟨p, _, rfl, SqT.of ep, rfl, x0, _, rfl, x1, _, rfl, x2, _, rfl, x3, _, rfl, x4, _, rfl, x5, _, rfl, rfl, ?_⟩
  walk_at "wp"
  refine ⟨x1, rfl, hG _ mc, R1.tyx, ok_szV R1 (o2 d1 (by simp)), fun H1 k1 g1 => ⟨_, rfl, ?_⟩⟩
  rw [lnD_of R1]
  have K1 := k1.in1 mc
  have G1 := hG.kp1 k1 g1
  cases h2 : lnD d1 with
  | false =>
    rw [if_pos rfl]
    exact off (by rw [h2]; rfl) _ K1 G1
  | true =>
  rw [if_neg (by decide)]
  rw [h2, Bool.true_and] at off q
  obtain ⟨z, rfl, rfl⟩ : ∃ z, x1 = .str z ∧ d1 = .str z := isS_of R1 (by cases d1 <;> first | rfl | cases h2)
  refine ⟨x2, d2, rfl, R2.tabs K1 hG, _, rfl, ?_⟩
  cases h3 : numB 1 1000000000000 d2 with
  | false =>
    rw [if_pos rfl]
    exact off (by rw [h3]; rfl) _ K1 G1
  | true =>
  rw [if_neg (by decide)]
  rw [h3, Bool.true_and] at off q
  refine ⟨x3, d3, rfl, R3.tabs K1 hG, _, rfl, ?_⟩
  cases h4 : numB 0 1000000000000 d3 with
  | false =>
    rw [if_pos rfl]
    exact off (by rw [h4]; rfl) _ K1 G1
  | true =>
  rw [if_neg (by decide)]
  rw [h4, Bool.true_and] at off q
  refine ⟨x4, d4, 0, 64, rfl, R4.tabs K1 hG, _, rfl, ?_⟩
  cases h5 : tupB 0 64 d4 with
  | false =>
    rw [if_pos rfl]
    exact off (by unfold isGoods; rw [h5]; rfl) _ K1 G1
  | true =>
  rw [if_neg (by decide)]
  obtain ⟨b, ys, es, rfl, eb, rfl, rr, l3, l4⟩ := tupB_of R4 h5
  rw [show isGoods (.tuple es) = (tupB 0 64 (.tuple es) && (es.all isGood && asc (es.map nmG))) from rfl, h5, Bool.true_and] at off q
  obtain ⟨o3, o4⟩ := okD_tup.mp (o2 (.tuple es) (by simp))
  have e3 := K1.get hG eb
  refine ⟨_, rfl, b, rfl, ⟨ys, SqT.of e3⟩, G1 _ mt, fun H2 hT => ?_⟩
  have g2 := G1.tab hT mt
  have k2 : Kp Ts H1 H2 := Kp.tab (G1 _ mt) hT mt
  have K2 := K1.trans k2
  refine all_rq (K := K) (o := none) (cap := []) (f := isGood) (K2.get hG eb) (rr.tabs K2 hG) g2 (fun x d H' R hx md k3 g3 hq => ?_) (fun H3 k3 g3 h6 => ?_) (fun σ H3 k3 g3 h6 => ?_)
  · exact ⟨x, rfl, x, d, rfl, hx, ok_mono _ 12 d (by decide) (o4 d md), g3, hq⟩
  · refine ⟨_, rfl, ?_⟩
    rw [if_pos rfl]
    exact off (by rw [h6]; rfl) H3 (K2.trans k3) g3
  refine ⟨_, rfl, ?_⟩
  rw [if_neg (by decide)]
  have K3 := K2.trans k3
  rw [h6, Bool.true_and] at off q
  have al := List.all_eq_true.mp h6
  refine ⟨x5, d5, 0, 32, rfl, R5.tabs K3 hG, _, rfl, ?_⟩
  cases h7 : tupB 0 32 d5 with
  | false =>
    rw [if_pos rfl]
    exact off (by rw [h7, Bool.false_and, Bool.and_false]) _ K3 g3
  | true =>
  rw [if_neg (by decide)]
  obtain ⟨b2, ws, us, rfl, eb2, rfl, ru, l5, l6⟩ := tupB_of R5 h7
  rw [h7, Bool.true_and, show itD (.tuple us) = us from rfl] at off q
  obtain ⟨o5, o6⟩ := okD_tup.mp (o2 (.tuple us) (by simp))
  have e5 := K3.get hG eb2
  refine ⟨_, rfl, b2, rfl, ⟨ws, SqT.of e5⟩, g3 _ mt, fun H4 hT => ?_⟩
  have g4 := g3.tab hT mt
  have k4 : Kp Ts H3 H4 := Kp.tab (g3 _ mt) hT mt
  have K4 := K3.trans k4
  refine all_rq (K := K) (o := none) (cap := []) (f := isGrant) (K4.get hG eb2) (ru.tabs K4 hG) g4 (fun x d H' R hx md k5 g5 hq => ?_) (fun H5 k5 g5 h8 => ?_) (fun σ H5 k5 g5 h8 => ?_)
  · exact ⟨x, rfl, x, d, rfl, hx, ok_mono _ 12 d (by decide) (o6 d md), g5, hq⟩
  · refine ⟨_, rfl, ?_⟩
    rw [if_pos rfl]
    exact off (by rw [h8, Bool.false_and, Bool.and_false]) H5 (K4.trans k5) g5
  have K5 := K4.trans k5
  refine ⟨_, rfl, ?_⟩
  rw [if_neg (by decide)]
  rw [h8, Bool.true_and] at off q
  have alG := List.all_eq_true.mp h8
  refine lc_nm (nm := nmG) (K5.get hG eb2) (ru.tabs K5 hG) o5 (fun R h => ⟨_, rfl, h⟩) (fun _ => rfl) (fun x d H' R hx md hr => ?_) (fun D H6 k6 a6 hD => ?_)
  · obtain ⟨p2, xs2, z2, es2, rfl, ep2, rfl, _⟩ := isGrant_of hx (alG d md)
    exact ⟨_, rfl, p2, rfl, _, ep2, 0, rfl, _, at0, hr⟩
  have K6 := K5.trans (k6.in0 : Kp Ts H5 H6)
  have g6 := g5.kp0 k6
  refine lc_nm (nm := nmG) (K6.get hG eb) (rr.tabs K6 hG) o3 (fun R h => ⟨_, rfl, h⟩) (fun _ => rfl) (fun x d H' R hx md hr => ?_) (fun D2 H7 k7 a7 hD2 => ?_)
  · obtain ⟨p2, xs2, z2, es2, rfl, ep2, rfl, _⟩ := isGood_of hx (al d md)
    exact ⟨_, rfl, p2, rfl, _, ep2, 0, rfl, _, at0, hr⟩
  have K7 := K6.trans (k7.in0 : Kp Ts H6 H7)
  have g7 := g6.kp0 k7
  have sg := strOk_good o4 rr (f := isGood) (fun v d r h => by obtain ⟨_, _, z, es, _, _, e, _⟩ := isGood_of r h; exact ⟨z, es, e⟩) al
  refine ⟨D2, es.map nmG, rfl, SqL.of a7, by rw [List.length_map]; omega, sg, fun H8 k8 => ⟨_, rfl, ?_⟩⟩
  cases h9 : asc (es.map nmG) with
  | false =>
    rw [if_neg (by decide)]
    exact off (by rw [h9]; rfl) H8 (K7.trans k8.in0) (g7.kp0 k8)
  | true =>
  rw [if_pos rfl]
  rw [h9, Bool.true_and] at off q
  have a8 := (k7.trans k8).keep D _ List.not_mem_nil a6
  refine ⟨D, us.map nmG, rfl, SqL.of a8, fun ns p9 perm srt hp9 => ?_⟩
  have k9 := Kp.new (S := []) hp9 (.lst (ns.map V.str))
  have sgg := strOk_good o6 ru (f := isGrant) (fun v d r h => by obtain ⟨_, _, z, es, _, _, e, _⟩ := isGrant_of r h; exact ⟨z, es, e⟩) alG
  have ln9 : ns.length = us.length := by rw [perm.length_eq, List.length_map]
  refine ⟨p9, ns, rfl, SqL.of upd_same, by omega, fun z hz => sgg z (perm.mem_iff.mp hz), fun H10 k10 => ⟨_, rfl, ?_⟩⟩
  have K10 := ((K7.trans (k8.in0 : Kp Ts H7 H8)).trans (k9.in0 : Kp Ts H8 _)).trans (k10.in0 : Kp Ts _ H10)
  have g10 := ((g7.kp0 k8).kp0 k9).kp0 k10
  rw [asc_sorted perm srt]
  cases h10 : decide (us.map nmG).Nodup with
  | false =>
    rw [if_neg (by decide)]
    exact off (decide_eq_false fun n => of_decide_eq_false h10 (List.nodup_cons.mp n).2) _ K10 g10
  | true =>
  rw [if_pos rfl]
  have a10 := (k9.trans k10).keep D _ List.not_mem_nil a8
  have y := q _ K10 g10
  rw [show decide (strD (PyData.str z) :: us.map nmG).Nodup = !decide (z ∈ us.map nmG) by
    rw [Bool.eq_iff_iff, decide_eq_true_eq, Bool.not_eq_true', decide_eq_false_iff_not, List.nodup_cons]
    exact ⟨fun h => h.1, fun h => ⟨h, of_decide_eq_true h10⟩⟩] at y
  refine ⟨D, _, rfl, .inl (SqL.of a10), rfl, flat_strsQ _, ?_⟩
  rw [inV_strsQ]
  exact y
end
/-! lists: what the law asks -/
/-! lists: how the law draws them -/
/-! published names -/
/-! a document, or BadDocument -/
abbrev s_require_document : Stmt := top 72
abbrev N_require_document : List Str := ["value"]
theorem sc_require_document : FnScope N_require_document ["value"] (defScope s_require_document) := ⟨rfl, rfl, rfl, by decide +kernel, rfl, by decide +kernel, by decide +kernel⟩
def isDoc (d : PyData) : Bool := isCharter d || isStamp d || isShelf d || isList d
structure BdC (K : PySem.W.Frag) (mg : Str → Option Value) (C0 : Addr) : Prop where
  BadDocument : Err K mg "BadDocument" C0
def spReq (C0 : Addr) (Ts : List Addr) : Sp := fun vs H Q E => ∃ (v : V) (d : PyData), vs = [v] ∧ Rq H v d ∧ okD 12 d = true ∧ Tabs Ts H ∧ (isDoc d = true → ∀ H', Kp Ts H H' → Tabs Ts H' → Q .non H') ∧ (isDoc d = false → ∀ H', Kp Ts H H' → Tabs Ts H' → E (.ref C0) none H')
section
variable {P : Program} {w : World} {K : PySem.W.Frag} {mg : Str → Option Value} {base : Heap} {f : Addr} {fd : FuncData} {C0 : Addr} {Ts : List Addr}
theorem ok_reqdoc (F : Fun K "_require_document" "_require_document" s_require_document f fd) (B : Blt mg) (T : BdC K mg C0) (c_is_charter : Cal P w K mg base CX0 12 "is_charter" (spDoc isCharter Ts)) (c_is_stamp : Cal P w K mg base CX0 12 "is_stamp" (spDoc isStamp Ts)) (c_is_shelf : Cal P w K mg base CX0 12 "is_shelf" (spDoc isShelf Ts)) (c_is_list : Cal P w K mg base CX0 15 "is_list" (spDoc isList Ts)) :
    FnOk P w K mg base (L2.CX P w) 16 f fd ["value"] (spReq C0 Ts) := by
  refine F.okX sc_require_document (fun vs H Q E h => ?_) (fun cdv A outer s H vs Q E hr h => ?_)
  · obtain ⟨v, d, rfl, _⟩ := h; rfl
  obtain ⟨v, d, rfl, hR, ho, hG, q, qe⟩ := h
  refine ⟨_, (pss_one (ps_if (PW.pt (pw_and (pt_not (pt_val (c_is_charter.pe hr (pa_cons (pv 0) pa_nil)))) (pw_and (pt_not (pt_val (c_is_stamp.pe hr (pa_cons (pv 0) pa_nil)))) (pw_and (pt_not (pt_val (c_is_shelf.pe hr (pa_cons (pv 0) pa_nil)))) (pw_and1 (pt_not (pt_val (c_is_list.pe hr (pa_cons (pv 0) pa_nil))))))))) (pss_one (T.BadDocument.raise (takes_of rfl rfl rfl rfl))) pss_nil)), ?_⟩
  walk_at "wp"
  refine ⟨v, d, rfl, hR, ho, hG, fun H1 k1 g1 => ⟨_, rfl, ?_⟩⟩
  cases h1 : isCharter d with
  | true => rw [if_neg (by decide)]; exact q (by unfold isDoc; rw [h1]; rfl) H1 k1 g1
  | false =>
  rw [if_pos rfl]
  refine ⟨v, d, rfl, hR.tabs k1 hG, ho, g1, fun H2 k2 g2 => ⟨_, rfl, ?_⟩⟩
  have K2 := k1.trans k2
  cases h2 : isStamp d with
  | true => rw [if_neg (by decide)]; exact q (by unfold isDoc; rw [h1, h2]; rfl) H2 K2 g2
  | false =>
  rw [if_pos rfl]
  refine ⟨v, d, rfl, hR.tabs K2 hG, ho, g2, fun H3 k3 g3 => ⟨_, rfl, ?_⟩⟩
  have K3 := K2.trans k3
  cases h3 : isShelf d with
  | true => rw [if_neg (by decide)]; exact q (by unfold isDoc; rw [h1, h2, h3]; rfl) H3 K3 g3
  | false =>
  rw [if_pos rfl]
  refine ⟨v, d, rfl, hR.tabs K3 hG, ho, g3, fun H4 k4 g4 => ⟨_, rfl, ?_⟩⟩
  have K4 := K3.trans k4
  cases h4 : isList d with
  | true => rw [if_neg (by decide)]; exact q (by unfold isDoc; rw [h1, h2, h3, h4]; rfl) H4 K4 g4
  | false => rw [if_pos rfl]; exact qe (by unfold isDoc; rw [h1, h2, h3, h4]; rfl) H4 K4 g4
end
/-! published_name -/
def intD : PyData → Int
  | .int i => i
  | _ => 0
/-! a drawn document of any kind -/
/-! documents as trees, and their texts -/
mutual
theorem Rq.rep {H : Hp} : ∀ (n : Nat) {v : V} {d : PyData}, Rq H v d → pl n (trD d) = true → Rep H v (trD d)
  | _, _, _, .int i, _ => .int i
  | _, _, _, .str z, _ => .str z
  | 0, _, _, .tup _ _, h => by cases h
  | n + 1, _, _, .tup (ds := ds) e r, h => .tup e (r.rep n (show pls n (trDs ds) = true from h))
  | _, _, _, .non, h => by cases h
  | _, _, _, .bl _, h => by cases h
  | _, _, _, .lst _ _, h => by cases h
theorem RqA.rep {H : Hp} : ∀ (n : Nat) {vs : List V} {ds : List PyData}, RqA H vs ds → pls n (trDs ds) = true → RepAll H vs (trDs ds)
  | _, _, _, .nil, _ => .nil
  | n, _, _, .cons (d := d) (ds := ds) a b, h => by
    have h : (pl n (trD d) && pls n (trDs ds)) = true := h
    rw [Bool.and_eq_true] at h
    exact .cons (a.rep n h.1) (b.rep n h.2)
end
mutual
theorem Rep.rq {H : Hp} : ∀ (n : Nat) {v : V} {t : Tr}, Rep H v t → pl n t = true → Rq H v (dT t)
  | _, _, _, .int i, _ => .int i
  | _, _, _, .str z, _ => .str z
  | 0, _, _, .tup _ _, h => by cases h
  | n + 1, _, _, .tup (ts := ts) e r, h => .tup e (r.rq n (show pls n ts = true from h))
  | _, _, _, .oth _ _ _ _, h => by cases h
theorem RepAll.rq {H : Hp} : ∀ (n : Nat) {vs : List V} {ts : List Tr}, RepAll H vs ts → pls n ts = true → RqA H vs (dTs ts)
  | _, _, _, .nil, _ => .nil
  | n, _, _, .cons (t := t) (ts := ts) a b, h => by
    have h : (pl n t && pls n ts) = true := h
    rw [Bool.and_eq_true] at h
    exact .cons (a.rq n h.1) (b.rq n h.2)
end
mutual
theorem dT_tr : ∀ (n : Nat) (d : PyData), pl n (trD d) = true → dT (trD d) = d
  | _, .int _, _ => rfl
  | _, .str _, _ => rfl
  | 0, .tuple _, h => by cases h
  | n + 1, .tuple ds, h => congrArg PyData.tuple (dTs_tr n ds h)
  | _, .none, h => by cases h
  | _, .bool _, h => by cases h
  | _, .list _, h => by cases h
  | _, .dict _, h => by cases h
theorem dTs_tr : ∀ (n : Nat) (ds : List PyData), pls n (trDs ds) = true → dTs (trDs ds) = ds
  | _, [], _ => rfl
  | n, d :: ds, h => by
    have h : (pl n (trD d) && pls n (trDs ds)) = true := h
    rw [Bool.and_eq_true] at h
    show dT (trD d) :: dTs (trDs ds) = _
    rw [dT_tr n d h.1, dTs_tr n ds h.2]
end
/-- plain to the depth n, of a text of L signs at most -/
def Sz (n L : Nat) (d : PyData) : Prop := pl n (trD d) = true ∧ (txt (trD d)).length ≤ L
def Szs (n L : Nat) (ds : List PyData) : Prop := pls n (trDs ds) = true ∧ (txts (trDs ds)).length ≤ L
theorem szs_nil {n : Nat} : Szs n 0 [] := ⟨rfl, Nat.zero_le _⟩
theorem szs_cons {n a b : Nat} {d : PyData} {ds : List PyData} (h : Sz n a d) (g : Szs n b ds) : Szs n (a + b) (d :: ds) := by
  refine ⟨?_, ?_⟩
  · show (pl n (trD d) && pls n (trDs ds)) = true
    rw [h.1, g.1]; rfl
  · show (txt (trD d) ++ txts (trDs ds)).length ≤ _
    rw [List.length_append]
    have := h.2
    have := g.2
    omega
theorem szs_all {n a : Nat} : ∀ {m : Nat} {ds : List PyData}, (∀ d ∈ ds, Sz n a d) → ds.length ≤ m → Szs n (m * a) ds
  | _, [], _, _ => ⟨rfl, Nat.zero_le _⟩
  | 0, _ :: _, _, h => absurd h (by simp)
  | m + 1, d :: ds, h, l => by
    have := szs_cons (h d List.mem_cons_self) (szs_all (m := m) (fun e he => h e (List.mem_cons_of_mem _ he)) (by simp only [List.length_cons] at l; omega))
    rw [show (m + 1) * a = a + m * a by rw [Nat.succ_mul, Nat.add_comm]]
    exact this
theorem sz_tup {n L : Nat} {ds : List PyData} (h : Szs n L ds) : Sz (n + 1) (L + 2) (.tuple ds) := by
  refine ⟨h.1, ?_⟩
  show (91 :: (txts (trDs ds) ++ [93])).length ≤ _
  rw [List.length_cons, List.length_append]
  have := h.2
  show _ + 1 + 1 ≤ _
  omega
theorem sz_mono {n m a b : Nat} {d : PyData} (h : Sz n a d) (h1 : n ≤ m) (h2 : a ≤ b) : Sz m b d := ⟨pl_mono n m _ h1 h.1, Nat.le_trans h.2 h2⟩
theorem sz_int {n : Nat} {i : Int} (h0 : 0 ≤ i) (h1 : i ≤ 1000000000000) : Sz n 14 (.int i) := by
  refine ⟨?_, ?_⟩
  · show (decide (0 ≤ i) && decide (i ≤ 99999999999999999999)) = true
    rw [decide_eq_true h0, decide_eq_true (show i ≤ 99999999999999999999 by omega)]; rfl
  · show (dig i.toNat ++ [46]).length ≤ _
    rw [List.length_append]
    have : (dig i.toNat).length ≤ 13 := TL.numL_len (by decide) (show i.toNat < 10 ^ 13 by omega)
    show _ + 1 ≤ _
    omega
theorem sz_str {n m : Nat} {z : Str} (h : prn z = true) (l : z.length ≤ m) (hm : m < 100) : Sz n (m + 3) (.str z) := by
  refine ⟨h, ?_⟩
  show (dig z.length ++ 58 :: TL.tl z).length ≤ _
  rw [List.length_append, List.length_cons, ← TL.len_tl]
  have : (dig z.length).length ≤ 2 := TL.numL_len (by decide) (show z.length < 10 ^ 2 by omega)
  omega
theorem sz_num {n : Nat} {lo hi : Int} {d : PyData} (h : numB lo hi d = true) (h0 : 0 ≤ lo) (h1 : hi ≤ 1000000000000) : Sz n 14 d := by
  cases d with
  | int i =>
    have h : (decide (lo ≤ i) && decide (i ≤ hi)) = true := h
    rw [Bool.and_eq_true, decide_eq_true_eq, decide_eq_true_eq] at h
    exact sz_int (by omega) (by omega)
  | _ => cases h
theorem inT_prn {m z : Str} (h : inT m z = true) (hm : ∀ c ∈ m.cps.toList, prc c = true) : prn z = true := by
  unfold prn
  unfold inT at h
  rw [List.all_eq_true] at h ⊢
  exact fun c hc => hm c (of_decide_eq_true (h c hc))
theorem joinL_in {s c : Nat} : ∀ {l : List (List Nat)}, c ∈ TL.joinL [s] l → c = s ∨ ∃ p ∈ l, c ∈ p
  | [], h => by cases h
  | [p], h => .inr ⟨p, List.mem_cons_self, h⟩
  | p :: q :: r, h => by
    have h : c ∈ p ++ ([s] ++ TL.joinL [s] (q :: r)) := h
    rcases List.mem_append.mp h with h | h
    · exact .inr ⟨p, List.mem_cons_self, h⟩
    · rcases List.mem_append.mp h with h | h
      · exact .inl (List.mem_singleton.mp h)
      · rcases joinL_in h with h | ⟨x, hx, h⟩
        · exact .inl h
        · exact .inr ⟨x, List.mem_cons_of_mem _ hx, h⟩
theorem hpS_prn {m z : Str} (h : hpS m z = true) (hm : ∀ c ∈ m.cps.toList, prc c = true) : prn z = true ∧ z.length ≤ 60 := by
  unfold hpS at h
  rw [Bool.and_eq_true, Bool.and_eq_true, decide_eq_true_eq] at h
  refine ⟨?_, h.1.1⟩
  unfold prn
  rw [List.all_eq_true]
  intro c hc
  obtain ⟨p, ps, e1, e2, _, _⟩ := split_one z 47 (by decide)
  have hc : c ∈ TL.tl z := hc
  rw [← e2, ← e1] at hc
  rcases joinL_in hc with rfl | ⟨q, hq, hc⟩
  · decide
  · obtain ⟨y, hy, rfl⟩ := List.mem_map.mp hq
    have ha := List.all_eq_true.mp h.2 y hy
    rw [Bool.and_eq_true] at ha
    have hi := ha.2
    unfold inT at hi
    rw [List.all_eq_true] at hi
    exact hm c (of_decide_eq_true (hi c hc))
theorem tupB_d {a b : Nat} {d : PyData} (h : tupB a b d = true) : ∃ ds, d = .tuple ds ∧ a ≤ ds.length ∧ ds.length ≤ b := by
  cases d with
  | tuple ds =>
    have h : (decide (a ≤ ds.length) && decide (ds.length ≤ b)) = true := h
    rw [Bool.and_eq_true, decide_eq_true_eq, decide_eq_true_eq] at h
    exact ⟨ds, rfl, h.1, h.2⟩
  | _ => cases h
theorem tup2_d {d : PyData} (h : tupB 2 2 d = true) : ∃ a b, d = .tuple [a, b] := by
  obtain ⟨ds, rfl, h1, h2⟩ := tupB_d h
  match ds, h1, h2 with
  | [a, b], _, _ => exact ⟨a, b, rfl⟩
  | [], h, _ => exact absurd h (by simp)
  | [_], h, _ => exact absurd h (by simp)
  | _ :: _ :: _ :: _, _, h => exact absurd h (by simp)
theorem tup3_d {d : PyData} (h : tupB 3 3 d = true) : ∃ a b c, d = .tuple [a, b, c] := by
  obtain ⟨ds, rfl, h1, h2⟩ := tupB_d h
  match ds, h1, h2 with
  | [a, b, c], _, _ => exact ⟨a, b, c, rfl⟩
  | [], h, _ => exact absurd h (by simp)
  | [_], h, _ => exact absurd h (by simp)
  | [_, _], h, _ => exact absurd h (by simp)
  | _ :: _ :: _ :: _ :: _, _, h => exact absurd h (by simp)
theorem tup4_d {d : PyData} (h : tupB 4 4 d = true) : ∃ a b c e, d = .tuple [a, b, c, e] := by
  obtain ⟨ds, rfl, h1, h2⟩ := tupB_d h
  match ds, h1, h2 with
  | [a, b, c, e], _, _ => exact ⟨a, b, c, e, rfl⟩
  | [], h, _ => exact absurd h (by simp)
  | [_], h, _ => exact absurd h (by simp)
  | [_, _], h, _ => exact absurd h (by simp)
  | [_, _, _], h, _ => exact absurd h (by simp)
  | _ :: _ :: _ :: _ :: _ :: _, _, h => exact absurd h (by simp)
theorem tup6_d {d : PyData} (h : tupB 6 6 d = true) : ∃ a b c e f g, d = .tuple [a, b, c, e, f, g] := by
  obtain ⟨ds, rfl, h1, h2⟩ := tupB_d h
  match ds, h1, h2 with
  | [a, b, c, e, f, g], _, _ => exact ⟨a, b, c, e, f, g, rfl⟩
  | [], h, _ => exact absurd h (by simp)
  | [_], h, _ => exact absurd h (by simp)
  | [_, _], h, _ => exact absurd h (by simp)
  | [_, _, _], h, _ => exact absurd h (by simp)
  | [_, _, _, _], h, _ => exact absurd h (by simp)
  | [_, _, _, _, _], h, _ => exact absurd h (by simp)
  | _ :: _ :: _ :: _ :: _ :: _ :: _ :: _, _, h => exact absurd h (by simp)
theorem ky_prn {z : Str} (h : kyS z = true) : prn z = true := by
  unfold prn
  rw [List.all_eq_true]
  intro c hc
  unfold kyS at h
  simp only [Bool.and_eq_true, decide_eq_true_eq] at h
  obtain ⟨⟨⟨h1, h2⟩, h3⟩, h4⟩ := h
  have hl : z.cps.toList.length = z.length := cps_lenP z
  cases e : z.cps.toList with
  | nil => rw [e] at hl; simp at hl; omega
  | cons d r =>
    have hc : c ∈ d :: r := by rw [← e]; exact hc
    rw [e] at h3
    have h3 : d = 107 := Option.some.inj h3
    rcases List.mem_cons.mp hc with hc | hc
    · rw [hc, h3]; decide +kernel
    · unfold inT at h4
      rw [List.all_eq_true] at h4
      have e2 : (cutS z (some 1) none).cps.toList = r := by
        have := cut_from z 1
        rw [show TL.tl z = d :: r from e] at this
        exact this
      have := of_decide_eq_true (h4 c (by rw [e2]; exact hc))
      exact (by decide +kernel : ∀ c ∈ (Str.ofString "0123456789").cps.toList, prc c = true) c this
theorem sz_ky {n : Nat} {d : PyData} (h : kyD d = true) : Sz n 15 d := by
  cases d with
  | str z =>
    have h : kyS z = true := h
    refine sz_str (m := 12) (ky_prn h) ?_ (by decide)
    unfold kyS at h
    simp only [Bool.and_eq_true, decide_eq_true_eq] at h
    exact h.1.1.2
  | _ => cases h
theorem sz_ln {n : Nat} {d : PyData} (h : lnD d = true) : Sz n 15 d := by
  cases d with
  | str z =>
    have h : lnS z = true := h
    unfold lnS at h
    simp only [Bool.and_eq_true, decide_eq_true_eq] at h
    exact sz_str (m := 12) (inT_prn h.2 (by decide +kernel)) h.1.2 (by decide)
  | _ => cases h
theorem sz_dig {n : Nat} {d : PyData} (h : isDig d = true) : Sz n 21 d := by
  cases d with
  | str z =>
    have h : (decide (z.length = 18) && inT hexM z) = true := h
    rw [Bool.and_eq_true, decide_eq_true_eq] at h
    exact sz_str (m := 18) (inT_prn h.2 (by decide +kernel)) (by omega) (by decide)
  | _ => cases h
theorem sz_pa {n : Nat} {m : Str} {d : PyData} (h : paD m d = true) (hm : ∀ c ∈ m.cps.toList, prc c = true) : Sz n 63 d := by
  cases d with
  | str z =>
    obtain ⟨a, b⟩ := hpS_prn (show hpS m z = true from h) hm
    exact sz_str (m := 60) a b (by decide)
  | _ => cases h
theorem sz_eqS {n : Nat} {k : Str} {d : PyData} (h : eqS k d = true) (p : prn k = true) (l : k.length ≤ 7) : Sz n 10 d := by
  cases d with
  | str z =>
    have h : decide (z = k) = true := h
    rw [of_decide_eq_true h]
    exact sz_str (m := 7) p l (by decide)
  | _ => cases h
theorem sz_role {d : PyData} (h : isRole d = true) : Sz 2 258 d := by
  unfold isRole at h
  simp only [Bool.and_eq_true] at h
  obtain ⟨h1, h2, h3, _, h5⟩ := h
  obtain ⟨a, b, rfl⟩ := tup2_d h1
  obtain ⟨ks, rfl, l1, l2⟩ := tupB_d (show tupB 1 16 b = true from h2)
  have h5 : numB 1 (ks.length : Nat) a = true := h5
  have h3 : ks.all kyD = true := h3
  have key : Sz 1 (16 * 15 + 2) (.tuple ks) := sz_tup (szs_all (fun d m => sz_ky (List.all_eq_true.mp h3 d m)) l2)
  exact sz_mono (sz_tup (szs_cons (sz_num h5 (by decide) (by omega)) (szs_cons key szs_nil))) (by decide) (by decide)
theorem sz_entry {d : PyData} (h : isEntry d = true) : Sz 1 51 d := by
  unfold isEntry at h
  simp only [Bool.and_eq_true] at h
  obtain ⟨h1, h2, h3, h4⟩ := h
  obtain ⟨a, b, c, rfl⟩ := tup3_d h1
  exact sz_mono (sz_tup (szs_cons (sz_num (n := 0) (show numB 1 1000000000000 a = true from h2) (by decide) (by decide)) (szs_cons (sz_num (n := 0) (show numB 0 1000000000000 b = true from h3) (by decide) (by decide)) (szs_cons (sz_dig (show isDig c = true from h4)) szs_nil)))) (by decide) (by decide)
theorem sz_NE {d : PyData} (h : isNE d = true) : Sz 1 66 d := by
  unfold isNE at h
  simp only [Bool.and_eq_true] at h
  obtain ⟨h1, h2, h3⟩ := h
  obtain ⟨a, b, c, e, rfl⟩ := tup4_d h1
  have h3 : isEntry (.tuple [b, c, e]) = true := h3
  unfold isEntry at h3
  simp only [Bool.and_eq_true] at h3
  obtain ⟨_, g1, g2, g3⟩ := h3
  exact sz_mono (sz_tup (szs_cons (sz_ln (show lnD a = true from h2)) (szs_cons (sz_num (n := 0) (show numB 1 1000000000000 b = true from g1) (by decide) (by decide)) (szs_cons (sz_num (n := 0) (show numB 0 1000000000000 c = true from g2) (by decide) (by decide)) (szs_cons (sz_dig (show isDig e = true from g3)) szs_nil))))) (by decide) (by decide)
theorem sz_good {d : PyData} (h : isGood d = true) : Sz 1 100 d := by
  unfold isGood at h
  simp only [Bool.and_eq_true] at h
  obtain ⟨h1, h2, h3, h4⟩ := h
  obtain ⟨a, b, c, rfl⟩ := tup3_d h1
  exact sz_mono (sz_tup (szs_cons (sz_pa (show paD paM a = true from h2) (by decide +kernel)) (szs_cons (sz_num (n := 0) (show numB 0 1000000000000 b = true from h3) (by decide) (by decide)) (szs_cons (sz_dig (show isDig c = true from h4)) szs_nil)))) (by decide) (by decide)
theorem sz_grant {d : PyData} (h : isGrant d = true) : Sz 3 795 d := by
  unfold isGrant at h
  simp only [Bool.and_eq_true] at h
  obtain ⟨h1, h2, _, h3, h4, h5, h6⟩ := h
  obtain ⟨a, b, c, e, rfl⟩ := tup4_d h1
  obtain ⟨ps, rfl, l1, l2⟩ := tupB_d (show tupB 1 8 c = true from h4)
  have h5 : ps.all (paD ptM) = true := h5
  have pat : Sz 2 (8 * 63 + 2) (.tuple ps) := sz_tup (szs_all (fun d m => sz_pa (List.all_eq_true.mp h5 d m) (by decide +kernel)) l2)
  exact sz_mono (sz_tup (szs_cons (sz_ln (show lnD a = true from h2)) (szs_cons (sz_role (show isRole b = true from h3)) (szs_cons pat (szs_cons (sz_num (show numB 0 1 e = true from h6) (by decide) (by decide)) szs_nil))))) (by decide) (by decide)
theorem sz_charter {d : PyData} (h : isCharter d = true) : Sz 4 1100 d := by
  unfold isCharter headB at h
  simp only [Bool.and_eq_true] at h
  obtain ⟨⟨h1, h0⟩, h2, h3, h4, h5⟩ := h
  obtain ⟨a, b, c, e, rfl⟩ := tup4_d h1
  obtain ⟨rs, rfl, l1, l2⟩ := tupB_d (show tupB 4 4 e = true from h4)
  have h5 : rs.all isRole = true := h5
  have roles : Sz 3 (4 * 258 + 2) (.tuple rs) := sz_tup (szs_all (fun d m => sz_role (List.all_eq_true.mp h5 d m)) l2)
  exact sz_mono (sz_tup (szs_cons (sz_eqS (show eqS (Str.ofString "charter") a = true from h0) (by decide +kernel) (by decide +kernel)) (szs_cons (sz_num (show numB 1 1000000000000 b = true from h2) (by decide) (by decide)) (szs_cons (sz_num (show numB 0 1000000000000 c = true from h3) (by decide) (by decide)) (szs_cons roles szs_nil))))) (by decide) (by decide)
theorem sz_stamp {d : PyData} (h : isStamp d = true) : Sz 2 100 d := by
  unfold isStamp headB at h
  simp only [Bool.and_eq_true] at h
  obtain ⟨⟨h1, h0⟩, h2, h3, h4⟩ := h
  obtain ⟨a, b, c, e, rfl⟩ := tup4_d h1
  exact sz_mono (sz_tup (szs_cons (sz_eqS (n := 1) (show eqS (Str.ofString "stamp") a = true from h0) (by decide +kernel) (by decide +kernel)) (szs_cons (sz_num (show numB 1 1000000000000 b = true from h2) (by decide) (by decide)) (szs_cons (sz_num (show numB 0 1000000000000 c = true from h3) (by decide) (by decide)) (szs_cons (sz_entry (show isEntry e = true from h4)) szs_nil))))) (by decide) (by decide)
theorem sz_shelf {d : PyData} (h : isShelf d = true) : Sz 3 2200 d := by
  unfold isShelf headB at h
  simp only [Bool.and_eq_true] at h
  obtain ⟨⟨h1, h0⟩, h2, h3, h4, h5, _⟩ := h
  obtain ⟨a, b, c, e, rfl⟩ := tup4_d h1
  obtain ⟨rs, rfl, l1, l2⟩ := tupB_d (show tupB 1 32 e = true from h4)
  have h5 : rs.all isNE = true := h5
  have rows : Sz 2 (32 * 66 + 2) (.tuple rs) := sz_tup (szs_all (fun d m => sz_NE (List.all_eq_true.mp h5 d m)) l2)
  exact sz_mono (sz_tup (szs_cons (sz_eqS (show eqS (Str.ofString "shelf") a = true from h0) (by decide +kernel) (by decide +kernel)) (szs_cons (sz_num (show numB 1 1000000000000 b = true from h2) (by decide) (by decide)) (szs_cons (sz_num (show numB 0 1000000000000 c = true from h3) (by decide) (by decide)) (szs_cons rows szs_nil))))) (by decide) (by decide)
theorem sz_list {d : PyData} (h : isList d = true) : Sz 5 32000 d := by
  unfold isList headB at h
  simp only [Bool.and_eq_true] at h
  obtain ⟨⟨h1, h0⟩, h2, h3, h4, h5, h6, h7, _⟩ := h
  obtain ⟨a, b, c, e, g, r, rfl⟩ := tup6_d h1
  have h5b : isGoods g = true := h5
  unfold isGoods at h5b
  simp only [Bool.and_eq_true] at h5b
  obtain ⟨gs, rfl, l1, l2⟩ := tupB_d h5b.1
  obtain ⟨rs, rfl, l3, l4⟩ := tupB_d (show tupB 0 32 r = true from h6)
  have g5 : gs.all isGood = true := h5b.2.1
  have h7 : rs.all isGrant = true := h7
  have goods : Sz 2 (64 * 100 + 2) (.tuple gs) := sz_tup (szs_all (fun d m => sz_good (List.all_eq_true.mp g5 d m)) l2)
  have grants : Sz 4 (32 * 795 + 2) (.tuple rs) := sz_tup (szs_all (fun d m => sz_grant (List.all_eq_true.mp h7 d m)) l4)
  exact sz_mono (sz_tup (szs_cons (sz_eqS (show eqS (Str.ofString "list") a = true from h0) (by decide +kernel) (by decide +kernel)) (szs_cons (sz_ln (show lnD b = true from h2)) (szs_cons (sz_num (show numB 1 1000000000000 c = true from h3) (by decide) (by decide)) (szs_cons (sz_num (show numB 0 1000000000000 e = true from h4) (by decide) (by decide)) (szs_cons (sz_mono goods (by decide) (Nat.le_refl _)) (szs_cons grants szs_nil))))))) (by decide) (by decide)
/-! the law's digest, with a remainder at each step -/
/-! seal -/
abbrev s_different_keys : Stmt := top 79
abbrev N_different_keys : List Str := ["keys", "different"]
theorem sc_different_keys : FnScope N_different_keys ["keys"] (defScope s_different_keys) := ⟨rfl, rfl, rfl, by decide +kernel, rfl, by decide +kernel, by decide +kernel⟩
abbrev s_seal : Stmt := top 76
abbrev N_seal : List Str := ["office", "text", "keys", "different", "blank", "key"]
theorem sc_seal : FnScope N_seal ["office", "text", "keys"] (defScope s_seal) := ⟨rfl, rfl, rfl, by decide +kernel, rfl, by decide +kernel, by decide +kernel⟩
structure MsC (mg : Str → Option Value) : Prop where
  c_MOST_SEALS : ∃ t, mg "MOST_SEALS" = some (.int 32 t)
theorem if_no {p : Prop} [Decidable p] {A B : Prop} (h : ¬ p) (b : B) : if p then A else B := by rw [if_neg h]; exact b
theorem if_yes {p : Prop} [Decidable p] {A B : Prop} (h : p) (b : A) : if p then A else B := by rw [if_pos h]; exact b
/-- the tree of a sealed text -/
def rowT (z k : Str) : Tr := .tup [.str k, .str (mkS k z)]
def sealT (z : Str) (ys : List Str) : Tr := .tup [.str z, .tup (ys.map (rowT z))]
/-- what is made of the pairs of the keys with a text -/
def madeA (made : List (Str × Str)) (z : Str) (ys : List Str) : List (Str × Str) := ys.foldl (fun m k => addP m (k, z)) made
def blk : Str := ⟨(List.replicate 18 48).toArray⟩
def rowB (b k : Str) : Tr := .tup [.str k, .str b]
def sealB (z b : Str) (ys : List Str) : Tr := .tup [.str z, .tup (ys.map (rowB b))]
theorem kyl12 {k : Str} (h : kyS k = true) : k.length ≤ 12 := by
  unfold kyS at h
  simp only [Bool.and_eq_true, decide_eq_true_eq] at h
  exact h.1.1.2
theorem kyPrn {z : Str} (h : kyS z = true) : prn z = true := by
  unfold prn
  rw [List.all_eq_true]
  intro c hc
  unfold kyS at h
  simp only [Bool.and_eq_true, decide_eq_true_eq] at h
  obtain ⟨⟨⟨h1, h2⟩, h3⟩, h4⟩ := h
  have hl : z.cps.toList.length = z.length := cps_lenP z
  cases e : z.cps.toList with
  | nil => rw [e] at hl; simp at hl; omega
  | cons d r =>
    have hc : c ∈ d :: r := by rw [← e]; exact hc
    rw [e] at h3
    have h3 : d = 107 := Option.some.inj h3
    rcases List.mem_cons.mp hc with hc | hc
    · rw [hc, h3]; decide +kernel
    · unfold inT at h4
      rw [List.all_eq_true] at h4
      have e2 : (cutS z (some 1) none).cps.toList = r := by
        have := cut_from z 1
        rw [show TL.tl z = d :: r from e] at this
        exact this
      have := of_decide_eq_true (h4 c (by rw [e2]; exact hc))
      exact (by decide +kernel : ∀ c ∈ (Str.ofString "0123456789").cps.toList, prc c = true) c this
theorem rows_pure (b : Str) : ∀ ys : List Str, pures (ys.map (rowB b)) = true
  | [] => rfl
  | y :: ys => rows_pure b ys
theorem rowsT_pure (z : Str) : ∀ ys : List Str, pures (ys.map (rowT z)) = true
  | [] => rfl
  | y :: ys => rowsT_pure z ys
theorem mkS_len (k z : Str) : (mkS k z).length = 18 := by
  show (⟨(hx18 (dgN (k ++ Str.ofString " " ++ z).cps.toList)).toArray⟩ : Str).length = 18
  rw [S_len, hx18_ldx (dgN_lt _), ldx_len]
theorem pls_rowB {n : Nat} {b : Str} (hb : prn b = true) : ∀ {ys : List Str}, (∀ k ∈ ys, prn k = true) → pls (n + 1) (ys.map (rowB b)) = true
  | [], _ => rfl
  | y :: ys, h => by
    show ((prn y && (prn b && true)) && pls (n + 1) (ys.map (rowB b))) = true
    rw [h y List.mem_cons_self, hb, pls_rowB hb fun k m => h k (List.mem_cons_of_mem _ m)]; rfl
theorem pl_sealB {z b : Str} {ys : List Str} (hz : prn z = true) (hb : prn b = true) (hk : ∀ k ∈ ys, prn k = true) : pl 8 (sealB z b ys) = true := by
  show (prn z && (pls 6 (ys.map (rowB b)) && true)) = true
  rw [hz, pls_rowB hb hk]; rfl
theorem smls_rowB {b : Str} (hb : b.length ≤ 10000000) : ∀ {ys : List Str}, (∀ k ∈ ys, k.length ≤ 12) → smls (ys.map (rowB b)) = true
  | [], _ => rfl
  | y :: ys, h => by
    show (((decide (y.length ≤ 10000000) && (decide (b.length ≤ 10000000) && true)) && decide (2 ≤ 1000000)) && smls (ys.map (rowB b))) = true
    rw [decide_eq_true (show y.length ≤ 10000000 by have := h y List.mem_cons_self; omega), decide_eq_true hb, smls_rowB hb fun k m => h k (List.mem_cons_of_mem _ m)]; rfl
theorem sml_sealB {z b : Str} {ys : List Str} (hz : z.length ≤ 10000000) (hb : b.length ≤ 10000000) (ly : ys.length ≤ 32) (hk : ∀ k ∈ ys, k.length ≤ 12) : sml (sealB z b ys) = true := by
  show ((decide (z.length ≤ 10000000) && ((smls (ys.map (rowB b)) && decide ((ys.map (rowB b)).length ≤ 1000000)) && true)) && decide (2 ≤ 1000000)) = true
  rw [decide_eq_true hz, smls_rowB hb hk, List.length_map, decide_eq_true (show ys.length ≤ 1000000 by omega)]; rfl
theorem mkS_prn (k z : Str) : prn (mkS k z) = true := by
  unfold prn
  rw [List.all_eq_true]
  intro c hc
  have h := hx18_in _ c hc
  exact (by decide +kernel : ∀ c ∈ hxs, prc c = true) c h
theorem pls_rowT {n : Nat} {z : Str} (hz : prn z = true) : ∀ {ys : List Str}, (∀ k ∈ ys, prn k = true) → pls (n + 1) (ys.map (rowT z)) = true
  | [], _ => rfl
  | y :: ys, h => by
    show ((prn y && (prn (mkS y z) && true)) && pls (n + 1) (ys.map (rowT z))) = true
    rw [h y List.mem_cons_self, mkS_prn, pls_rowT hz fun k m => h k (List.mem_cons_of_mem _ m)]; rfl
theorem pl_sealT {z : Str} {ys : List Str} (hz : prn z = true) (hk : ∀ k ∈ ys, prn k = true) : pl 8 (sealT z ys) = true := by
  show (prn z && (pls 6 (ys.map (rowT z)) && true)) = true
  rw [hz, pls_rowT hz hk]; rfl
theorem rowsB_len (z : Str) : ∀ ys : List Str, (txts (ys.map (rowT z))).length = (txts (ys.map (rowB blk))).length
  | [] => rfl
  | y :: ys => by
    have e : ∀ m : Str, m.length = 18 → (txt (.tup [.str y, .str m])).length = (dig y.length).length + (y.length + 1) + ((dig 18).length + 19) + 2 := fun m hm => by
      show (91 :: (((dig y.length ++ 58 :: TL.tl y) ++ ((dig m.length ++ 58 :: TL.tl m) ++ [])) ++ [93])).length = _
      rw [hm]
      simp only [List.length_cons, List.length_append, List.length_nil, ← TL.len_tl, hm]
      try omega
    show (txt (.tup [.str y, .str (mkS y z)]) ++ txts (ys.map (rowT z))).length = (txt (.tup [.str y, .str blk]) ++ txts (ys.map (rowB blk))).length
    rw [List.length_append, List.length_append, rowsB_len z ys, e _ (mkS_len y z), e blk (by decide +kernel)]
theorem sealB_len (z : Str) (ys : List Str) : (txt (sealT z ys)).length = (txt (sealB z blk ys)).length := by
  have e : ∀ ts : List Tr, (txt (.tup [.str z, .tup ts])).length = (txt (.str z)).length + (txts ts).length + 4 := fun ts => by
    show (91 :: ((txt (.str z) ++ ((91 :: (txts ts ++ [93])) ++ [])) ++ [93])).length = _
    simp only [List.length_cons, List.length_append, List.length_nil]
    omega
  show (txt (.tup [.str z, .tup (ys.map (rowT z))])).length = (txt (.tup [.str z, .tup (ys.map (rowB blk))])).length
  rw [e, e, rowsB_len]
theorem madeA_len (made : List (Str × Str)) (z : Str) : ∀ ys : List Str, (madeA made z ys).length ≤ made.length + ys.length := by
  intro ys
  induction ys generalizing made with
  | nil => exact Nat.le_refl _
  | cons y ys ih =>
    have := ih (addP made (y, z))
    have := addP_len made (y, z)
    show (madeA (addP made (y, z)) z ys).length ≤ made.length + (ys.length + 1)
    omega
theorem madeA_snoc (made : List (Str × Str)) (z k : Str) (ys : List Str) : madeA made z (ys ++ [k]) = addP (madeA made z ys) (k, z) := by
  unfold madeA
  rw [List.foldl_append]; rfl
def spDiff (CK : Addr) (K : PySem.W.Frag) (Ts : List Addr) : Sp := fun vs H Q E => ∃ (a : Addr) (xs : List V), vs = [.ref a] ∧ SqL K H a xs ∧ xs.length ≤ 1000 ∧ (∀ x ∈ xs, (∃ t, tyN H x = some t) ∧ szV x) ∧ Tabs Ts H ∧
  (xs.all kyV = false → ∀ H', Kp Ts H H' → Tabs Ts H' → E (.ref CK) none H') ∧
  ∀ ks : List Str, xs = ks.map V.str → (∀ k ∈ ks, kyS k = true) → ∀ ys : List Str, asc ys = true → (∀ z, z ∈ ys ↔ z ∈ ks) → (32 < ys.length → ∀ H', Kp Ts H H' → Tabs Ts H' → E (.ref CK) none H') ∧
    (ys.length ≤ 32 → ∀ (p : Addr) (H' : Hp), Kp Ts H H' → Tabs Ts H' → H p = none → H' p = some (.lst (ys.map V.str)) → Q (.ref p) H')
section
variable {P : Program} {w : World} {K : PySem.W.Frag} {mg : Str → Option Value} {base : Heap} {f : Addr} {fd : FuncData} {C CK CT : Addr} {Ts : List Addr}
theorem kys_of : ∀ {xs : List V}, xs.all kyV = true → ∃ ks : List Str, xs = ks.map V.str ∧ ∀ k ∈ ks, kyS k = true
  | [], _ => ⟨[], rfl, fun _ m => absurd m List.not_mem_nil⟩
  | x :: xs, h => by
    rw [List.all_cons, Bool.and_eq_true] at h
    obtain ⟨ks, e, hk⟩ := kys_of h.2
    obtain ⟨k, rfl⟩ : ∃ k, x = .str k := by
      cases x with
      | str k => exact ⟨k, rfl⟩
      | _ => cases h.1
    refine ⟨k :: ks, by rw [e]; rfl, fun y m => ?_⟩
    rcases List.mem_cons.mp m with rfl | m
    · exact h.1
    · exact hk y m
theorem ok_diff {oc kV doc pm ct : Value} {od an : Option Addr} {osl : Array (Option Value)} {c Pt Pc : Addr} (B : Blt mg) (zsort : mg "sorted" = none) (zset : mg "set" = none) (TB : GxR.TabB base mg c Pt) (DO : MsC mg) (T : SlC K mg C CK CT) (mt : Pt ∈ Ts) (mc : Pc ∈ Ts)
    (lk : K.lookup f = some ⟨oc, od, .func (PySem.W.fnOf "_different_keys" "_different_keys" (defArgs s_different_keys) (defBody s_different_keys) (defScope s_different_keys) .none kV doc pm an (.ref c) ct), osl⟩) (hcd : PySem.W.codeIn K (.ref c) "_different_keys" = true)
    (c_is_key : Cal P w K mg base CX0 4 "is_key" (spNm kyV Pc)) :
    FnOk P w K mg base (L2.CX P w) 8 f (PySem.W.fnOf "_different_keys" "_different_keys" (defArgs s_different_keys) (defBody s_different_keys) (defScope s_different_keys) .none kV doc pm an (.ref c) ct) ["keys"] (spDiff CK K Ts) := by
  refine fn_of (CX := L2.CX P w) lk hcd sc_different_keys (fun vs H Q E h => ?_) (fun A outer s H vs Q E hr h => ?_)
  · obtain ⟨a, xs, rfl, _⟩ := h; rfl
  obtain ⟨a, xs, rfl, hS, hl, hx, hG, qe, q⟩ := h
  refine ⟨_, (pss_cons (ps_if (pt_not (pt_val (pe_allG (N := ["key"]) (nt := 1) (fr := []) rfl hr B TB rfl (gnOf (by decide +kernel)) (by show freeOk _ (defScope s_different_keys) = true; decide +kernel) (by show capOk _ _ _ N_different_keys _ (defScope s_different_keys) = true; decide +kernel)
      (pi_list (pv 0)) (fun _ _ _ _ _ hr => (pg_name (i := 0) (by show List.Nodup (["key"] : List Str); decide +kernel) rfl (Or.inl rfl))) (fun _ _ _ _ _ hr => pts_nil) (fun _ _ _ _ _ hr => (c_is_key.pe hr (pa_cons (pv 0) pa_nil))) (fun _ => rfl)))) (pss_one (T.BadKey.raise (takes_of rfl rfl rfl rfl))) pss_nil)
    (pss_cons (ps_set (i := 1) sc_different_keys.nd rfl (Or.inl rfl) (pe_sortSet rfl rfl zsort rfl zset (pv 0)))
    (pss_cons (ps_if (pt_cmpR op_gt (B.len_q (pa_cons (pv 1) pa_nil)) (pe_cE DO.c_MOST_SEALS) (nomark _)) (pss_one (T.BadKey.raise (takes_of rfl rfl rfl rfl))) pss_nil)
    (pss_one (ps_ret (pv 1)))))), ?_⟩
  walk_at "wp"
  refine ⟨_, rfl, a, rfl, ⟨xs, hS⟩, hG _ mt, fun H2 hT => ?_⟩
  have g2 := hG.tab hT mt
  have k2 : Kp Ts H H2 := Kp.tab (hG _ mt) hT mt
  refine for_list (K := K) (a := a) (xs := xs) (fun i σ H' => (∃ o : Option V, σ = [o]) ∧ Kp Ts H H' ∧ Tabs Ts H' ∧ (xs.take i).all kyV = true) ⟨⟨_, rfl⟩, k2, g2, rfl⟩ (fun i σ H' _ ⟨_, k, _⟩ => k.seqs hG hS) (fun i x σ H' hi ⟨⟨o, hσ⟩, k3, g3, ha⟩ => ?_) (fun σ H' ⟨⟨o, hσ⟩, k3, g3, ha⟩ => ?_)
  · subst hσ
    have mx := List.mem_of_getElem? hi
    have tk : xs.take (i + 1) = xs.take i ++ [x] := by rw [List.take_add_one, hi]; rfl
    unfold tbAll
    simp only [tYes, if_true, gName, List.set_cons_zero]
    obtain ⟨⟨ty, hty⟩, sz⟩ := hx x mx
    refine ⟨x, rfl, x, rfl, g3 _ mc, ⟨ty, k3.tys hG hty⟩, sz, fun H4 k4 g4 => ⟨_, rfl, ?_⟩⟩
    have K4 := k3.trans (k4.in1 mc)
    have G4 := g3.kp1 k4 g4
    cases hb : kyV x with
    | true => exact if_yes rfl ⟨⟨_, rfl⟩, K4, G4, by rw [tk, List.all_append, ha]; simp [hb]⟩
    | false =>
      refine if_no (by decide) ?_
      walk_at "wp"
      exact qe (List.all_eq_false.mpr ⟨x, mx, by rw [hb]; decide⟩) H4 K4 G4
  · rw [List.take_length] at ha
    obtain ⟨ks, rfl, hk⟩ := kys_of ha
    walk_at "wp"
    refine ⟨_, rfl, a, ks, rfl, k3.seqs hG hS, by rw [List.length_map] at hl; exact hl, fun ys p hy mem hp => ⟨p, rfl, _, .inl (SqL.of upd_same), ?_⟩⟩
    obtain ⟨q1, q2⟩ := q ks rfl hk ys hy mem
    have kn := Kp.new (S := []) hp (.lst (ys.map V.str))
    have KF : Kp Ts H (upd H' p (.lst (ys.map V.str))) := k3.trans kn.in0
    have GF := g3.kp0 kn
    rw [List.length_map]
    by_cases c : 32 < ys.length
    · exact if_yes (by omega) (q1 c _ KF GF)
    · refine if_no (by omega) (q2 (by omega) p _ KF GF ?_ upd_same)
      cases e : H p with
      | none => rfl
      | some o =>
        exfalso
        by_cases m : p ∈ Ts
        · exact g3.ne0 hp m
        · have := k3.keep p o m e
          rw [hp] at this; cases this
/-- seal(office, text, keys) -/
def spSeal2 (C CK CT : Addr) (K : PySem.W.Frag) (Ts : List Addr) : Sp := fun vs H Q E => ∃ (o dm a : Addr) (made : List (Str × Str)) (tv : V) (xs : List V), vs = [.ref o, tv, .ref a] ∧ Ofc C o dm made H ∧ made.length ≤ 900 ∧ SqL K H a xs ∧ xs.length ≤ 1000 ∧ (∀ x ∈ xs, (∃ t, tyN H x = some t) ∧ szV x) ∧
  (∃ t, tyN H tv = some t) ∧ (∀ z, tv = .str z → z.length ≤ 10000000) ∧ Tabs Ts H ∧ (xs.all kyV = false → ∀ H', Kp Ts H H' → Tabs Ts H' → E (.ref CK) none H') ∧
  ∀ ks ys : List Str, xs = ks.map V.str → (∀ k ∈ ks, kyS k = true) → asc ys = true → (∀ z, z ∈ ys ↔ z ∈ ks) → (32 < ys.length → ∀ H', Kp Ts H H' → Tabs Ts H' → E (.ref CK) none H') ∧
    (ys.length ≤ 32 → (prV tv = false → ∀ H', Kp Ts H H' → Tabs Ts H' → E (.ref CT) none H') ∧ ∀ z, tv = .str z → prn z = true → (100000 < (txt (sealT z ys)).length → ∀ H', Kp Ts H H' → Tabs Ts H' → E (.ref CT) none H') ∧
      ((txt (sealT z ys)).length ≤ 100000 → ∀ H', Kp (dm :: Ts) H H' → Tabs Ts H' → Ofc C o dm (madeA made z ys) H' → Q (.str ⟨(txt (sealT z ys)).toArray⟩) H'))
theorem ok_seal2 {Pp : Addr} (F : Fun K "seal" "seal" s_seal f fd) (B : Blt mg) (DG : DgC mg) (T : SlC K mg C CK CT) (mp : Pp ∈ Ts) (c_different_keys : Cal P w K mg base (L2.CX P w) 8 "_different_keys" (spDiff CK K Ts)) (c_is_printable : Cal P w K mg base CX0 3 "is_printable" (spPrn Pp))
    (c_encode : Cal P w K mg base (L2.CX P w) 23 "encode" (spEnc CT Pp)) (m_make : CalM P w K mg base (L2.CX P w) 5 C "make" (spMake C CK CT Ts)) :
    FnOk P w K mg base (L2.CX P w) 24 f fd ["office", "text", "keys"] (spSeal2 C CK CT K Ts) := by
  refine F.okX sc_seal (fun vs H Q E h => ?_) (fun cdv A outer s H vs Q E hr h => ?_)
  · obtain ⟨o, dm, a, made, tv, xs, rfl, _⟩ := h; rfl
  obtain ⟨o, dm, a, made, tv, xs, rfl, hO, lm, hS, hl, hx, ⟨tt, htt⟩, hz, hG, qe, q⟩ := h
  refine ⟨_, (pss_cons (ps_set (i := 3) sc_seal.nd rfl (Or.inl rfl) (c_different_keys.pex hr (passX (takes_of rfl rfl rfl rfl) fun _ _ _ _ h => h) (pa_cons (pv 2) pa_nil)))
    (pss_cons (ps_if (pt_not (pt_val (c_is_printable.pe hr (pa_cons (pv 1) pa_nil)))) (pss_one (T.bad.raise (takes_of rfl rfl rfl rfl))) pss_nil)
    (pss_cons (ps_set (i := 4) sc_seal.nd rfl (Or.inr rfl) (pe_op op_mulS pe_str (pe_cE DG.c_DIGEST_LENGTH)))
    (pss_cons (ps_expr (c_encode.pex hr (passX (takes_of rfl rfl rfl rfl) fun _ _ _ _ h => h) (pa_cons (pe_tup (pa_cons (pv 1) (pa_cons (B.tuple_l (pa_cons (pe_lc (own := [("key", 5)]) (g := gName 5) (tt := tYes) rfl sc_seal.nd (pi_list (pv 3)) (blkOk_by (own := [("key", 5)]) (N := N_seal) (sc := defScope s_seal) (by decide +kernel)) (fun _ _ _ _ _ => pg_name (i := 5) sc_seal.nd rfl (Or.inl rfl)) (fun _ _ _ _ _ => pts_nil) (fun _ _ _ _ _ => (pe_tup (pa_cons (pv 5) (pa_cons (pv 4) pa_nil))))) pa_nil)) pa_nil))) pa_nil)))
    (pss_one (ps_ret (c_encode.pex hr (passX (takes_of rfl rfl rfl rfl) fun _ _ _ _ h => h) (pa_cons (pe_tup (pa_cons (pv 1) (pa_cons (B.tuple_l (pa_cons (pe_lc (own := [("key", 5)]) (g := gName 5) (tt := tYes) rfl sc_seal.nd (pi_list (pv 3)) (blkOk_by (own := [("key", 5)]) (N := N_seal) (sc := defScope s_seal) (by decide +kernel)) (fun _ _ _ _ _ => pg_name (i := 5) sc_seal.nd rfl (Or.inl rfl)) (fun _ _ _ _ _ => pts_nil) (fun _ _ _ _ _ => (pe_tup (pa_cons (pv 5) (pa_cons (m_make.peL hr (pv 0) (pa_cons (pv 5) (pa_cons (pv 1) pa_nil))) pa_nil))))) pa_nil)) pa_nil))) pa_nil)))))))), ?_⟩
  walk_at "wp"
  refine ⟨a, xs, rfl, hS, hl, hx, hG, qe, fun ks e hk ys ha mem => ⟨fun h32 => (q ks ys e hk ha mem).1 h32, fun h32 p H1 k1 g1 hp e1 => ?_⟩⟩
  obtain ⟨q1, q2⟩ := (q ks ys e hk ha mem).2 h32
  refine ⟨tv, rfl, g1 _ mp, ⟨tt, k1.tys hG htt⟩, fun H2 k2 g2 => ⟨_, rfl, ?_⟩⟩
  have K2 : Kp Ts H H2 := k1.trans (k2.in1 mp)
  have G2 := g1.kp1 k2 g2
  cases hp2 : prV tv with
  | false => exact if_yes rfl (q1 hp2 H2 K2 G2)
  | true =>
  refine if_no (by decide) ?_
  obtain ⟨z, rfl, hpz⟩ : ∃ z, tv = .str z ∧ prn z = true := by
    cases tv with
    | str z => exact ⟨z, rfl, hp2⟩
    | _ => cases hp2
  obtain ⟨q3, q4⟩ := q2 z rfl hpz
  have lim : sizeLine = 16777216 := sizeLine_eq
  have e2 : H2 p = some (.lst (ys.map V.str)) := (k2.in1 mp).get g1 e1
  have kky : ∀ k ∈ ys, kyS k = true := fun k m => hk k ((mem k).mp m)
  have zl : z.length ≤ 10000000 := hz z rfl
  have O2 := hO.tabs K2 hG
  refine ⟨48, rfl, by decide, by decide, ?_⟩
  have eb : (⟨(List.replicate (Int.toNat 18) 48).toArray⟩ : Str) = blk := rfl
  rw [eb]
  refine ⟨_, rfl, p, rfl, ⟨_, SqL.of e2⟩, fun D hD => ?_⟩
  have nDp : p ≠ D := ne_of_none e2 hD
  refine lc_list (K := K) (a := p) (xs := ys.map V.str) (fun i H' => Kp [] H2 H' ∧ ∃ vs, H' D = some (.lst vs) ∧ RepAll H' vs ((ys.take i).map (rowB blk))) ⟨Kp.new hD _, [], upd_same, .nil⟩ (fun i H' _ ⟨k, _⟩ => SqL.of (k.keep _ _ List.not_mem_nil e2)) (fun i x H' hi ⟨k3, vs, eD, rD⟩ => ?_) (fun H' ⟨k3, vs, eD, rD⟩ => ?_)
  · rw [List.getElem?_map] at hi
    obtain ⟨k, hi2, rfl⟩ := Option.map_eq_some_iff.mp hi
    have tk : ys.take (i + 1) = ys.take i ++ [k] := by rw [List.take_add_one, hi2]; rfl
    have li := (List.getElem?_eq_some_iff.mp hi2).1
    have lv := rD.len
    rw [List.length_map, List.length_take] at lv
    refine ⟨rfl, ?_⟩
    simp only [tYes, if_true]
    walk_at "wp"
    refine ⟨_, rfl, _, rfl, by omega, fun r hr2 => ?_⟩
    have kr := Kp.new (S := []) hr2 (.tup [V.str k, V.str blk])
    have nrD : D ≠ r := ne_of_none eD hr2
    refine ⟨vs, by rw [upd_ne nrD]; exact eD, by omega, ?_, ?_⟩
    · exact (k3.trans kr).upd hD (by rw [upd_ne nrD]; exact eD)
    · have kl : Kp [D] (upd H' r (.tup [V.str k, V.str blk])) (upd (upd H' r (.tup [V.str k, V.str blk])) D (.lst (vs ++ [V.ref r]))) := Kp.lst (by rw [upd_ne nrD]; exact eD) (List.mem_singleton.mpr rfl)
      rw [tk, List.map_append]
      exact ((rD.kp0 kr).any kl (rows_pure _ _)).app (.cons (.tup (kl.tup _ _ upd_same) (.cons (.str _) (.cons (.str _) .nil))) .nil)
  rw [List.length_map, List.take_length] at rD
  refine ⟨D, rfl, vs, .inl ⟨SqL.of eD, fun l hl2 => ⟨by omega, fun p2 h2 => ?_⟩⟩⟩
  have kl := Kp.new (S := []) hl2 (.tup vs)
  have kp2 := Kp.new (S := []) h2 (.tup [V.str z, V.ref l])
  have K4 : Kp [] H2 (upd (upd H' l (.tup vs)) p2 (.tup [V.str z, V.ref l])) := (k3.trans kl).trans kp2
  have R4 : Rep (upd (upd H' l (.tup vs)) p2 (.tup [V.str z, V.ref l])) (.ref p2) (sealB z blk ys) := .tup upd_same (.cons (.str _) (.cons (.tup (kp2.tup _ _ upd_same) ((rD.kp0 kl).kp0 kp2)) .nil))
  have hpl : pl 8 (sealB z blk ys) = true := pl_sealB hpz (by decide +kernel) fun k m => kyPrn (kky k m)
  have hsm : sml (sealB z blk ys) = true := sml_sealB zl (by decide +kernel) (by omega) fun k m => kyl12 (kky k m)
  have lenE : (txt (sealT z ys)).length = (txt (sealB z blk ys)).length := sealB_len z ys
  generalize upd (upd H' l (.tup vs)) p2 (.tup [V.str z, V.ref l]) = H4 at K4 R4 ⊢
  have G4 := G2.kp0 K4
  refine ⟨.ref p2, sealB z blk ys, rfl, R4, hsm, G4 _ mp, fun _ lo H5 k5 g5 => ?_, fun no H5 k5 g5 => q3 (by
    have : ¬ (txt (sealB z blk ys)).length ≤ 100000 := fun z => no ⟨hpl, z⟩
    omega) H5 ((K2.trans K4.in0).trans (k5.in1 mp)) (G4.kp1 k5 g5)⟩
  have K5 : Kp Ts H2 H5 := (K4.in0 : Kp Ts H2 H4).trans (k5.in1 mp)
  have G5 := G4.kp1 k5 g5
  have O5 := (O2.tabs K5 G2)
  have e5 := K5.get G2 e2
  have tl0 : (txt (sealT z ys)).length ≤ 100000 := by omega
  clear R4 eD rD kl kp2 k3 nDp hD
  refine ⟨_, rfl, p, rfl, ⟨_, SqL.of e5⟩, fun D hD => ?_⟩
  have nDd : D ≠ dm := (ne_of_none O5.dc hD).symm
  have nDo : D ≠ o := let ⟨dx, ho⟩ := O5.ob; (ne_of_none ho hD).symm
  have nDT : D ∉ Ts := G5.ne0 hD
  have npd : p ≠ dm := ne_of e5 O5.dc (by intro z; cases z)
  refine lc_list (K := K) (a := p) (xs := ys.map V.str) (fun i H' => Kp (dm :: Ts) H5 H' ∧ Tabs Ts H' ∧ Ofc C o dm (madeA made z (ys.take i)) H' ∧ ∃ vs, H' D = some (.lst vs) ∧ RepAll H' vs ((ys.take i).map (rowT z)))
    ⟨Kp.new hD _, G5.new hD _, O5.kp (Kp.new hD _ : Kp [] _ _) List.not_mem_nil List.not_mem_nil, [], upd_same, .nil⟩ (fun i H' _ ⟨k, g, _⟩ => SqL.of (k.keep _ _ (fun m => (List.mem_cons.mp m).elim npd (G5.ne e5)) e5)) (fun i x H' hi ⟨k6, g6, O6, vs, eD, rD⟩ => ?_) (fun H' ⟨k6, g6, O6, vs, eD, rD⟩ => ?_)
  · rw [List.getElem?_map] at hi
    obtain ⟨k, hi2, rfl⟩ := Option.map_eq_some_iff.mp hi
    have tk : ys.take (i + 1) = ys.take i ++ [k] := by rw [List.take_add_one, hi2]; rfl
    have li := (List.getElem?_eq_some_iff.mp hi2).1
    have mk := List.mem_of_getElem? hi2
    have lv := rD.len
    rw [List.length_map, List.length_take] at lv
    have lmi := madeA_len made z (ys.take i)
    rw [List.length_take] at lmi
    refine ⟨rfl, ?_⟩
    simp only [tYes, if_true]
    walk_at "wp"
    obtain ⟨dx, ho⟩ := O6.ob
    refine ⟨_, rfl, _, rfl, o, rfl, dx, _, ho, rfl, _, rfl, _, rfl, o, dm, madeA made z (ys.take i), .str k, .str z, rfl, O6, by omega, g6, ⟨_, rfl⟩, ⟨_, rfl⟩, ?_, fun y e => by rw [← V.str.inj e]; exact zl, fun e => ?_, fun _ e => ?_, fun k' t' ek et _ _ H7 k7 g7 O7 => ⟨by omega, fun r hr2 => ?_⟩⟩
    · have := kyl12 (kky k mk)
      show k.length ≤ sizeLine
      omega
    · have : kyS k = false := e
      rw [kky k mk] at this; cases this
    · have : prn z = false := e
      rw [hpz] at this; cases this
    cases ek
    cases et
    have kr := Kp.new (S := []) hr2 (.tup [V.str k, V.str (mkS k z)])
    have nDS : D ∉ dm :: Ts := fun m => (List.mem_cons.mp m).elim nDd nDT
    have e7 := k7.keep D _ nDS eD
    have nrD : D ≠ r := ne_of_none e7 hr2
    have e8 : upd H7 r (.tup [V.str k, V.str (mkS k z)]) D = some (.lst vs) := by rw [upd_ne nrD]; exact e7
    have kl : Kp [D] (upd H7 r (.tup [V.str k, V.str (mkS k z)])) (upd (upd H7 r (.tup [V.str k, V.str (mkS k z)])) D (.lst (vs ++ [V.ref r]))) := Kp.lst e8 (List.mem_singleton.mpr rfl)
    refine ⟨vs, e8, by omega, ?_, ?_, ?_, ?_⟩
    · exact ((k6.trans k7).trans kr.in0).upd hD e8
    · exact (g7.kp0 kr).kp kl fun P m z => nDT (by rw [← List.mem_singleton.mp z]; exact m)
    · rw [tk, madeA_snoc]
      exact (O7.kp kr List.not_mem_nil List.not_mem_nil).kp kl (by simpa using nDo.symm) (by simpa using nDd.symm)
    · rw [tk, List.map_append]
      exact (((rD.any k7 (rowsT_pure _ _)).kp0 kr).any kl (rowsT_pure _ _)).app (.cons (.tup (kl.tup _ _ upd_same) (.cons (.str _) (.cons (.str _) .nil))) .nil)
  rw [List.length_map, List.take_length] at rD O6
  refine ⟨D, rfl, vs, .inl ⟨SqL.of eD, fun l hl2 => ⟨by omega, fun p2 h2 => ?_⟩⟩⟩
  have kl := Kp.new (S := []) hl2 (.tup vs)
  have kp2 := Kp.new (S := []) h2 (.tup [V.str z, V.ref l])
  have R9 : Rep (upd (upd H' l (.tup vs)) p2 (.tup [V.str z, V.ref l])) (.ref p2) (sealT z ys) := .tup upd_same (.cons (.str _) (.cons (.tup (kp2.tup _ _ upd_same) ((rD.kp0 kl).kp0 kp2)) .nil))
  have G9 := (g6.kp0 kl).kp0 kp2
  have O9 := (O6.kp kl List.not_mem_nil List.not_mem_nil).kp kp2 List.not_mem_nil List.not_mem_nil
  have K9 : Kp (dm :: Ts) H (upd (upd H' l (.tup vs)) p2 (.tup [V.str z, V.ref l])) := (((K2.trans K5).mono fun b hb => List.mem_cons_of_mem _ hb).trans k6).trans (kl.trans kp2).in0
  have hplT : pl 8 (sealT z ys) = true := pl_sealT hpz fun k m => kyPrn (kky k m)
  have hsmT : sml (sealT z ys) = true := sml_of 8 _ hplT (by omega)
  exact ⟨.ref p2, sealT z ys, rfl, R9, hsmT, G9 _ mp, fun _ lo H5 k5 g5 => q4 tl0 H5 (K9.trans ((k5.in1 mp).mono fun b hb => List.mem_cons_of_mem _ hb)) (G9.kp1 k5 g5) (O9.tabs (k5.in1 mp) G9), fun no => absurd ⟨hplT, tl0⟩ no⟩
end
/-! the text of a seal is small, and opened reads it back -/
section
variable {K : PySem.W.Frag} {C CK CT o dm l : Addr} {Ts : List Addr} {made : List (Str × Str)} {H : Hp} {Q : VK} {E : XK} {z : Str} {ls ys : List Str} {tv : V} {xs : List V}
/-- a call of seal that signs, or whose text is too long -/
theorem seal_at (O : Ofc C o dm made H) (lm : made.length ≤ 900) (e1 : H l = some (.lst (ls.map V.str))) (ll : ls.length ≤ 1000) (lk : ∀ k ∈ ls, kyS k = true) (pz : prn z = true) (lz : z.length ≤ 10000000) (G : Tabs Ts H)
    (h : ∀ ys, asc ys = true → (∀ x, x ∈ ys ↔ x ∈ ls) → ys.length ≤ 32 ∧ (100000 < (txt (sealT z ys)).length → ∀ H', Kp Ts H H' → Tabs Ts H' → E (.ref CT) none H') ∧ ((txt (sealT z ys)).length ≤ 100000 → ∀ H', Kp (dm :: Ts) H H' → Tabs Ts H' → Ofc C o dm (madeA made z ys) H' → Q (.str ⟨(txt (sealT z ys)).toArray⟩) H')) :
    spSeal2 C CK CT K Ts [.ref o, .str z, .ref l] H Q E := by
  have lim : sizeLine = 16777216 := sizeLine_eq
  refine ⟨o, dm, l, made, .str z, _, rfl, O, lm, SqL.of e1, by rw [List.length_map]; omega, fun x mx => ?_, ⟨_, rfl⟩, fun y e => (by rw [← V.str.inj e]; omega), G, fun hb => ?_, fun ks2 ys2 ek hk2 ha2 m2 => ?_⟩
  · obtain ⟨k, mk, rfl⟩ := List.mem_map.mp mx
    have := kyl12 (lk k mk)
    exact ⟨⟨_, rfl⟩, by show k.length ≤ sizeLine; omega⟩
  · obtain ⟨x, mx, hx⟩ := List.all_eq_false.mp hb
    obtain ⟨k, mk, rfl⟩ := List.mem_map.mp mx
    exact absurd (show kyV (.str k) = true from lk k mk) hx
  · have ek2 : ks2 = ls := (List.map_inj_right (fun _ _ h => V.str.inj h)).mp ek.symm
    subst ek2
    obtain ⟨l32, big, q⟩ := h ys2 ha2 m2
    refine ⟨fun h => absurd l32 (by omega), fun _ => ⟨fun h => ?_, fun z2 ez _ => ?_⟩⟩
    · rw [show prV (.str z) = true from pz] at h; cases h
    · cases V.str.inj ez
      exact ⟨big, q⟩
end
/-! reading and writing documents -/
abbrev s_is_document : Stmt := top 71
abbrev N_is_document : List Str := ["kind", "value"]
theorem sc_is_document : FnScope N_is_document ["kind", "value"] (defScope s_is_document) := ⟨rfl, rfl, rfl, by decide +kernel, rfl, by decide +kernel, by decide +kernel⟩
abbrev s_read : Stmt := top 61
abbrev N_read : List Str := ["kind", "text", "value"]
theorem sc_read : FnScope N_read ["kind", "text"] (defScope s_read) := ⟨rfl, rfl, rfl, by decide +kernel, rfl, by decide +kernel, by decide +kernel⟩
abbrev s_write : Stmt := top 62
abbrev N_write : List Str := ["document"]
theorem sc_write : FnScope N_write ["document"] (defScope s_write) := ⟨rfl, rfl, rfl, by decide +kernel, rfl, by decide +kernel, by decide +kernel⟩
abbrev kC : Str := Str.ofString "charter"
abbrev kT : Str := Str.ofString "stamp"
abbrev kF : Str := Str.ofString "shelf"
abbrev kL : Str := Str.ofString "list"
theorem kd_ne : kC ≠ kT ∧ kC ≠ kF ∧ kC ≠ kL ∧ kT ≠ kF ∧ kT ≠ kL ∧ kF ≠ kL := by decide +kernel
/-- a document of the kind k -/
def isK (k : Str) (d : PyData) : Bool := if k = kC then isCharter d else if k = kT then isStamp d else if k = kF then isShelf d else decide (k = kL) && isList d
def spIsK (Ts : List Addr) : Sp := fun vs H Q _ => ∃ (k : Str) (v : V) (d : PyData), vs = [.str k, v] ∧ Rq H v d ∧ okD 12 d = true ∧ Tabs Ts H ∧ ∀ H', Kp Ts H H' → Tabs Ts H' → Q (.bl (isK k d)) H'
theorem isK_doc {k : Str} {d : PyData} (h : isK k d = true) : isDoc d = true := by
  unfold isK at h
  unfold isDoc
  split at h
  · rw [h]; rfl
  split at h
  · rw [h, Bool.or_true]; rfl
  split at h
  · rw [h, Bool.or_true]; rfl
  rw [Bool.and_eq_true] at h
  rw [h.2, Bool.or_true]
theorem isK_head {k : Str} {d : PyData} (h : isK k d = true) : eqS k (ixD d 0) = true := by
  unfold isK at h
  split at h
  · rename_i c; subst c; unfold isCharter headB at h; simp only [Bool.and_eq_true] at h; exact h.1.2
  split at h
  · rename_i c; subst c; unfold isStamp headB at h; simp only [Bool.and_eq_true] at h; exact h.1.2
  split at h
  · rename_i c; subst c; unfold isShelf headB at h; simp only [Bool.and_eq_true] at h; exact h.1.2
  rw [Bool.and_eq_true, decide_eq_true_eq] at h
  obtain ⟨c, h⟩ := h
  subst c; unfold isList headB at h; simp only [Bool.and_eq_true] at h; exact h.1.2
theorem isK_one {k j : Str} {d : PyData} (h : isK k d = true) (g : isK j d = true) : k = j := by
  have h := isK_head h
  have g := isK_head g
  generalize ixD d 0 = x at h g
  cases x with
  | str z =>
    have h : decide (z = k) = true := h
    have g : decide (z = j) = true := g
    rw [← of_decide_eq_true h, ← of_decide_eq_true g]
  | _ => cases h
theorem doc_sz {d : PyData} (h : isDoc d = true) : Sz 8 32000 d := by
  unfold isDoc at h
  rw [Bool.or_eq_true, Bool.or_eq_true, Bool.or_eq_true] at h
  rcases h with ((h | h) | h) | h
  · exact sz_mono (sz_charter h) (by decide) (by decide)
  · exact sz_mono (sz_stamp h) (by decide) (by decide)
  · exact sz_mono (sz_shelf h) (by decide) (by decide)
  · exact sz_mono (sz_list h) (by decide) (by decide)
def tx (d : PyData) : Str := ⟨(txt (trD d)).toArray⟩
theorem doc_sml {d : PyData} (h : isDoc d = true) : sml (trD d) = true := sml_of 8 _ (doc_sz h).1 (by have := (doc_sz h).2; omega)
def spRead (C0 : Addr) (Ts : List Addr) : Sp := fun vs H Q E => ∃ (k : Str) (v : V), vs = [.str k, v] ∧ (∃ t, tyN H v = some t) ∧ (∀ z, v = .str z → z.length ≤ 10000000) ∧ Tabs Ts H ∧
  (∀ z t, v = .str z → z.length ≤ 100000 → prn z = true → pval 8 (TL.tl z) = some (t, []) → okD 12 (dT t) = true ∧ (isK k (dT t) = true → ∀ (u : V) (H' : Hp), Kp Ts H H' → Tabs Ts H' → Rep H' u t → Q u H') ∧ (isK k (dT t) = false → ∀ H', Kp Ts H H' → Tabs Ts H' → E (.ref C0) none H')) ∧
  ((∀ z t, v = .str z → z.length ≤ 100000 → prn z = true → pval 8 (TL.tl z) ≠ some (t, [])) → ∀ H', Kp Ts H H' → Tabs Ts H' → E (.ref C0) none H')
def spWrite (C0 : Addr) (Ts : List Addr) : Sp := fun vs H Q E => ∃ (v : V) (d : PyData), vs = [v] ∧ Rq H v d ∧ okD 12 d = true ∧ Tabs Ts H ∧ (isDoc d = true → ∀ H', Kp Ts H H' → Tabs Ts H' → Q (.str (tx d)) H') ∧ (isDoc d = false → ∀ H', Kp Ts H H' → Tabs Ts H' → E (.ref C0) none H')
theorem ite_dec {p : Prop} [Decidable p] {A B : Prop} (h : p → A) (g : ¬ p → B) : if p then A else B := by
  by_cases c : p
  · rw [if_pos c]; exact h c
  · rw [if_neg c]; exact g c
/-- the errors of reading: BadText, BadDocument, Refused -/
structure EsC (P : Program) (w : World) (K : PySem.W.Frag) (mg : Str → Option Value) (base : Heap) (CB CD CR : Addr) : Prop where
  bad : Err K mg "BadText" CB
  BadDocument : Err K mg "BadDocument" CD
  Refused : EOwn P w K mg base "Refused" CR
  m1 : PySem.W.exmOne K (.ref CB) (.ref CD) = some false
  m2 : PySem.W.exmOne K (.ref CD) (.ref CB) = some false
theorem exm1 {K : PySem.W.Frag} {c v : Value} {b : Bool} (h : PySem.W.exmOne K c v = some b) : PySem.W.exmAny K c [v] = some b := by
  unfold PySem.W.exmAny
  rw [h]
  show some (b || false) = some b
  rw [Bool.or_false]
theorem exm2 {K : PySem.W.Frag} {c v u : Value} {b d : Bool} (h : PySem.W.exmOne K c v = some b) (g : PySem.W.exmOne K c u = some d) : PySem.W.exmAny K c [v, u] = some (b || d) := by
  show (match PySem.W.exmOne K c v, PySem.W.exmAny K c [u] with | some b, some d => some (b || d) | _, _ => none) = _
  rw [h, exm1 g]
section
variable {P : Program} {w : World} {K : PySem.W.Frag} {mg : Str → Option Value} {base : Heap} {f : Addr} {fd : FuncData} {C0 CB Pt : Addr} {Ts : List Addr} {td tz tt : Tok}
theorem ok_isK (F : Fun K "_is_document" "_is_document" s_is_document f fd) (B : Blt mg) (c_is_charter : Cal P w K mg base CX0 12 "is_charter" (spDoc isCharter Ts)) (c_is_stamp : Cal P w K mg base CX0 12 "is_stamp" (spDoc isStamp Ts)) (c_is_shelf : Cal P w K mg base CX0 12 "is_shelf" (spDoc isShelf Ts)) (c_is_list : Cal P w K mg base CX0 15 "is_list" (spDoc isList Ts)) :
    FnOk P w K mg base CX0 16 f fd ["kind", "value"] (spIsK Ts) := by
  refine F.ok sc_is_document (fun vs H Q E h => ?_) (fun cdv A outer s H vs Q E hr h => ?_)
  · obtain ⟨k, v, d, rfl, _⟩ := h; rfl
  obtain ⟨k, v, d, rfl, hR, ho, hG, q⟩ := h
  refine ⟨_, (pss_cons (ps_if (pt_cmpR op_eq (pv 0) pe_str (nomark _)) (pss_one (ps_ret (c_is_charter.pe hr (pa_cons (pv 1) pa_nil)))) pss_nil)
    (pss_cons (ps_if (pt_cmpR op_eq (pv 0) pe_str (nomark _)) (pss_one (ps_ret (c_is_stamp.pe hr (pa_cons (pv 1) pa_nil)))) pss_nil)
    (pss_cons (ps_if (pt_cmpR op_eq (pv 0) pe_str (nomark _)) (pss_one (ps_ret (c_is_shelf.pe hr (pa_cons (pv 1) pa_nil)))) pss_nil)
    (pss_one (ps_ret (pe_and (pe_cmpR op_eq (pv 0) pe_str (nomark _)) (pe_one (c_is_list.pe hr (pa_cons (pv 1) pa_nil))))))))), ?_⟩
  walk_at "wp"
  unfold isK at q
  by_cases c1 : k = kC
  · rw [if_pos c1]
    exact ⟨v, d, rfl, hR, ho, hG, fun H' k' g' => by have y := q H' k' g'; rw [if_pos c1] at y; exact y⟩
  rw [if_neg c1]
  by_cases c2 : k = kT
  · rw [if_pos c2]
    exact ⟨v, d, rfl, hR, ho, hG, fun H' k' g' => by have y := q H' k' g'; rw [if_neg c1, if_pos c2] at y; exact y⟩
  rw [if_neg c2]
  by_cases c3 : k = kF
  · rw [if_pos c3]
    exact ⟨v, d, rfl, hR, ho, hG, fun H' k' g' => by have y := q H' k' g'; rw [if_neg c1, if_neg c2, if_pos c3] at y; exact y⟩
  rw [if_neg c3]
  by_cases c4 : k = kL
  · rw [if_pos c4]
    exact ⟨v, d, rfl, hR, ho, hG, fun H' k' g' => by have y := q H' k' g'; rw [if_neg c1, if_neg c2, if_neg c3, decide_eq_true c4] at y; exact y⟩
  rw [if_neg c4]
  have y := q H (Kp.refl _ _) hG
  rw [if_neg c1, if_neg c2, if_neg c3, decide_eq_false c4] at y
  exact y
theorem ok_read {CR : Addr} (F : Fun K "read" "read" s_read f fd) (B : Blt mg) (T : EsC P w K mg base CB C0 CR) (mt : Pt ∈ Ts) (c_decode : Cal P w K mg base (CXG P w) 23 "decode" (spDec CB Pt)) (c_is_document : Cal P w K mg base CX0 16 "_is_document" (spIsK Ts)) :
    FnOk P w K mg base (CXG P w) 24 f fd ["kind", "text"] (spRead C0 Ts) := by
  refine F.okG sc_read (fun vs H Q E h => ?_) (fun cdv A outer s H vs Q E hr h => ?_)
  · obtain ⟨k, v, rfl, _⟩ := h; rfl
  obtain ⟨k, v, rfl, hty, hz, hG, q, qe⟩ := h
  refine ⟨_, (pss_cons (ps_try_G (i := 0) (n := "kind") (out := fun cls d _ H => E cls d H) rfl rfl sc_read.nd rfl rfl (fun hd => L2H.passesAt_of rfl hd) (takesG_of rfl rfl rfl rfl) (fun V held ex tk _ => by_given (pss_one (ps_set (i := 2) sc_read.nd rfl (Or.inl rfl) (c_decode.peG hr tk (pa_cons (pv 1) pa_nil)))) rfl) (.bare (k := (_, _)) (.one ⟨rfl, by decide, .inl T.bad.g⟩) (fun a oe cls d pn hz hf tk hot => (by_given (pss_one (T.BadDocument.raiseS hot tk)) rfl)) .none))
    (pss_cons (ps_if (pt_not (pt_val (c_is_document.pe hr (pa_cons (pv 0) (pa_cons (pv 2) pa_nil))))) (pss_one (T.BadDocument.raiseG (takesG_of rfl rfl rfl rfl))) pss_nil)
    (pss_one (ps_ret (pv 2))))), ?_⟩
  walk_at "wp"
  refine ⟨_, rfl, v, rfl, hty, hz, hG Pt mt, fun z t e1 l p pv u H1 k1 g1 r1 => ?_, fun no H1 k1 g1 => ⟨true, exm1 T.bad.em, if_yes rfl fun _ _ => qe no H1 (k1.in1 mt) (hG.kp1 k1 g1)⟩⟩
  obtain ⟨ok, q1, q2⟩ := q z t e1 l p pv
  have hpl : pl 8 t = true := (pval_back 8 _ _ _ pv).2 (by
    unfold prn at p
    rw [List.all_eq_true] at p
    exact p)
  have G1 := hG.kp1 k1 g1
  refine ⟨k, u, dT t, rfl, r1.rq 8 hpl, ok, G1, fun H2 k2 g2 => ⟨_, rfl, ?_⟩⟩
  cases c : isK k (dT t) with
  | true =>
    rw [if_neg (by decide)]
    exact q1 c u H2 ((k1.in1 mt).trans k2) g2 (r1.any k2 (pl_pure 8 t hpl))
  | false =>
    rw [if_pos rfl]
    exact q2 c H2 ((k1.in1 mt).trans k2) g2
theorem ok_write (F : Fun K "write" "write" s_write f fd) (B : Blt mg) (mt : Pt ∈ Ts) (c_require_document : Cal P w K mg base (L2.CX P w) 16 "_require_document" (spReq C0 Ts)) (c_encode : Cal P w K mg base (L2.CX P w) 23 "encode" (spEnc CB Pt)) :
    FnOk P w K mg base (L2.CX P w) 24 f fd ["document"] (spWrite C0 Ts) := by
  refine F.okX sc_write (fun vs H Q E h => ?_) (fun cdv A outer s H vs Q E hr h => ?_)
  · obtain ⟨v, d, rfl, _⟩ := h; rfl
  obtain ⟨v, d, rfl, hR, ho, hG, q, qe⟩ := h
  refine ⟨_, (pss_cons (ps_expr (c_require_document.pex hr (passX (takes_of rfl rfl rfl rfl) fun _ _ _ _ h => h) (pa_cons (pv 0) pa_nil)))
    (pss_one (ps_ret (c_encode.pex hr (passX (takes_of rfl rfl rfl rfl) fun _ _ _ _ h => h) (pa_cons (pv 0) pa_nil))))), ?_⟩
  walk_at "wp"
  refine ⟨v, d, rfl, hR, ho, hG, fun hd H1 k1 g1 => ?_, qe⟩
  have S := doc_sz hd
  exact ⟨v, trD d, rfl, (hR.tabs k1 hG).rep 8 S.1, doc_sml hd, g1 Pt mt, fun _ _ H2 k2 g2 => q hd H2 (k1.trans (k2.in1 mt)) (g1.kp1 k2 g2), fun no => absurd ⟨S.1, by have := S.2; omega⟩ no⟩
end
/-! the trusted set -/
abbrev s_role_of : Stmt := top 85
abbrev N_role_of : List Str := ["charter", "name"]
theorem sc_role_of : FnScope N_role_of ["charter", "name"] (defScope s_role_of) := ⟨rfl, rfl, rfl, by decide +kernel, rfl, by decide +kernel, by decide +kernel⟩
abbrev s_document_in : Stmt := top 86
abbrev N_document_in : List Str := ["kind", "sealed", "text", "_"]
theorem sc_document_in : FnScope N_document_in ["kind", "sealed"] (defScope s_document_in) := ⟨rfl, rfl, rfl, by decide +kernel, rfl, by decide +kernel, by decide +kernel⟩
abbrev s_require_signed : Stmt := top 87
abbrev N_require_signed : List Str := ["office", "sealed", "role", "threshold", "keys"]
theorem sc_require_signed : FnScope N_require_signed ["office", "sealed", "role"] (defScope s_require_signed) := ⟨rfl, rfl, rfl, by decide +kernel, rfl, by decide +kernel, by decide +kernel⟩
mutual
/-- what is read is of small parts -/
theorem ok_dT : ∀ (n : Nat) (t : Tr), pl n t = true → (txt t).length ≤ 200000 → okD n (dT t) = true
  | n, .int i, h, _ => by
    have h : (decide (0 ≤ i) && decide (i ≤ 99999999999999999999)) = true := h
    rw [Bool.and_eq_true, decide_eq_true_eq, decide_eq_true_eq] at h
    exact okD_int.mpr ⟨by omega, h.2⟩
  | n, .str z, h, l => by
    have h : prn z = true := h
    have l : (dig z.length ++ 58 :: TL.tl z).length ≤ 200000 := l
    rw [List.length_append, List.length_cons, ← TL.len_tl] at l
    exact okD_str.mpr ⟨by omega, strOk_prn h⟩
  | 0, .tup _, h, _ => by cases h
  | n + 1, .tup ts, h, l => by
    have h : pls n ts = true := h
    have e : (txt (.tup ts)).length = (txts ts).length + 2 := by
      show (91 :: (txts ts ++ [93])).length = _
      rw [List.length_cons, List.length_append]; rfl
    obtain ⟨a, b⟩ := oks_dT n ts h (by omega)
    exact okD_tup.mpr ⟨by omega, b⟩
  | _, .oth _, h, _ => by cases h
theorem oks_dT : ∀ (n : Nat) (ts : List Tr), pls n ts = true → (txts ts).length ≤ 200000 → (dTs ts).length ≤ (txts ts).length ∧ ∀ d ∈ dTs ts, okD n d = true
  | _, [], _, _ => ⟨Nat.le_refl _, fun _ m => absurd m List.not_mem_nil⟩
  | n, t :: ts, h, l => by
    have h : (pl n t && pls n ts) = true := h
    rw [Bool.and_eq_true] at h
    have e : (txts (t :: ts)).length = (txt t).length + (txts ts).length := by
      show (txt t ++ txts ts).length = _
      rw [List.length_append]
    obtain ⟨a, b⟩ := oks_dT n ts h.2 (by omega)
    have p := txt_pos n t h.1
    refine ⟨by show (dTs ts).length + 1 ≤ _; omega, fun d m => ?_⟩
    have m : d ∈ dT t :: dTs ts := m
    rcases List.mem_cons.mp m with rfl | m
    · exact ok_dT n t h.1 (by omega)
    · exact b d m
end
theorem opn_back {x : Str} {t : Tr} (o : opn x t) : TL.tl x = txt t ∧ pl 8 t = true := by
  obtain ⟨a, b⟩ := pval_back 8 _ _ _ o.2.2.1
  exact ⟨by rw [a, List.append_nil], b (by have := o.2.1; unfold prn at this; exact List.all_eq_true.mp this)⟩
theorem opn_in {x z : Str} {ss : List Tr} (o : opn x (.tup [.str z, .tup ss])) : z.length ≤ 100000 ∧ prn z = true := by
  obtain ⟨a, b⟩ := opn_back o
  have b : pls 7 [Tr.str z, Tr.tup ss] = true := b
  have b : (pl 7 (.str z) && pls 7 [Tr.tup ss]) = true := b
  rw [Bool.and_eq_true] at b
  refine ⟨?_, b.1⟩
  have l := o.1
  rw [TL.len_tl, a] at l
  have e : txt (.tup [.str z, .tup ss]) = 91 :: (((dig z.length ++ 58 :: TL.tl z) ++ (txt (.tup ss) ++ [])) ++ [93]) := rfl
  rw [e, List.length_cons, List.length_append, List.length_append, List.length_append, List.length_cons, ← TL.len_tl] at l
  omega
theorem opn_uni {x : Str} {t u : Tr} (o : opn x t) (p : opn x u) : u = t := by
  have := o.2.2.1.symm.trans p.2.2.1
  injection this with h; injection h with h; exact h.symm
/-- a sealed text of a document of the kind k -/
def DocIn (k x : Str) (d : PyData) : Prop := ∃ (z : Str) (ss : List Tr) (t : Tr), opn x (.tup [.str z, .tup ss]) ∧ z.length ≤ 100000 ∧ prn z = true ∧ pval 8 (TL.tl z) = some (t, []) ∧ d = dT t ∧ isK k d = true
theorem Kp.gone {Ts : List Addr} {H H1 : Hp} (k : Kp Ts H H1) (g : Tabs Ts H1) {e : Addr} (h : H1 e = none) : H e = none := by
  cases c : H e with
  | none => rfl
  | some o =>
    have n : e ∉ Ts := fun m => by
      obtain ⟨ps, t, _⟩ := g e m
      rw [h] at t; cases t
    rw [k.keep e o n c] at h
    cases h
def rnm : List Str := [kC, kT, kF, kL]
structure RnC (K : PySem.W.Frag) (mg : Str → Option Value) (R : Addr) : Prop where
  g : mg "_ROLE_NAMES" = some (.ref R)
  o : ∃ (o : Obj) (its : Array Value) (n : Nat), K.lookup R = some o ∧ o.cls = .type "tuple" ∧ o.dict = none ∧ o.data = .seq its n ∧ its.size ≤ sizeLine ∧ Vals (rnm.map V.str) its.toList
theorem RnC.s {K : PySem.W.Frag} {mg : Str → Option Value} {R : Addr} (h : RnC K mg R) (H : Hp) : SqT K H R (rnm.map V.str) := by
  obtain ⟨o, its, n, l, c, d, x, y, z⟩ := h.o
  exact .inr ⟨o, its, n, l, c, x, y, z⟩
theorem RnC.t {K : PySem.W.Frag} {mg : Str → Option Value} {R : Addr} (h : RnC K mg R) (H : Hp) : tyV K "tuple" (V.ref R) H := by
  obtain ⟨o, its, n, l, c, d, x, y, z⟩ := h.o
  exact .inr (.inl ⟨rfl, o, l, c, d⟩)
theorem Rq.part {a b : Nat} {H : Hp} {v : V} {d : PyData} (r : Rq H v d) (h : tupB a b d = true) {i : Nat} (hi : i < a) :
    ∃ (p : Addr) (xs : List V), v = .ref p ∧ H p = some (.tup xs) ∧ xs.length = (itD d).length ∧ RqA H xs (itD d) ∧ ∃ x, atI xs (i : Nat) = some x ∧ Rq H x (ixD d i) := by
  obtain ⟨p, xs, ds, rfl, ep, rfl, rr, l1, l2⟩ := tupB_of r h
  obtain ⟨x, hx, hr⟩ := rr.ix (i := i) (by omega)
  exact ⟨p, xs, rfl, ep, rr.len, rr, x, hx, hr⟩
theorem ch_tup {d : PyData} (h : isCharter d = true) : tupB 4 4 d = true := by
  unfold isCharter headB at h; simp only [Bool.and_eq_true] at h; exact h.1.1
theorem ch_rls {d : PyData} (h : isCharter d = true) : tupB 4 4 (ixD d 3) = true := by
  unfold isCharter headB at h; simp only [Bool.and_eq_true] at h; exact h.2.2.2.1
theorem ch_all {d : PyData} (h : isCharter d = true) : (itD (ixD d 3)).all isRole = true := by
  unfold isCharter headB at h; simp only [Bool.and_eq_true] at h; exact h.2.2.2.2
theorem tupB_len {a b : Nat} {d : PyData} (h : tupB a b d = true) : a ≤ (itD d).length ∧ (itD d).length ≤ b := by
  cases d with
  | tuple ds =>
    have h : (decide (a ≤ ds.length) && decide (ds.length ≤ b)) = true := h
    rw [Bool.and_eq_true, decide_eq_true_eq, decide_eq_true_eq] at h
    exact h
  | _ => cases h
theorem ix_mem {d : PyData} {i : Nat} (h : i < (itD d).length) : ixD d i ∈ itD d := getD_mem h
theorem rl_tup {d : PyData} (h : isRole d = true) : tupB 2 2 d = true := by
  unfold isRole at h; simp only [Bool.and_eq_true] at h; exact h.1
theorem rl_keys {d : PyData} (h : isRole d = true) : tupB 1 16 (ixD d 1) = true := by
  unfold isRole at h; simp only [Bool.and_eq_true] at h; exact h.2.1
theorem rl_strs {d : PyData} (h : isRole d = true) : ∀ e ∈ itD (ixD d 1), isS e = true := by
  unfold isRole at h; simp only [Bool.and_eq_true] at h
  exact fun e m => kyD_s (List.all_eq_true.mp h.2.2.1 e m)
theorem rl_thr {d : PyData} (h : isRole d = true) : ∃ t : Int, ixD d 0 = .int t ∧ 1 ≤ t ∧ t ≤ ((itD (ixD d 1)).length : Nat) := by
  unfold isRole at h; simp only [Bool.and_eq_true] at h
  have e := h.2.2.2.2
  generalize ixD d 0 = x at e ⊢
  cases x with
  | int i =>
    have e : (decide (1 ≤ i) && decide (i ≤ _)) = true := e
    rw [Bool.and_eq_true, decide_eq_true_eq, decide_eq_true_eq] at e
    exact ⟨i, rfl, e⟩
  | _ => cases e
theorem rnm_nd : ∀ j < 4, ∀ m < j, rnm[m]? ≠ rnm[j]? := by decide +kernel
theorem rnm_lt0 {j : Nat} {n : Str} (h : rnm[j]? = some n) : j < 4 := (List.getElem?_eq_some_iff.mp h).1
theorem rnm_first {j : Nat} {n : Str} (h : rnm[j]? = some n) : ∀ m, m < j → rnm[m]? ≠ some n := fun m l e => rnm_nd j (rnm_lt0 h) m l (e.trans h.symm)
theorem rnm_lt {j : Nat} {n : Str} (h : rnm[j]? = some n) : j < 4 := (List.getElem?_eq_some_iff.mp h).1
theorem ch_role {d : PyData} (h : isCharter d = true) {j : Nat} (hj : j < 4) : isRole (ixD (ixD d 3) j) = true :=
  List.all_eq_true.mp (ch_all h) _ (ix_mem (by have := (tupB_len (ch_rls h)).1; omega))
/-- the role j of a charter -/
def rlD (d : PyData) (j : Nat) : PyData := ixD (ixD d 3) j
def spRoleOf : Sp := fun vs H Q _ => ∃ (v : V) (d : PyData) (n : Str) (j : Nat), vs = [v, .str n] ∧ Rq H v d ∧ isCharter d = true ∧ rnm[j]? = some n ∧ ∀ u, Rq H u (rlD d j) → Q u H
def xdR (z : Str) : HO := .xd [("reason", .str z)]
def spDocIn (CR : Addr) (Ts : List Addr) : Sp := fun vs H Q E => ∃ (k : Str) (v : V), vs = [.str k, v] ∧ (∃ t, tyN H v = some t) ∧ (∀ z, v = .str z → z.length ≤ 10000000) ∧ Tabs Ts H ∧
  (∀ x d, v = .str x → DocIn k x d → ∀ u H', Kp Ts H H' → Tabs Ts H' → Rq H' u d → okD 12 d = true → Q u H') ∧
  ((∀ x d, v = .str x → ¬ DocIn k x d) → ∀ (e : Addr) (H' : Hp), Kp Ts H H' → Tabs Ts H' → H e = none → H' e = some (xdR "form") → E (.ref CR) (some e) H')
/-- the keys of a role, its threshold -/
def keysD (d : PyData) : List Str := (itD (ixD d 1)).map strD
def thrD (d : PyData) : Int := match ixD d 0 with | .int i => i | _ => 0
def sgn (made : List (Str × Str)) (z : Str) (ss : List Tr) (d : PyData) : Bool := decide (thrD d ≤ ((suN made (keysD d) z ss : Nat) : Int))
def spSgn (C CR : Addr) (Ts : List Addr) : Sp := fun vs H Q E => ∃ (o dm : Addr) (made : List (Str × Str)) (x z : Str) (ss : List Tr) (rv : V) (d : PyData), vs = [.ref o, .str x, rv] ∧ Ofc C o dm made H ∧ opn x (.tup [.str z, .tup ss]) ∧ Rq H rv d ∧ isRole d = true ∧ Tabs Ts H ∧
  (sgn made z ss d = true → ∀ H', Kp Ts H H' → Tabs Ts H' → Q .non H') ∧
  (sgn made z ss d = false → ∀ (e : Addr) (H' : Hp), Kp Ts H H' → Tabs Ts H' → H e = none → H' e = some (xdR "seals") → E (.ref CR) (some e) H')
section
variable {P : Program} {w : World} {K : PySem.W.Frag} {mg : Str → Option Value} {base : Heap} {f : Addr} {fd : FuncData} {C CB CD CR R : Addr} {Ts : List Addr}
theorem ok_roleof (F : Fun K "role_of" "role_of" s_role_of f fd) (RN : RnC K mg R) : FnOk P w K mg base CX0 1 f fd ["charter", "name"] spRoleOf := by
  refine F.ok sc_role_of (fun vs H Q E h => ?_) (fun cdv A outer s H vs Q E hr h => ?_)
  · obtain ⟨v, d, n, j, rfl, _⟩ := h; rfl
  obtain ⟨v, d, n, j, rfl, hR, hc, hn, q⟩ := h
  refine ⟨_, (pss_one (ps_ret (pe_ix ix_tM (pe_ix ix_tM (pv 0) pe_int (fun _ _ => rfl)) (pe_bm PySem.F.plainAttrs_tuple PySem.F.slot_tuple_index PySem.F.type_tuple_index mt_tup_index (pe_glob (v := .ref R) rfl RN.g rfl) (pa_cons (pv 1) pa_nil)) (fun _ _ => rfl)))), ?_⟩
  walk_at "wq"
  obtain ⟨p, xs, rfl, ep, _, _, x, hx, rx⟩ := hR.part (ch_tup hc) (i := 3) (by omega)
  obtain ⟨b, ys, rfl, eb, _, _, y, hy, ry⟩ := rx.part (ch_rls hc) (i := j) (rnm_lt hn)
  exact ⟨p, rfl, xs, ep, _, hx, RN.t H, rnm, RN.s H, j, hn, rnm_first hn, b, rfl, ys, eb, y, hy, q y ry⟩
theorem ok_docin (F : Fun K "_document_in" "_document_in" s_document_in f fd) (T : EsC P w K mg base CB CD CR) (c_opened : Cal P w K mg base (CXG P w) 24 "opened" (spOpen CB Ts)) (c_read : Cal P w K mg base (CXG P w) 24 "read" (spRead CD Ts)) :
    FnOk P w K mg base (CXG P w) 25 f fd ["kind", "sealed"] (spDocIn CR Ts) := by
  refine F.okG sc_document_in (fun vs H Q E h => ?_) (fun cdv A outer s H vs Q E hr h => ?_)
  · obtain ⟨k, v, rfl, _⟩ := h; rfl
  obtain ⟨k, v, rfl, hty, hz, hG, q, qe⟩ := h
  refine ⟨_, (pss_one (ps_try_G (i := 0) (n := "kind") (out := fun cls d _ H => E cls d H) rfl rfl sc_document_in.nd rfl rfl (fun hd => L2H.passesAt_of rfl hd) (takesG_of rfl rfl rfl rfl) (fun V held ex tk _ => by_given (pss_cons (ps_asg (c_opened.peG hr tk (pa_cons (pv 1) pa_nil)) (pg_tupK (K := K) (n := 2) (pgs_cons (pg_name (i := 2) sc_document_in.nd rfl (Or.inl rfl)) (pgs_cons (pg_name (i := 3) sc_document_in.nd rfl (Or.inl rfl)) pgs_nil)) rfl rfl))
    (pss_one (ps_ret (c_read.peG hr tk (pa_cons (pv 0) (pa_cons (pv 2) pa_nil)))))) rfl) (.bare (k := (_, _)) (.two ⟨rfl, by decide, .inl T.bad.g⟩ ⟨rfl, by decide, .inl T.BadDocument.g⟩) (fun a oe cls d pn hz hf tk hot => (by_given (pss_one (T.Refused.raiseH (L2H.roomH_mark hr _) hot tk)) rfl)) .none))), ?_⟩
  walk_at "wq"
  have no : (∀ x d, v = .str x → ¬ DocIn k x d) → ∀ H1, Kp Ts H H1 → Tabs Ts H1 → ∀ (e : Addr), H1 e = none → ∀ (d : Addr) (G : Hp), H1 d = none → G d = some (xdR "form") → Kp [] H1 G → E (.ref CR) (some d) G :=
    fun nd H1 k1 g1 e he d G hd hg kk => qe nd d G (k1.trans kk.in0) (g1.kp0 kk) (k1.gone g1 hd) hg
  refine ⟨_, rfl, v, rfl, hty, hz, hG, fun x t e o1 u H1 k1 g1 R1 => ?_, fun nope H1 k1 g1 => ⟨_, exm2 T.bad.em T.m1, if_yes rfl (no (fun x d e ⟨z, ss, t, o1, _⟩ => nope x _ e o1) H1 k1 g1)⟩⟩
  obtain ⟨z, ss, rfl, c1, c2, c3⟩ := isCo_two o1.2.2.2
  cases R1 with
  | @tup a xs _ ea r =>
  cases r with
  | cons r1 r =>
  cases r with
  | cons r2 r =>
  cases r
  cases r1
  refine ⟨a, _, rfl, SqT.of ea, rfl, _, _, rfl, _, _, rfl, rfl, ?_⟩
  obtain ⟨lz, pz⟩ := opn_in o1
  refine ⟨_, rfl, _, rfl, k, .str z, rfl, ⟨_, rfl⟩, fun z' e' => by cases e'; omega, g1, fun z' t e' l p pv => ?_, fun np H2 k2 g2 => ?_⟩
  · cases e'
    have lp := pval_back 8 _ _ _ pv
    have pl8 : pl 8 t = true := lp.2 (by unfold prn at pz; exact List.all_eq_true.mp pz)
    have od : okD 12 (dT t) = true := ok_mono 8 12 _ (by decide) (ok_dT 8 t pl8 (by rw [← List.append_nil (txt t), ← lp.1, ← TL.len_tl]; omega))
    refine ⟨od, fun ok u H2 k2 g2 R2 => ?_, fun nok H2 k2 g2 => ⟨_, exm2 T.m2 T.BadDocument.em, if_yes rfl (no (fun x' d e' D => ?_) H2 (k1.trans k2) g2)⟩⟩
    · exact q x (dT t) e ⟨z, ss, t, o1, lz, pz, pv, rfl, ok⟩ u H2 (k1.trans k2) g2 (R2.rq 8 pl8) od
    · obtain ⟨z2, ss2, t2, o2, _, _, p2, rfl, ok⟩ := D
      cases e.symm.trans e'
      cases opn_uni o1 o2
      rw [pv] at p2
      cases p2
      rw [nok] at ok; cases ok
  · refine ⟨_, exm2 T.m2 T.BadDocument.em, if_yes rfl (no (fun x' d e' D => ?_) H2 (k1.trans k2) g2)⟩
    obtain ⟨z2, ss2, t2, o2, _, _, p2, _⟩ := D
    cases e.symm.trans e'
    cases opn_uni o1 o2
    exact np z t2 rfl lz pz p2
theorem ok_reqsigned (F : Fun K "_require_signed" "_require_signed" s_require_signed f fd) (T : EsC P w K mg base CB CD CR) (c_support : Cal P w K mg base (L2.CX P w) 25 "support" (spSupp C CB Ts K)) :
    FnOk P w K mg base (CXG P w) 26 f fd ["office", "sealed", "role"] (spSgn C CR Ts) := by
  refine F.okG sc_require_signed (fun vs H Q E h => ?_) (fun cdv A outer s H vs Q E hr h => ?_)
  · obtain ⟨o, dm, made, x, z, ss, rv, d, rfl, _⟩ := h; rfl
  obtain ⟨o, dm, made, x, z, ss, rv, d, rfl, hO, ho, hR, hr2, hG, q, qe⟩ := h
  refine ⟨_, (pss_cons (ps_asg (pv 2) (pg_tup rfl (pgs_cons (pg_name (i := 3) sc_require_signed.nd rfl (Or.inl rfl)) (pgs_cons (pg_name (i := 4) sc_require_signed.nd rfl (Or.inl rfl)) pgs_nil))))
    (pss_one (ps_if (pt_cmpR op_lt (c_support.peL hr (pa_cons (pv 0) (pa_cons (pv 1) (pa_cons (pv 4) pa_nil)))) (pv 3) (nomark _)) (pss_one (T.Refused.raiseG hr (takesG_of rfl rfl rfl rfl))) pss_nil))), ?_⟩
  obtain ⟨p, xs, rfl, ep, lx, rx, k, hk, Rk⟩ := hR.part (rl_tup hr2) (i := 1) (by omega)
  have l2 : (itD d).length = 2 := by have := tupB_len (rl_tup hr2); omega
  generalize ed : itD d = ds at rx l2 lx
  obtain ⟨x0, x1, d0, d1, rfl, rfl, R0, R1⟩ := rq2 rx l2
  have e0 : ixD d 0 = d0 := by unfold ixD; rw [ed]; rfl
  have e1 : ixD d 1 = d1 := by unfold ixD; rw [ed]; rfl
  obtain ⟨t, et, t1, t2⟩ := rl_thr hr2
  have ek := rl_strs hr2
  have tk := rl_keys hr2
  rw [e1] at ek tk t2
  rw [e0] at et
  subst et
  cases R0
  obtain ⟨b, ys, es, rfl, eb, rfl, rr, l3, l4⟩ := tupB_of R1 tk
  have ey : ys = (es.map strD).map V.str := rqa_strs rr ek
  subst ey
  walk_at "wq"
  refine ⟨_, _, rfl, SqT.of ep, rfl, _, _, rfl, _, _, rfl, rfl, ?_⟩
  walk_at "wq"
  have eth : thrD d = t := by unfold thrD; rw [e0]
  have eky : keysD d = es.map strD := by unfold keysD; rw [e1]; rfl
  have esg : sgn made z ss d = decide (t ≤ ((suN made (es.map strD) z ss : Nat) : Int)) := by unfold sgn; rw [eth, eky]
  refine ⟨o, dm, b, made, .str x, es.map strD, rfl, hO, ⟨_, rfl⟩, fun z' e => by cases e; have := ho.1; omega, hG, .inr (SqT.of eb), fun x' z' ss' e o' H1 k1 g1 => ⟨_, rfl, ?_⟩, fun no => absurd ho (no x _ rfl)⟩
  cases e
  cases opn_uni ho o'
  refine ite_dec (fun lt => ?_) fun nlt => ?_
  · intro dx G hd hg kk
    exact qe (by rw [esg]; exact decide_eq_false (by omega)) dx G (k1.trans kk.in0) (g1.kp0 kk) (k1.gone g1 hd) hg
  · exact q (by rw [esg]; exact decide_eq_true (by omega)) H1 k1 g1
end
/-! the trusted set: the class -/
abbrev s_Trusted___init : Stmt := inClass (top 84) 0
abbrev N_Trusted___init : List Str := ["self", "office", "sealed", "charter"]
theorem sc_Trusted___init : FnScope N_Trusted___init ["self", "office", "sealed"] (defScope s_Trusted___init) := ⟨rfl, rfl, rfl, by decide +kernel, rfl, by decide +kernel, by decide +kernel⟩
abbrev s_Trusted_outdated : Stmt := inClass (top 84) 7
abbrev N_Trusted_outdated : List Str := ["self"]
theorem sc_Trusted_outdated : FnScope N_Trusted_outdated ["self"] (defScope s_Trusted_outdated) := ⟨rfl, rfl, rfl, by decide +kernel, rfl, by decide +kernel, by decide +kernel⟩
abbrev s_Trusted_forget : Stmt := inClass (top 84) 8
abbrev N_Trusted_forget : List Str := ["self"]
theorem sc_Trusted_forget : FnScope N_Trusted_forget ["self"] (defScope s_Trusted_forget) := ⟨rfl, rfl, rfl, by decide +kernel, rfl, by decide +kernel, by decide +kernel⟩
abbrev s_Trusted_is_current : Stmt := inClass (top 84) 9
abbrev N_Trusted_is_current : List Str := ["self", "sealed"]
theorem sc_Trusted_is_current : FnScope N_Trusted_is_current ["self"] (defScope s_Trusted_is_current) := ⟨rfl, rfl, rfl, by decide +kernel, rfl, by decide +kernel, by decide +kernel⟩
abbrev s_Trusted_charter : Stmt := inClass (top 84) 10
abbrev N_Trusted_charter : List Str := ["self"]
theorem sc_Trusted_charter : FnScope N_Trusted_charter ["self"] (defScope s_Trusted_charter) := ⟨rfl, rfl, rfl, by decide +kernel, rfl, by decide +kernel, by decide +kernel⟩
abbrev s_Trusted_stamp : Stmt := inClass (top 84) 11
abbrev N_Trusted_stamp : List Str := ["self"]
theorem sc_Trusted_stamp : FnScope N_Trusted_stamp ["self"] (defScope s_Trusted_stamp) := ⟨rfl, rfl, rfl, by decide +kernel, rfl, by decide +kernel, by decide +kernel⟩
abbrev s_Trusted_shelf : Stmt := inClass (top 84) 12
abbrev N_Trusted_shelf : List Str := ["self"]
theorem sc_Trusted_shelf : FnScope N_Trusted_shelf ["self"] (defScope s_Trusted_shelf) := ⟨rfl, rfl, rfl, by decide +kernel, rfl, by decide +kernel, by decide +kernel⟩
abbrev s_Trusted_list_of : Stmt := inClass (top 84) 13
abbrev N_Trusted_list_of : List Str := ["self", "name"]
theorem sc_Trusted_list_of : FnScope N_Trusted_list_of ["self", "name"] (defScope s_Trusted_list_of) := ⟨rfl, rfl, rfl, by decide +kernel, rfl, by decide +kernel, by decide +kernel⟩
abbrev s_Trusted_list_role : Stmt := inClass (top 84) 14
abbrev N_Trusted_list_role : List Str := ["self", "name"]
theorem sc_Trusted_list_role : FnScope N_Trusted_list_role ["self", "name"] (defScope s_Trusted_list_role) := ⟨rfl, rfl, rfl, by decide +kernel, rfl, by decide +kernel, by decide +kernel⟩
abbrev s_Trusted_sealed : Stmt := inClass (top 84) 15
abbrev N_Trusted_sealed : List Str := ["self", "kind"]
theorem sc_Trusted_sealed : FnScope N_Trusted_sealed ["self", "kind"] (defScope s_Trusted_sealed) := ⟨rfl, rfl, rfl, by decide +kernel, rfl, by decide +kernel, by decide +kernel⟩
abbrev s_Trusted_roles : Stmt := inClass (top 84) 16
abbrev N_Trusted_roles : List Str := ["self"]
theorem sc_Trusted_roles : FnScope N_Trusted_roles ["self"] (defScope s_Trusted_roles) := ⟨rfl, rfl, rfl, by decide +kernel, rfl, by decide +kernel, by decide +kernel⟩
abbrev s_Trusted__present_roles : Stmt := inClass (top 84) 17
abbrev N_Trusted__present_roles : List Str := ["self", "charter"]
theorem sc_Trusted__present_roles : FnScope N_Trusted__present_roles ["self"] (defScope s_Trusted__present_roles) := ⟨rfl, rfl, rfl, by decide +kernel, rfl, by decide +kernel, by decide +kernel⟩
mutual
theorem pur_dT : ∀ (n : Nat) (t : Tr), pl n t = true → purD (dT t) = true
  | _, .int _, _ => rfl
  | _, .str _, _ => rfl
  | 0, .tup _, h => by cases h
  | n + 1, .tup ts, h => purs_dT n ts h
  | _, .oth _, h => by cases h
theorem purs_dT : ∀ (n : Nat) (ts : List Tr), pls n ts = true → purDs (dTs ts) = true
  | _, [], _ => rfl
  | n, t :: ts, h => by
    have h : (pl n t && pls n ts) = true := h
    rw [Bool.and_eq_true] at h
    show (purD (dT t) && purDs (dTs ts)) = true
    rw [pur_dT n t h.1, purs_dT n ts h.2]; rfl
end
def getA {α : Type} (l : List (Str × α)) (n : Str) : Option α := (l.find? fun p => decide (p.1 = n)).map (·.2)
inductive KvD (H : Hp) : List (Key × V) → List (Str × PyData) → Prop
  | nil : KvD H [] []
  | cons {n : Str} {v : V} {d : PyData} {r : List (Key × V)} {l : List (Str × PyData)} : Rq H v d → KvD H r l → KvD H ((Sum.inr n, v) :: r) ((n, d) :: l)
theorem KvD.val {H : Hp} {n : Str} : ∀ {kvs : List (Key × V)} {l : List (Str × PyData)}, KvD H kvs l → (∃ v d, valV kvs (Sum.inr n) = some v ∧ getA l n = some d ∧ Rq H v d) ∨ (valV kvs (Sum.inr n) = none ∧ getA l n = none)
  | _, _, .nil => .inr ⟨rfl, rfl⟩
  | _, _, .cons (n := m) (v := v) (d := d) h r => by
    by_cases e : m = n
    · exact .inl ⟨v, d, valV_pos (by rw [e]), by simp [getA, List.find?_cons, e], h⟩
    · have := r.val (n := n)
      rw [valV_neg (fun z => e (Sum.inr.inj z))]
      simp only [getA, List.find?_cons, e, decide_false]
      exact this
theorem KvD.opt {H : Hp} {n : Str} {kvs : List (Key × V)} {l : List (Str × PyData)} (h : KvD H kvs l) : Rq H ((valV kvs (Sum.inr n)).getD .non) ((getA l n).getD .none) := by
  rcases h.val (n := n) with ⟨v, d, a, b, c⟩ | ⟨a, b⟩
  · rw [a, b]; exact c
  · rw [a, b]; exact .non
theorem KvD.kp {S : List Addr} {H H' : Hp} (k : Kp S H H') : ∀ {kvs : List (Key × V)} {l : List (Str × PyData)}, KvD H kvs l → (∀ p ∈ l, purD p.2 = true) → KvD H' kvs l
  | _, _, .nil, _ => .nil
  | _, _, .cons h r, p => .cons (h.pure k (p _ List.mem_cons_self)) (r.kp k fun q m => p q (List.mem_cons_of_mem _ m))
theorem getA_mem {α : Type} {l : List (Str × α)} {n : Str} {a : α} (h : getA l n = some a) : (n, a) ∈ l := by
  unfold getA at h
  obtain ⟨p, e, rfl⟩ := Option.map_eq_some_iff.mp h
  have := List.find?_some e
  have m := List.mem_of_find?_eq_some e
  rw [decide_eq_true_eq] at this
  rw [← this]; exact m
/-- what a set holds: documents, sealed texts, the roles of the stamp, lists (document, role, entry) -/
structure Tst where
  docs : List (Str × PyData)
  txs : List (Str × Str)
  rol : PyData
  lsts : List (Str × PyData)
def Tst.ch (s : Tst) : PyData := (getA s.docs kC).getD .none
structure Tst.Ok (s : Tst) : Prop where
  ch : getA s.docs kC = some s.ch ∧ isCharter s.ch = true
  st : ∀ d, getA s.docs kT = some d → isStamp d = true
  sh : ∀ d, getA s.docs kF = some d → isShelf d = true
  ok : ∀ p ∈ s.docs, okD 12 p.2 = true ∧ purD p.2 = true
  cx : (getT s.txs kC).isSome = true
  sx : (getA s.docs kF).isSome = true → (getT s.txs kF).isSome = true
  tx : ∀ p ∈ s.txs, p.2.length ≤ 100000
  rol : okD 13 s.rol = true ∧ purD s.rol = true
  ls : ∀ p ∈ s.lsts, okD 13 p.2 = true ∧ purD p.2 = true ∧ tupB 3 3 p.2 = true
/-- a trusted set at o, its dicts at dd, ds and dl, its office at off -/
structure Trs (C o dd ds dl off : Addr) (s : Tst) (H : Hp) : Prop where
  ob : ∃ dx rv, H o = some (.ins C dx [("_office", .ref off), ("_documents", .ref dd), ("_sealed", .ref ds), ("_roles", rv), ("_lists", .ref dl)]) ∧ Rq H rv s.rol
  d1 : ∃ kvs, H dd = some (.dK kvs) ∧ KvD H kvs s.docs
  d2 : H ds = some (.dK (txK s.txs))
  d3 : ∃ kvs, H dl = some (.dK kvs) ∧ KvD H kvs s.lsts
  n1 : dd ≠ ds
  n2 : dd ≠ dl
  n3 : ds ≠ dl
  ok : s.Ok
theorem Trs.kp {S : List Addr} {C o dd ds dl off : Addr} {s : Tst} {H H' : Hp} (h : Trs C o dd ds dl off s H) (k : Kp S H H') (m1 : o ∉ S) (m2 : dd ∉ S) (m3 : ds ∉ S) (m4 : dl ∉ S) : Trs C o dd ds dl off s H' :=
  let ⟨dx, rv, e, r⟩ := h.ob
  let ⟨k1, e1, r1⟩ := h.d1
  let ⟨k3, e3, r3⟩ := h.d3
  ⟨⟨dx, rv, k.keep _ _ m1 e, r.pure k h.ok.rol.2⟩, ⟨k1, k.keep _ _ m2 e1, r1.kp k fun p m => (h.ok.ok p m).2⟩, k.keep _ _ m3 h.d2, ⟨k3, k.keep _ _ m4 e3, r3.kp k fun p m => (h.ok.ls p m).2.1⟩, h.n1, h.n2, h.n3, h.ok⟩
theorem Trs.kp0 {C o dd ds dl off : Addr} {s : Tst} {H H' : Hp} (h : Trs C o dd ds dl off s H) (k : Kp [] H H') : Trs C o dd ds dl off s H' := h.kp k List.not_mem_nil List.not_mem_nil List.not_mem_nil List.not_mem_nil
theorem Trs.tabs {Ts : List Addr} {C o dd ds dl off : Addr} {s : Tst} {H H' : Hp} (h : Trs C o dd ds dl off s H) (k : Kp Ts H H') (g : Tabs Ts H) : Trs C o dd ds dl off s H' :=
  let ⟨_, _, e, _⟩ := h.ob
  let ⟨_, e1, _⟩ := h.d1
  let ⟨_, e3, _⟩ := h.d3
  h.kp k (g.ne e) (g.ne e1) (g.ne h.d2) (g.ne e3)
/-- enough seals on the sealed text x for the role r -/
def Sgn (made : List (Str × Str)) (x : Str) (r : PyData) : Prop := ∃ z ss, opn x (.tup [.str z, .tup ss]) ∧ sgn made z ss r = true
def Tst.one (d : PyData) (x : Str) : Tst := ⟨[(kC, d)], [(kC, x)], .none, []⟩
def spTInit (C CO CR : Addr) (Ts : List Addr) : Sp := fun vs H Q E => ∃ (o dx off dm : Addr) (made : List (Str × Str)) (v : V), vs = [.ref o, .ref off, v] ∧ H o = some (.ins C dx []) ∧ Ofc CO off dm made H ∧ (∃ t, tyN H v = some t) ∧ (∀ z, v = .str z → z.length ≤ 10000000) ∧ Tabs Ts H ∧
  (∀ x d, v = .str x → DocIn kC x d → Sgn made x (rlD d 0) → ∀ dd ds dl H', H dd = none → H ds = none → H dl = none → Trs C o dd ds dl off (Tst.one d x) H' → Kp (o :: Ts) H H' → Tabs Ts H' → Q .non H') ∧
  ((∀ x d, v = .str x → ¬ DocIn kC x d) → ∀ (e : Addr) (H' : Hp), Kp (o :: Ts) H H' → Tabs Ts H' → H e = none → H' e = some (xdR "form") → E (.ref CR) (some e) H') ∧
  (∀ x d, v = .str x → DocIn kC x d → ¬ Sgn made x (rlD d 0) → ∀ (e : Addr) (H' : Hp), Kp (o :: Ts) H H' → Tabs Ts H' → H e = none → H' e = some (xdR "seals") → E (.ref CR) (some e) H')
def spTDoc (C : Addr) (k : Str) : Sp := fun vs H Q _ => ∃ (o dd ds dl off : Addr) (s : Tst), vs = [.ref o] ∧ Trs C o dd ds dl off s H ∧ ∀ u, Rq H u ((getA s.docs k).getD .none) → Q u H
def optZ : Option Str → V
  | none => .non
  | some t => .str t
def spTSealed (C : Addr) : Sp := fun vs H Q _ => ∃ (o dd ds dl off : Addr) (s : Tst) (k : Str), vs = [.ref o, .str k] ∧ Trs C o dd ds dl off s H ∧ Q (optZ (getT s.txs k)) H
def spTRoles (C : Addr) : Sp := fun vs H Q _ => ∃ (o dd ds dl off : Addr) (s : Tst), vs = [.ref o] ∧ Trs C o dd ds dl off s H ∧ ∀ u, Rq H u s.rol → Q u H
def lstAt (s : Tst) (z : Str) (i : Nat) : PyData := match getA s.lsts z with | none => .none | some d => ixD d i
def spTList (C : Addr) (i : Nat) : Sp := fun vs H Q _ => ∃ (o dd ds dl off : Addr) (s : Tst) (z : Str), vs = [.ref o, .str z] ∧ Trs C o dd ds dl off s H ∧ ∀ u, Rq H u (lstAt s z i) → Q u H
def Tst.pres (s : Tst) : PyData := .tuple [rlD s.ch 1, rlD s.ch 2]
def spTPres (C : Addr) : Sp := fun vs H Q _ => ∃ (o dd ds dl off : Addr) (s : Tst), vs = [.ref o] ∧ Trs C o dd ds dl off s H ∧ ∀ u H', Kp [] H H' → Rq H' u s.pres → Q u H'
def Tst.outd (s : Tst) : Bool := (getA s.docs kT).isSome && !PyData.eqv s.rol s.pres
def spTOut (C : Addr) : Sp := fun vs H Q _ => ∃ (o dd ds dl off : Addr) (s : Tst), vs = [.ref o] ∧ Trs C o dd ds dl off s H ∧ ∀ H', Kp [] H H' → Q (.bl s.outd) H'
def Tst.curr (s : Tst) : Bool := match getA s.docs kT, getA s.docs kF, getT s.txs kF with
  | some t, some f, some x => PyData.eqv (ixD t 3) (.tuple [ixD f 1, .int (x.length : Nat), .str (dgs x)])
  | _, _, _ => false
def spTCur (C : Addr) : Sp := fun vs H Q _ => ∃ (o dd ds dl off : Addr) (s : Tst), vs = [.ref o] ∧ Trs C o dd ds dl off s H ∧ ∀ H', Kp [] H H' → Q (.bl s.curr) H'
def Tst.forg (s : Tst) : Tst := Tst.one s.ch ((getT s.txs kC).getD Str.empty)
def spTForg (C : Addr) : Sp := fun vs H Q _ => ∃ (o dd ds dl off : Addr) (s : Tst), vs = [.ref o] ∧ Trs C o dd ds dl off s H ∧ ∀ d1 d2 d3 H', H d1 = none → H d2 = none → H d3 = none → Kp [o] H H' → Trs C o d1 d2 d3 off s.forg H' → Q .non H'
theorem dgs_ok (x : Str) : PyData.strOk (dgs x) = true := strOk_low fun c hc => by
  have := hx18_in _ c (by simpa [dgs] using hc)
  exact (show ∀ c ∈ hxs, c < 128 by decide) c this
theorem st_tup {d : PyData} (h : isStamp d = true) : tupB 4 4 d = true := by
  unfold isStamp headB at h; simp only [Bool.and_eq_true] at h; exact h.1.1
theorem sh_tup {d : PyData} (h : isShelf d = true) : tupB 4 4 d = true := by
  unfold isShelf headB at h; simp only [Bool.and_eq_true] at h; exact h.1.1
theorem ok_ix {n a b : Nat} {d : PyData} (h : okD (n + 1) d = true) (t : tupB a b d = true) {i : Nat} (hi : i < a) : okD n (ixD d i) = true := by
  have l := (tupB_len t).1
  cases d with
  | tuple ds => exact (okD_tup.mp h).2 _ (getD_mem (by have : a ≤ ds.length := l; omega))
  | _ => cases t
theorem pur_ix {a b : Nat} {d : PyData} (h : purD d = true) (t : tupB a b d = true) {i : Nat} (hi : i < a) : purD (ixD d i) = true := by
  have l := (tupB_len t).1
  cases d with
  | tuple ds => exact purD_tup.mp h _ (getD_mem (by have : a ≤ ds.length := l; omega))
  | _ => cases t
theorem Kp.gone1 {S : List Addr} {H H1 : Hp} (k : Kp S H H1) (g : ∀ b ∈ S, H1 b ≠ none) {e : Addr} (h : H1 e = none) : H e = none := by
  cases c : H e with
  | none => rfl
  | some o =>
    have n : e ∉ S := fun m => g e m h
    rw [k.keep e o n c] at h
    cases h
theorem one_okA {x : Str} {d : PyData} (ic : isCharter d = true) (od : okD 12 d = true) (pu : purD d = true) (lx : x.length ≤ 100000) : (Tst.one d x).Ok := by
  have e1 : getA [(kC, d)] kC = some d := by simp [getA]
  have e2 : getA [(kC, d)] kT = none := by simp [getA, kd_ne.1]
  have e3 : getA [(kC, d)] kF = none := by simp [getA, kd_ne.2.1]
  have ec : (Tst.one d x).ch = d := by show (getA [(kC, d)] kC).getD .none = _; rw [e1]; rfl
  refine ⟨⟨by rw [ec]; exact e1, by rw [ec]; exact ic⟩, fun e h => (by rw [show (Tst.one d x).docs = [(kC, d)] from rfl, e2] at h; cases h), fun e h => (by rw [show (Tst.one d x).docs = [(kC, d)] from rfl, e3] at h; cases h), fun q m => ?_, by simp [Tst.one, getT], fun h => (by rw [show (Tst.one d x).docs = [(kC, d)] from rfl, e3] at h; cases h), fun q m => ?_, ⟨rfl, rfl⟩, fun q m => absurd m List.not_mem_nil⟩
  · cases List.mem_singleton.mp m
    exact ⟨od, pu⟩
  · cases List.mem_singleton.mp m
    exact lx
theorem one_ok {x : Str} {d : PyData} (hd : DocIn kC x d) : (Tst.one d x).Ok := by
  obtain ⟨z, ss, t, o1, l, p, pv, rfl, ok⟩ := hd
  have lp := pval_back 8 _ _ _ pv
  have pl8 : pl 8 t = true := lp.2 (by unfold prn at p; exact List.all_eq_true.mp p)
  have ic : isCharter (dT t) = true := by unfold isK at ok; rw [if_pos rfl] at ok; exact ok
  exact one_okA ic (ok_mono 8 12 _ (by decide) (ok_dT 8 t pl8 (by rw [← List.append_nil (txt t), ← lp.1, ← TL.len_tl]; omega))) (pur_dT 8 t pl8) o1.1
theorem Kp.insT {S : List Addr} {H : Hp} {p C dx dy : Addr} {fs gs : List (Str × V)} (h : H p = some (.ins C dx fs)) (m : p ∈ S) : Kp S H (L2.upd H p (.ins C dy gs)) :=
  ⟨fun b u n q => by rw [upd_ne (fun z => n (by rw [z]; exact m))]; exact q, fun b xs q => by rw [upd_ne (ne_of q h (by intro z; cases z))]; exact q⟩
theorem kp_new2 {S : List Addr} {H : Hp} {p : Addr} {o1 o2 : HO} (h : H p = none) : Kp S H (upd (upd H p o1) p o2) :=
  ⟨fun b u _ q => by have n := ne_of_none q h; rw [upd_ne n, upd_ne n]; exact q, fun b xs q => by have n := ne_of_none q h; rw [upd_ne n, upd_ne n]; exact q⟩
structure TrC (K : PySem.W.Frag) (C : Addr) : Prop where
  cl : Cls K C
  n1 : NoAttr K C "_office"
  n2 : NoAttr K C "_documents"
  n3 : NoAttr K C "_sealed"
  n4 : NoAttr K C "_roles"
  n5 : NoAttr K C "_lists"
section
variable {P : Program} {w : World} {K : PySem.W.Frag} {mg : Str → Option Value} {base : Heap} {f : Addr} {fd : FuncData} {C CO CB CD CR R : Addr} {Ts : List Addr}
theorem ok_tch (F : Fun K "charter" "Trusted.charter" s_Trusted_charter f fd) (B : Blt mg) (T : TrC K C)  : FnOk P w K mg base CX0 1 f fd ["self"] (spTDoc C kC) := by
  refine F.ok sc_Trusted_charter (fun vs H Q E h => ?_) (fun cdv A outer s H vs Q E hr h => ?_)
  · obtain ⟨o, dd, ds, dl, off, st, rfl, _⟩ := h; rfl
  obtain ⟨o, dd, ds, dl, off, st, rfl, hT, q⟩ := h
  refine ⟨_, (pss_one (ps_ret (pe_dget (hu_of hr) (pe_fld (pv 0) rfl) pe_str (fun _ _ => rfl)))), ?_⟩
  obtain ⟨dx, rv, ho, hrv⟩ := hT.ob
  walk_at "wq"
  obtain ⟨kvs, e1, r1⟩ := hT.d1
  rcases r1.val (n := kC) with ⟨v, d, a, b, c⟩ | ⟨a, b⟩
  · have g := DGet.k (k := Sum.inr kC) e1
    rw [a] at g
    rw [b] at q
    exact ⟨C, dx, _, ho, T.cl, T.n2, _, rfl, dd, rfl, v, g, q v c⟩
  · have := hT.ok.ch.1
    rw [b] at this; cases this
theorem ok_tst (F : Fun K "stamp" "Trusted.stamp" s_Trusted_stamp f fd) (B : Blt mg) (T : TrC K C)  : FnOk P w K mg base CX0 1 f fd ["self"] (spTDoc C kT) := by
  refine F.ok sc_Trusted_stamp (fun vs H Q E h => ?_) (fun cdv A outer s H vs Q E hr h => ?_)
  · obtain ⟨o, dd, ds, dl, off, st, rfl, _⟩ := h; rfl
  obtain ⟨o, dd, ds, dl, off, st, rfl, hT, q⟩ := h
  refine ⟨_, (pss_one (ps_ret (pe_dget1 (hu_of hr) (pe_fld (pv 0) rfl) pe_str ⟨rfl, rfl, rfl, rfl⟩))), ?_⟩
  obtain ⟨dx, rv, ho, hrv⟩ := hT.ob
  walk_at "wq"
  obtain ⟨kvs, e1, r1⟩ := hT.d1
  exact ⟨C, dx, _, ho, T.cl, T.n2, _, rfl, dd, rfl, .inl ⟨_, .inl e1⟩, _, DGet.k (k := Sum.inr kT) e1, q _ r1.opt⟩
theorem ok_tsh (F : Fun K "shelf" "Trusted.shelf" s_Trusted_shelf f fd) (B : Blt mg) (T : TrC K C)  : FnOk P w K mg base CX0 1 f fd ["self"] (spTDoc C kF) := by
  refine F.ok sc_Trusted_shelf (fun vs H Q E h => ?_) (fun cdv A outer s H vs Q E hr h => ?_)
  · obtain ⟨o, dd, ds, dl, off, st, rfl, _⟩ := h; rfl
  obtain ⟨o, dd, ds, dl, off, st, rfl, hT, q⟩ := h
  refine ⟨_, (pss_one (ps_ret (pe_dget1 (hu_of hr) (pe_fld (pv 0) rfl) pe_str ⟨rfl, rfl, rfl, rfl⟩))), ?_⟩
  obtain ⟨dx, rv, ho, hrv⟩ := hT.ob
  walk_at "wq"
  obtain ⟨kvs, e1, r1⟩ := hT.d1
  exact ⟨C, dx, _, ho, T.cl, T.n2, _, rfl, dd, rfl, .inl ⟨_, .inl e1⟩, _, DGet.k (k := Sum.inr kF) e1, q _ r1.opt⟩
theorem ok_tse (F : Fun K "sealed" "Trusted.sealed" s_Trusted_sealed f fd) (B : Blt mg) (T : TrC K C)  : FnOk P w K mg base CX0 1 f fd ["self", "kind"] (spTSealed C) := by
  refine F.ok sc_Trusted_sealed (fun vs H Q E h => ?_) (fun cdv A outer s H vs Q E hr h => ?_)
  · obtain ⟨o, dd, ds, dl, off, st, k, rfl, _⟩ := h; rfl
  obtain ⟨o, dd, ds, dl, off, st, k, rfl, hT, q⟩ := h
  refine ⟨_, (pss_one (ps_ret (pe_dget1 (hu_of hr) (pe_fld (pv 0) rfl) (pv 1) ⟨rfl, rfl, rfl, rfl⟩))), ?_⟩
  obtain ⟨dx, rv, ho, hrv⟩ := hT.ob
  walk_at "wq"
  refine ⟨C, dx, _, ho, T.cl, T.n3, _, rfl, ds, rfl, .inl ⟨_, .inl hT.d2⟩, _, DGet.k (k := Sum.inr k) hT.d2, ?_⟩
  rw [txK_val]
  cases h : getT st.txs k <;> (rw [h] at q; exact q)
theorem ok_tro (F : Fun K "roles" "Trusted.roles" s_Trusted_roles f fd) (B : Blt mg) (T : TrC K C)  : FnOk P w K mg base CX0 1 f fd ["self"] (spTRoles C) := by
  refine F.ok sc_Trusted_roles (fun vs H Q E h => ?_) (fun cdv A outer s H vs Q E hr h => ?_)
  · obtain ⟨o, dd, ds, dl, off, st, rfl, _⟩ := h; rfl
  obtain ⟨o, dd, ds, dl, off, st, rfl, hT, q⟩ := h
  refine ⟨_, (pss_one (ps_ret (pe_fld (pv 0) rfl))), ?_⟩
  obtain ⟨dx, rv, ho, hrv⟩ := hT.ob
  walk_at "wq"
  exact ⟨C, dx, _, ho, T.cl, T.n4, _, rfl, q _ hrv⟩
theorem ok_tlo (F : Fun K "list_of" "Trusted.list_of" s_Trusted_list_of f fd) (B : Blt mg) (T : TrC K C)  : FnOk P w K mg base CX0 1 f fd ["self", "name"] (spTList C 0) := by
  refine F.ok sc_Trusted_list_of (fun vs H Q E h => ?_) (fun cdv A outer s H vs Q E hr h => ?_)
  · obtain ⟨o, dd, ds, dl, off, st, z, rfl, _⟩ := h; rfl
  obtain ⟨o, dd, ds, dl, off, st, z, rfl, hT, q⟩ := h
  refine ⟨_, (pss_cons (ps_if (pt_cmp (pc_dnotin (hu_of hr) (pv 1) (pe_fld (pv 0) rfl))) (pss_one (ps_ret pe_non)) pss_nil)
    (pss_one (ps_ret (pe_ix ix_tM (pe_dget (hu_of hr) (pe_fld (pv 0) rfl) (pv 1) (fun _ _ => rfl)) pe_int (fun _ _ => rfl))))), ?_⟩
  obtain ⟨dx, rv, ho, hrv⟩ := hT.ob
  walk_at "wq"
  obtain ⟨kvs, e3, r3⟩ := hT.d3
  have g := DGet.k (k := Sum.inr z) e3
  refine ⟨C, dx, _, ho, T.cl, T.n5, _, rfl, dl, rfl, _, g, ?_⟩
  unfold lstAt at q
  rcases r3.val (n := z) with ⟨v, d, a, b, c⟩ | ⟨a, b⟩
  · rw [a] at g
    rw [b] at q
    rw [a]
    refine if_no (by simp) ?_
    obtain ⟨p, xs, rfl, ep, _, _, x, hx, rx⟩ := c.part (hT.ok.ls _ (getA_mem b)).2.2 (i := 0) (by omega)
    exact ⟨C, dx, _, ho, T.cl, T.n5, _, rfl, dl, rfl, _, g, p, rfl, xs, ep, x, hx, q x rx⟩
  · rw [a]
    rw [b] at q
    exact if_yes rfl (q _ .non)
theorem ok_tlr (F : Fun K "list_role" "Trusted.list_role" s_Trusted_list_role f fd) (B : Blt mg) (T : TrC K C)  : FnOk P w K mg base CX0 1 f fd ["self", "name"] (spTList C 1) := by
  refine F.ok sc_Trusted_list_role (fun vs H Q E h => ?_) (fun cdv A outer s H vs Q E hr h => ?_)
  · obtain ⟨o, dd, ds, dl, off, st, z, rfl, _⟩ := h; rfl
  obtain ⟨o, dd, ds, dl, off, st, z, rfl, hT, q⟩ := h
  refine ⟨_, (pss_cons (ps_if (pt_cmp (pc_dnotin (hu_of hr) (pv 1) (pe_fld (pv 0) rfl))) (pss_one (ps_ret pe_non)) pss_nil)
    (pss_one (ps_ret (pe_ix ix_tM (pe_dget (hu_of hr) (pe_fld (pv 0) rfl) (pv 1) (fun _ _ => rfl)) pe_int (fun _ _ => rfl))))), ?_⟩
  obtain ⟨dx, rv, ho, hrv⟩ := hT.ob
  walk_at "wq"
  obtain ⟨kvs, e3, r3⟩ := hT.d3
  have g := DGet.k (k := Sum.inr z) e3
  refine ⟨C, dx, _, ho, T.cl, T.n5, _, rfl, dl, rfl, _, g, ?_⟩
  unfold lstAt at q
  rcases r3.val (n := z) with ⟨v, d, a, b, c⟩ | ⟨a, b⟩
  · rw [a] at g
    rw [b] at q
    rw [a]
    refine if_no (by simp) ?_
    obtain ⟨p, xs, rfl, ep, _, _, x, hx, rx⟩ := c.part (hT.ok.ls _ (getA_mem b)).2.2 (i := 1) (by omega)
    exact ⟨C, dx, _, ho, T.cl, T.n5, _, rfl, dl, rfl, _, g, p, rfl, xs, ep, x, hx, q x rx⟩
  · rw [a]
    rw [b] at q
    exact if_yes rfl (q _ .non)
theorem ok_tpr (F : Fun K "_present_roles" "Trusted._present_roles" s_Trusted__present_roles f fd) (B : Blt mg) (T : TrC K C) (m_Trusted_charter : CalM P w K mg base CX0 1 C "charter" (spTDoc C kC)) (c_role_of : Cal P w K mg base CX0 1 "role_of" spRoleOf) : FnOk P w K mg base CX0 2 f fd ["self"] (spTPres C) := by
  refine F.ok sc_Trusted__present_roles (fun vs H Q E h => ?_) (fun cdv A outer s H vs Q E hr h => ?_)
  · obtain ⟨o, dd, ds, dl, off, st, rfl, _⟩ := h; rfl
  obtain ⟨o, dd, ds, dl, off, st, rfl, hT, q⟩ := h
  refine ⟨_, (pss_cons (ps_set (i := 1) sc_Trusted__present_roles.nd rfl (Or.inl rfl) (m_Trusted_charter.pe0 hr (pv 0)))
    (pss_one (ps_ret (pe_tup (pa_cons (c_role_of.pe hr (pa_cons (pv 1) (pa_cons pe_str pa_nil))) (pa_cons (c_role_of.pe hr (pa_cons (pv 1) (pa_cons pe_str pa_nil))) pa_nil)))))), ?_⟩
  obtain ⟨dx, rv, ho, hrv⟩ := hT.ob
  walk_at "wq"
  have ch := hT.ok.ch.2
  refine ⟨dx, _, ho, rfl, o, dd, ds, dl, off, st, rfl, hT, fun u hu => ⟨u, st.ch, kT, 1, rfl, hu, ch, rfl, fun u2 r2 => ⟨u, st.ch, kF, 2, rfl, hu, ch, rfl, fun u3 r3 => ⟨by decide, fun p hp => ?_⟩⟩⟩⟩
  have k : Kp [] H (upd H p (.tup [u2, u3])) := Kp.new hp _
  exact q _ _ k (.tup upd_same (.cons (r2.kp0 k) (.cons (r3.kp0 k) .nil)))
theorem ok_tou (F : Fun K "outdated" "Trusted.outdated" s_Trusted_outdated f fd) (B : Blt mg) (T : TrC K C) (m_Trusted_stamp : CalM P w K mg base CX0 1 C "stamp" (spTDoc C kT)) (m_Trusted_present_roles : CalM P w K mg base CX0 2 C "_present_roles" (spTPres C)) : FnOk P w K mg base CX0 3 f fd ["self"] (spTOut C) := by
  refine F.ok sc_Trusted_outdated (fun vs H Q E h => ?_) (fun cdv A outer s H vs Q E hr h => ?_)
  · obtain ⟨o, dd, ds, dl, off, st, rfl, _⟩ := h; rfl
  obtain ⟨o, dd, ds, dl, off, st, rfl, hT, q⟩ := h
  refine ⟨_, (pss_one (ps_ret (pe_and (pe_cmpR op_notN (m_Trusted_stamp.pe0 hr (pv 0)) pe_non (nomark _)) (pe_one (pe_cmpR (op_neD hr.units) (pe_fld (pv 0) rfl) (m_Trusted_present_roles.pe0 hr (pv 0)) (nomark _)))))), ?_⟩
  obtain ⟨dx, rv, ho, hrv⟩ := hT.ob
  walk_at "wq"
  have ch := hT.ok.ch.2
  have och := (hT.ok.ok _ (getA_mem hT.ok.ch.1)).1
  unfold Tst.outd at q
  refine ⟨dx, _, ho, rfl, o, dd, ds, dl, off, st, rfl, hT, fun u hu => ?_⟩
  cases g : getA st.docs kT with
  | none =>
    rw [g] at hu q
    cases hu
    exact if_no (by simp) (q H (Kp.refl _ _))
  | some d =>
    rw [g] at hu q
    have hd := hT.ok.st d g
    obtain ⟨p, xs, rfl, _⟩ := hu.part (st_tup hd) (i := 0) (by omega)
    refine if_yes (by simp) ⟨C, dx, _, ho, T.cl, T.n4, _, rfl, dx, _, ho, rfl, o, dd, ds, dl, off, st, rfl, hT, fun u H' k r => ⟨st.rol, st.pres, (hrv.kp0 k).dp, r.dp, ok_shaped hT.ok.rol.1 (by decide), ok_shaped (n := 12) ?_ (by decide), q H' k⟩⟩
    have o3 : ∀ j < 4, okD 11 (ixD (ixD st.ch 3) j) = true := fun j hj => ok_mono 10 11 _ (by decide) (ok_ix (ok_ix och (ch_tup ch) (i := 3) (by omega)) (ch_rls ch) hj)
    exact okD_tup.mpr ⟨by show 2 ≤ 200000; decide, fun d m => by
      rcases List.mem_cons.mp m with rfl | m
      · exact o3 1 (by omega)
      · cases List.mem_singleton.mp m
        exact o3 2 (by omega)⟩
theorem ok_tcu (F : Fun K "is_current" "Trusted.is_current" s_Trusted_is_current f fd) (B : Blt mg) (T : TrC K C) (m_Trusted_stamp : CalM P w K mg base CX0 1 C "stamp" (spTDoc C kT)) (m_Trusted_shelf : CalM P w K mg base CX0 1 C "shelf" (spTDoc C kF)) (c_digest : Cal P w K mg base CX0 1 "digest" spDigest) : FnOk P w K mg base CX0 2 f fd ["self"] (spTCur C) := by
  refine F.ok sc_Trusted_is_current (fun vs H Q E h => ?_) (fun cdv A outer s H vs Q E hr h => ?_)
  · obtain ⟨o, dd, ds, dl, off, st, rfl, _⟩ := h; rfl
  obtain ⟨o, dd, ds, dl, off, st, rfl, hT, q⟩ := h
  refine ⟨_, (pss_cons (ps_if (PW.pt (pw_or (pt_cmpR op_isN (m_Trusted_stamp.pe0 hr (pv 0)) pe_non (nomark _)) (pw_or1 (pt_cmpR op_isN (m_Trusted_shelf.pe0 hr (pv 0)) pe_non (nomark _))))) (pss_one (ps_ret pe_bl)) pss_nil)
    (pss_cons (ps_set (i := 1) sc_Trusted_is_current.nd rfl (Or.inl rfl) (pe_dget (hu_of hr) (pe_fld (pv 0) rfl) pe_str (fun _ _ => rfl)))
    (pss_one (ps_ret (pe_cmpR (op_eqD hr.units) (pe_ix ix_tM (m_Trusted_stamp.pe0 hr (pv 0)) pe_int (fun _ _ => rfl)) (pe_tup (pa_cons (pe_ix ix_tM (m_Trusted_shelf.pe0 hr (pv 0)) pe_int (fun _ _ => rfl)) (pa_cons (B.len_s (pa_cons (pv 1) pa_nil)) (pa_cons (c_digest.pe hr (pa_cons (pv 1) pa_nil)) pa_nil)))) (nomark _)))))), ?_⟩
  obtain ⟨dx, rv, ho, hrv⟩ := hT.ob
  walk_at "wq"
  unfold Tst.curr at q
  refine ⟨dx, _, ho, rfl, o, dd, ds, dl, off, st, rfl, hT, fun u hu => ?_⟩
  cases g : getA st.docs kT with
  | none =>
    rw [g] at hu q
    cases hu
    exact if_yes rfl (q H (Kp.refl _ _))
  | some d =>
  rw [g] at hu q
  have hd := hT.ok.st d g
  have od := (hT.ok.ok _ (getA_mem g)).1
  obtain ⟨p, xs, rfl, ep, _, _, x3, hx3, rx3⟩ := hu.part (st_tup hd) (i := 3) (by omega)
  refine if_no (by intro z; cases z) ⟨dx, _, ho, rfl, o, dd, ds, dl, off, st, rfl, hT, fun w hw => ?_⟩
  cases g2 : getA st.docs kF with
  | none =>
    rw [g2] at hw q
    cases hw
    exact if_yes rfl (q H (Kp.refl _ _))
  | some e =>
  rw [g2] at hw q
  have he := hT.ok.sh e g2
  have oe := (hT.ok.ok _ (getA_mem g2)).1
  obtain ⟨b, ys, rfl, eb, _, _, y1, hy1, ry1⟩ := hw.part (sh_tup he) (i := 1) (by omega)
  obtain ⟨x, hx⟩ := Option.isSome_iff_exists.mp (hT.ok.sx (by rw [g2]; rfl))
  rw [hx] at q
  have lx : x.length ≤ 100000 := hT.ok.tx _ (getT_mem hx)
  have gg := DGet.k (k := Sum.inr kF) hT.d2
  rw [txK_val, hx] at gg
  refine if_no (by intro z; cases z) ⟨C, dx, _, ho, T.cl, T.n3, _, rfl, ds, rfl, _, gg, ?_⟩
  refine ⟨dx, _, ho, rfl, o, dd, ds, dl, off, st, rfl, hT, fun u1 h1 => ?_⟩
  rw [g] at h1
  obtain ⟨p', xs', e1',  ep', _, _, x3', hx3', rx3'⟩ := h1.part (st_tup hd) (i := 3) (by omega)
  refine ⟨_, e1', xs', ep', x3', hx3', dx, _, ho, rfl, o, dd, ds, dl, off, st, rfl, hT, fun w1 hw1 => ?_⟩
  rw [g2] at hw1
  obtain ⟨b', ys', e2',  eb', _, _, y1', hy1', ry1'⟩ := hw1.part (sh_tup he) (i := 1) (by omega)
  refine ⟨_, e2', ys', eb', y1', hy1', ?_⟩
  refine ⟨x, rfl, by rw [sizeLine_eq]; omega, x, rfl, by rw [sizeLine_eq]; omega, by decide, fun r hr => ?_⟩
  have k : Kp [] H (upd H r (.tup [y1', .int (x.length : Nat), .str (dgs x)])) := Kp.new hr _
  have R : Rq (upd H r (.tup [y1', .int (x.length : Nat), .str (dgs x)])) (.ref r) (.tuple [ixD e 1, .int (x.length : Nat), .str (dgs x)]) := .tup upd_same (.cons (ry1'.kp0 k) (.cons (.int _) (.cons (.str _) .nil)))
  refine ⟨_, _, (rx3'.kp0 k).dp, R.dp, ok_shaped (ok_ix od (st_tup hd) (i := 3) (by omega)) (by decide), ok_shaped (n := 12) (okD_tup.mpr ⟨by show 3 ≤ 200000; decide, fun z m => ?_⟩) (by decide), q _ k⟩
  rcases List.mem_cons.mp m with rfl | m
  · exact ok_ix oe (sh_tup he) (i := 1) (by omega)
  rcases List.mem_cons.mp m with rfl | m
  · exact okD_int.mpr ⟨by omega, by omega⟩
  cases List.mem_singleton.mp m
  exact okD_str.mpr ⟨by rw [dgs_len]; decide, dgs_ok x⟩
theorem ok_tfo (F : Fun K "forget" "Trusted.forget" s_Trusted_forget f fd) (B : Blt mg) (T : TrC K C)  : FnOk P w K mg base CX0 1 f fd ["self"] (spTForg C) := by
  refine F.ok sc_Trusted_forget (fun vs H Q E h => ?_) (fun cdv A outer s H vs Q E hr h => ?_)
  · obtain ⟨o, dd, ds, dl, off, st, rfl, _⟩ := h; rfl
  obtain ⟨o, dd, ds, dl, off, st, rfl, hT, q⟩ := h
  refine ⟨_, (C8.pss_cut (ps_fld (pv 0) (pe_disp (pps_cons pe_str (pe_dget (hu_of hr) (pe_fld (pv 0) rfl) pe_str (fun _ _ => rfl)) pps_nil) rfl rfl (by intro h; cases h) (by decide)) rfl)
    (C8.pss_cut (ps_fld (pv 0) (pe_disp (pps_cons pe_str (pe_dget (hu_of hr) (pe_fld (pv 0) rfl) pe_str (fun _ _ => rfl)) pps_nil) rfl rfl (by intro h; cases h) (by decide)) rfl)
    (C8.pss_cut (ps_fld (pv 0) pe_non rfl)
    (pss_one (ps_fld (pv 0) pe_dnewK rfl))))), ?_⟩
  obtain ⟨dx, rv, ho, hrv⟩ := hT.ob
  have m : o ∈ [o] := List.mem_singleton.mpr rfl
  obtain ⟨kvs, e1, r1⟩ := hT.d1
  refine ⟨fun σ H1 => σ = [some (.ref o)] ∧ ∃ d1 v, H d1 = none ∧ Kp [o] H H1 ∧ H1 o = some (.ins C dx [("_office", .ref off), ("_documents", .ref d1), ("_sealed", .ref ds), ("_roles", rv), ("_lists", .ref dl)]) ∧ H1 d1 = some (.dK [(Sum.inr kC, v)]) ∧ Rq H v st.ch, ?_, fun σ H1 ⟨hσ, d1, v, h1, k1, ho1, hd1, hv⟩ => ?_⟩
  · walk_at "wq"
    intro p hp
    have no : o ≠ p := ne_of_none ho hp
    have nd : dd ≠ p := ne_of_none e1 hp
    have e1' : upd H p (.dK []) dd = some (.dK kvs) := by rw [upd_ne nd]; exact e1
    have g := DGet.k (k := Sum.inr kC) e1'
    obtain ⟨v, ev, rw1⟩ : ∃ v, valV kvs (Sum.inr kC) = some v ∧ Rq H v st.ch := by
      rcases r1.val (n := kC) with ⟨v, d, a, b, c⟩ | ⟨a, b⟩
      · have := hT.ok.ch.1
        rw [b] at this; cases this
        exact ⟨v, a, c⟩
      · have := hT.ok.ch.1
        rw [b] at this; cases this
    rw [ev] at g
    have eo : upd (upd H p (.dK [])) p (.dK (mergeK [] [(Sum.inr kC, v)])) o = some (.ins C dx [("_office", .ref off), ("_documents", .ref dd), ("_sealed", .ref ds), ("_roles", rv), ("_lists", .ref dl)]) := by rw [upd_ne no, upd_ne no]; exact ho
    exact ⟨C, dx, _, by rw [upd_ne no]; exact ho, T.cl, T.n2, _, rfl, dd, rfl, v, g, [(Sum.inr kC, v)], rfl, by show 1 ≤ 15; decide, C, dx, _, eo, T.cl, T.n2, by show 5 < 1000; decide, p, hp, (kp_new2 hp).trans (Kp.insT eo m), rfl, v, by rw [upd_ne no.symm, upd_same]; rfl, rw1⟩
  subst hσ
  refine ⟨fun σ H2 => σ = [some (.ref o)] ∧ ∃ d2 z, getT st.txs kC = some z ∧ H d2 = none ∧ d2 ≠ d1 ∧ Kp [o] H H2 ∧ H2 o = some (.ins C dx [("_office", .ref off), ("_documents", .ref d1), ("_sealed", .ref d2), ("_roles", rv), ("_lists", .ref dl)]) ∧ H2 d1 = some (.dK [(Sum.inr kC, v)]) ∧ H2 d2 = some (.dK [(Sum.inr kC, .str z)]), ?_, fun σ H2 ⟨hσ, d2, z, hz, h2, n2, k2, ho2, hd2, hs2⟩ => ?_⟩
  · walk_at "wq"
    intro p hp
    have no : o ≠ p := ne_of_none ho1 hp
    have n1 : d1 ≠ p := ne_of_none hd1 hp
    have es1 : H1 ds = some (.dK (txK st.txs)) := k1.keep _ _ (by rw [List.mem_singleton]; exact ne_of hT.d2 ho (by intro z; cases z)) hT.d2
    have nd : ds ≠ p := ne_of_none es1 hp
    have es1' : upd H1 p (.dK []) ds = some (.dK (txK st.txs)) := by rw [upd_ne nd]; exact es1
    have g := DGet.k (k := Sum.inr kC) es1'
    obtain ⟨z, hz⟩ := Option.isSome_iff_exists.mp hT.ok.cx
    rw [txK_val, hz] at g
    have eo : upd (upd H1 p (.dK [])) p (.dK (mergeK [] [(Sum.inr kC, V.str z)])) o = some (.ins C dx [("_office", .ref off), ("_documents", .ref d1), ("_sealed", .ref ds), ("_roles", rv), ("_lists", .ref dl)]) := by rw [upd_ne no, upd_ne no]; exact ho1
    have n01 : o ≠ d1 := ne_of ho1 hd1 (by intro z; cases z)
    exact ⟨C, dx, _, by rw [upd_ne no]; exact ho1, T.cl, T.n3, _, rfl, ds, rfl, .str z, g, [(Sum.inr kC, .str z)], rfl, by show 1 ≤ 15; decide, C, dx, _, eo, T.cl, T.n3, by show 5 < 1000; decide, p, z, hz, k1.gone1 (fun b hb => by rw [List.mem_singleton.mp hb, ho1]; simp) hp, n1.symm, k1.trans ((kp_new2 hp).trans (Kp.insT eo m)), rfl, by rw [upd_ne n01.symm, upd_ne n1, upd_ne n1]; exact hd1, by rw [upd_ne no.symm, upd_same]; rfl⟩
  subst hσ
  refine ⟨fun σ H3 => σ = [some (.ref o)] ∧ Kp [o] H H3 ∧ H3 o = some (.ins C dx [("_office", .ref off), ("_documents", .ref d1), ("_sealed", .ref d2), ("_roles", .non), ("_lists", .ref dl)]) ∧ H3 d1 = some (.dK [(Sum.inr kC, v)]) ∧ H3 d2 = some (.dK [(Sum.inr kC, .str z)]), ?_, fun σ H3 ⟨hσ, k3, ho3, hd3, hs3⟩ => ?_⟩
  · walk_at "wq"
    have n1 : o ≠ d1 := ne_of ho2 hd2 (by intro z; cases z)
    have n2 : o ≠ d2 := ne_of ho2 hs2 (by intro z; cases z)
    exact ⟨C, dx, _, ho2, T.cl, T.n4, by show 5 < 1000; decide, k2.trans (Kp.insT ho2 m), rfl, by rw [upd_ne n1.symm]; exact hd2, by rw [upd_ne n2.symm]; exact hs2⟩
  subst hσ
  walk_at "wq"
  intro p hp
  have no : o ≠ p := ne_of_none ho3 hp
  have n1 : d1 ≠ p := ne_of_none hd3 hp
  have n2' : d2 ≠ p := ne_of_none hs3 hp
  have m1 : o ≠ d1 := ne_of ho3 hd3 (by intro z; cases z)
  have m2 : o ≠ d2 := ne_of ho3 hs3 (by intro z; cases z)
  have eo : upd H3 p (.dK []) o = some (.ins C dx [("_office", .ref off), ("_documents", .ref d1), ("_sealed", .ref d2), ("_roles", .non), ("_lists", .ref dl)]) := by rw [upd_ne no]; exact ho3
  refine ⟨C, dx, _, eo, T.cl, T.n5, by show 5 < 1000; decide, ?_⟩
  have kk : Kp [o] H3 (upd (upd H3 p (.dK [])) o (.ins C dx (putF "_lists" (.ref p) [("_office", .ref off), ("_documents", .ref d1), ("_sealed", .ref d2), ("_roles", .non), ("_lists", .ref dl)]))) := (Kp.new hp _).trans (Kp.insT eo m)
  have kf := k3.trans kk
  refine q d1 d2 p _ h1 h2 (k3.gone1 (fun b hb => by rw [List.mem_singleton.mp hb, ho3]; simp) hp) kf ?_
  have oks : st.forg.Ok := by
    have m1 := hT.ok.ok _ (getA_mem hT.ok.ch.1)
    unfold Tst.forg
    rw [hz]
    exact one_okA hT.ok.ch.2 m1.1 m1.2 (hT.ok.tx _ (getT_mem hz))
  refine ⟨⟨dx, .non, upd_same, .non⟩, ⟨_, by rw [upd_ne m1.symm, upd_ne n1]; exact hd3, .cons (hv.pure kf (hT.ok.ok _ (getA_mem hT.ok.ch.1)).2) .nil⟩, ?_, ⟨_, by rw [upd_ne no.symm, upd_same], .nil⟩, n2.symm, n1, n2', oks⟩
  rw [upd_ne m2.symm, upd_ne n2', hs3]
  show _ = some (HO.dK (txK [(kC, (getT st.txs kC).getD Str.empty)]))
  rw [hz]; rfl
theorem ok_tinit (F : Fun K "__init__" "Trusted.__init__" s_Trusted___init f fd) (T : TrC K C) (c_document_in : Cal P w K mg base (CXG P w) 25 "_document_in" (spDocIn CR Ts)) (c_require_signed : Cal P w K mg base (CXG P w) 26 "_require_signed" (spSgn CO CR Ts)) (c_role_of : Cal P w K mg base CX0 1 "role_of" spRoleOf) :
    FnOk P w K mg base (CXG P w) 27 f fd ["self", "office", "sealed"] (spTInit C CO CR Ts) := by
  refine F.okG sc_Trusted___init (fun vs H Q E h => ?_) (fun cdv A outer s H vs Q E hr h => ?_)
  · obtain ⟨o, dx, off, dm, made, v, rfl, _⟩ := h; rfl
  obtain ⟨o, dx, off, dm, made, v, rfl, ho, hO, hty, hz, hG, q, q1, q2⟩ := h
  refine ⟨_, (pss_cons (ps_set (i := 3) sc_Trusted___init.nd rfl (Or.inl rfl) (c_document_in.pex hr (passG (takesG_of rfl rfl rfl rfl) fun _ _ _ _ h => h) (pa_cons pe_str (pa_cons (pv 2) pa_nil))))
    (C8.pss_cut (ps_expr (c_require_signed.pex hr (passG (takesG_of rfl rfl rfl rfl) fun _ _ _ _ h => h) (pa_cons (pv 1) (pa_cons (pv 2) (pa_cons (c_role_of.pe hr (pa_cons (pv 3) (pa_cons pe_str pa_nil))) pa_nil)))))
    (C8.pss_cut (ps_fld (pv 0) (pv 1) rfl)
    (C8.pss_cut (ps_fld (pv 0) (pe_disp (pps_cons pe_str (pv 3) pps_nil) rfl rfl (by intro h; cases h) (by decide)) rfl)
    (C8.pss_cut (ps_fld (pv 0) (pe_disp (pps_cons pe_str (pv 2) pps_nil) rfl rfl (by intro h; cases h) (by decide)) rfl)
    (C8.pss_cut (ps_fld (pv 0) pe_non rfl)
    (pss_one (ps_fld (pv 0) pe_dnewK rfl)))))))), ?_⟩
  walk_at "wq"
  refine ⟨kC, v, rfl, hty, hz, hG, fun x d e hd u H1 k1 g1 R1 od => ?_, fun no e H1 k1 g1 he hx => q1 no e H1 (k1.mono fun b m => List.mem_cons_of_mem _ m) g1 he hx⟩
  subst e
  have w := (one_ok hd).ok _ List.mem_cons_self
  have ic : isCharter d = true := by
    obtain ⟨_, _, _, _, _, _, _, _, ok⟩ := hd
    unfold isK at ok; rw [if_pos rfl] at ok; exact ok
  have oT : o ∉ Ts := hG.ne ho
  have ho1 := k1.keep _ _ oT ho
  refine ⟨fun σ H2 => σ = [some (.ref o), some (.ref off), some (.str x), some u] ∧ Sgn made x (rlD d 0) ∧ Kp Ts H H2 ∧ Tabs Ts H2 ∧ Rq H2 u d, ?_, fun σ H2 ⟨hσ, sg, k2, g2, R2⟩ => ?_⟩
  · walk_at "wq"
    refine ⟨u, d, kC, 0, rfl, R1, ic, rfl, fun r hr2 => ?_⟩
    obtain ⟨z, ss, t, o1, rest⟩ := hd
    refine ⟨off, dm, made, x, z, ss, r, _, rfl, hO.tabs k1 hG, o1, hr2, ch_role ic (by omega), g1, fun sg H2 k2 g2 => ⟨⟨z, ss, o1, sg⟩, k1.trans k2, g2, R1.pure k2 w.2⟩, fun ns e H2 k2 g2 he hx => ?_⟩
    refine q2 x d rfl ⟨z, ss, t, o1, rest⟩ (fun ⟨z2, ss2, o2, s2⟩ => ?_) e H2 ((k1.trans k2).mono fun b m => List.mem_cons_of_mem _ m) g2 (k1.gone g1 he) hx
    cases opn_uni o1 o2
    rw [ns] at s2; cases s2
  subst hσ
  have m : o ∈ o :: Ts := List.mem_cons_self
  have up : ∀ {G G' : Hp}, Kp [o] G G' → Kp (o :: Ts) G G' := fun k => k.mono fun b mb => by rw [List.mem_singleton.mp mb]; exact m
  have ho2 : H2 o = some (.ins C dx []) := k2.keep _ _ oT ho
  have m1 : o ∈ [o] := List.mem_singleton.mpr rfl
  have H2o : ∀ {G : Hp} {e : Addr}, Kp [o] H2 G → (∃ fs, G o = some (.ins C dx fs)) → G e = none → H e = none := fun k ⟨fs, hf⟩ he => (k2.gone g2 (k.gone1 (fun b hb => by rw [List.mem_singleton.mp hb, hf]; simp) he))
  refine ⟨fun σ H3 => σ = [some (.ref o), some (.ref off), some (.str x), some u] ∧ H3 o = some (.ins C dx [("_office", .ref off)]) ∧ Kp [o] H2 H3, ?_, fun σ H3 ⟨hσ, ho3, k3⟩ => ?_⟩
  · walk_at "wq"
    exact ⟨C, dx, _, ho2, T.cl, T.n1, by show 0 < 1000; decide, rfl, Kp.insT ho2 m1⟩
  subst hσ
  refine ⟨fun σ H4 => σ = [some (.ref o), some (.ref off), some (.str x), some u] ∧ ∃ d1, H d1 = none ∧ H4 o = some (.ins C dx [("_office", .ref off), ("_documents", .ref d1)]) ∧ H4 d1 = some (.dK [(Sum.inr kC, u)]) ∧ Kp [o] H2 H4, ?_, fun σ H4 ⟨hσ, d1, h1, ho4, hd4, k4⟩ => ?_⟩
  · walk_at "wq"
    intro p hp
    have no : o ≠ p := ne_of_none ho3 hp
    have eo : upd (upd H3 p (.dK [])) p (.dK (mergeK [] [(Sum.inr kC, u)])) o = some (.ins C dx [("_office", .ref off)]) := by rw [upd_ne no, upd_ne no]; exact ho3
    exact ⟨[(Sum.inr kC, u)], rfl, by show 1 ≤ 15; decide, C, dx, _, eo, T.cl, T.n2, by show 1 < 1000; decide, p, H2o k3 ⟨_, ho3⟩ hp, rfl, by rw [upd_ne no.symm, upd_same]; rfl, k3.trans ((kp_new2 hp).trans (Kp.insT eo m1))⟩
  subst hσ
  refine ⟨fun σ H5 => σ = [some (.ref o), some (.ref off), some (.str x), some u] ∧ ∃ d2, H d2 = none ∧ d2 ≠ d1 ∧ H5 o = some (.ins C dx [("_office", .ref off), ("_documents", .ref d1), ("_sealed", .ref d2)]) ∧ H5 d1 = some (.dK [(Sum.inr kC, u)]) ∧ H5 d2 = some (.dK [(Sum.inr kC, .str x)]) ∧ Kp [o] H2 H5, ?_, fun σ H5 ⟨hσ, d2, h2, n2, ho5, hd5, hs5, k5⟩ => ?_⟩
  · walk_at "wq"
    intro p hp
    have no : o ≠ p := ne_of_none ho4 hp
    have n1 : d1 ≠ p := ne_of_none hd4 hp
    have n01 : o ≠ d1 := ne_of ho4 hd4 (by intro z; cases z)
    have eo : upd (upd H4 p (.dK [])) p (.dK (mergeK [] [(Sum.inr kC, V.str x)])) o = some (.ins C dx [("_office", .ref off), ("_documents", .ref d1)]) := by rw [upd_ne no, upd_ne no]; exact ho4
    exact ⟨[(Sum.inr kC, .str x)], rfl, by show 1 ≤ 15; decide, C, dx, _, eo, T.cl, T.n3, by show 2 < 1000; decide, p, H2o k4 ⟨_, ho4⟩ hp, n1.symm, rfl, by rw [upd_ne n01.symm, upd_ne n1, upd_ne n1]; exact hd4, by rw [upd_ne no.symm, upd_same]; rfl, k4.trans ((kp_new2 hp).trans (Kp.insT eo m1))⟩
  subst hσ
  have n1 : o ≠ d1 := ne_of ho5 hd5 (by intro z; cases z)
  have n3 : o ≠ d2 := ne_of ho5 hs5 (by intro z; cases z)
  refine ⟨fun σ H6 => σ = [some (.ref o), some (.ref off), some (.str x), some u] ∧ H6 o = some (.ins C dx [("_office", .ref off), ("_documents", .ref d1), ("_sealed", .ref d2), ("_roles", .non)]) ∧ H6 d1 = some (.dK [(Sum.inr kC, u)]) ∧ H6 d2 = some (.dK [(Sum.inr kC, .str x)]) ∧ Kp [o] H2 H6, ?_, fun σ H6 ⟨hσ, ho6, hd6, hs6, k6⟩ => ?_⟩
  · walk_at "wq"
    exact ⟨C, dx, _, ho5, T.cl, T.n4, by show 3 < 1000; decide, rfl, by rw [upd_ne n1.symm]; exact hd5, by rw [upd_ne n3.symm]; exact hs5, k5.trans (Kp.insT ho5 m1)⟩
  subst hσ
  walk_at "wq"
  intro p hp
  have no : o ≠ p := ne_of_none ho6 hp
  have n4 : d1 ≠ p := ne_of_none hd6 hp
  have n5 : d2 ≠ p := ne_of_none hs6 hp
  have eo : upd H6 p (.dK []) o = some (.ins C dx [("_office", .ref off), ("_documents", .ref d1), ("_sealed", .ref d2), ("_roles", .non)]) := by rw [upd_ne no]; exact ho6
  refine ⟨C, dx, _, eo, T.cl, T.n5, by show 4 < 1000; decide, ?_⟩
  have kf : Kp [o] H2 (upd (upd H6 p (.dK [])) o (.ins C dx (putF "_lists" (.ref p) [("_office", .ref off), ("_documents", .ref d1), ("_sealed", .ref d2), ("_roles", .non)]))) := k6.trans ((Kp.new hp _).trans (Kp.insT eo m1))
  refine q x d rfl hd sg d1 d2 p _ h1 h2 (H2o k6 ⟨_, ho6⟩ hp) ?_ ((k2.mono fun b m => List.mem_cons_of_mem _ m).trans (up kf)) (g2.kp kf fun P mP mo => oT (List.mem_singleton.mp mo ▸ mP))
  exact ⟨⟨dx, .non, upd_same, .non⟩, ⟨_, by rw [upd_ne n1.symm, upd_ne n4]; exact hd6, .cons (R2.pure kf w.2) .nil⟩, by rw [upd_ne n3.symm, upd_ne n5]; exact hs6, ⟨_, by rw [upd_ne no.symm, upd_same], .nil⟩, n2.symm, n4, n5, one_ok hd⟩
end
/-! entry_of -/
abbrev s_behind_name : Stmt := top 73
abbrev N_behind_name : List Str := ["rows", "name", "row"]
theorem sc_behind_name : FnScope N_behind_name ["rows", "name"] (defScope s_behind_name) := ⟨rfl, rfl, rfl, by decide +kernel, rfl, by decide +kernel, by decide +kernel⟩
abbrev s_entry_of : Stmt := top 63
abbrev N_entry_of : List Str := ["document", "name"]
theorem sc_entry_of : FnScope N_entry_of ["document", "name"] (defScope s_entry_of) := ⟨rfl, rfl, rfl, by decide +kernel, rfl, by decide +kernel, by decide +kernel⟩
def hdD : PyData → Bool
  | .tuple (.str _ :: _) => true
  | _ => false
def rowD (z : Str) : List PyData → PyData
  | [] => .none
  | d :: ds => if strD (ixD d 0) = z then .tuple ((itD d).drop 1) else rowD z ds
def spBehind : Sp := fun vs H Q _ => ∃ (b : Addr) (xs : List V) (ds : List PyData) (z : Str), vs = [.ref b, .str z] ∧ H b = some (.tup xs) ∧ RqA H xs ds ∧ ds.all hdD = true ∧ ∀ v H', Rq H' v (rowD z ds) → Kp [] H H' → Q v H'
def spOf (n : Nat) : Sp := fun vs H Q _ => ∃ (p b : Addr) (us xs : List V) (ds : List PyData) (z : Str), vs = [.ref p, .str z] ∧ H p = some (.tup us) ∧ atI us (n : Int) = some (.ref b) ∧ H b = some (.tup xs) ∧ RqA H xs ds ∧ ds.all hdD = true ∧ ∀ v H', Rq H' v (rowD z ds) → Kp [] H H' → Q v H'
def p1D (p : PyData → Bool) : PyData → Bool
  | .none => true
  | .int _ => true
  | .str _ => true
  | .tuple ds => decide (ds.length ≤ 1000) && ds.all p
  | _ => false
def q2D : PyData → Bool := p1D (p1D fun _ => false)
theorem dig_str {d : PyData} (h : isDig d = true) : ∃ z, d = .str z := by
  cases d <;> first | exact ⟨_, rfl⟩ | cases h
theorem num_int {lo hi : Int} {d : PyData} (h : numB lo hi d = true) : ∃ z, d = .int z := by
  cases d <;> first | exact ⟨_, rfl⟩ | cases h
theorem ne_row {d : PyData} (h : isNE d = true) : hdD d = true ∧ q2D (.tuple ((itD d).drop 1)) = true ∧ (nmG d).length ≤ 100 := by
  unfold isNE isEntry at h
  rw [Bool.and_eq_true, Bool.and_eq_true, Bool.and_eq_true, Bool.and_eq_true, Bool.and_eq_true] at h
  obtain ⟨h1, h2, _, h3, h4, h5⟩ := h
  cases d with
  | tuple es =>
    have h1 : (decide (4 ≤ es.length) && decide (es.length ≤ 4)) = true := h1
    rw [Bool.and_eq_true, decide_eq_true_eq, decide_eq_true_eq] at h1
    match es, h1, h2, h3, h4, h5 with
    | [a, b, c, e], _, h2, h3, h4, h5 =>
      obtain ⟨n, rfl⟩ := num_int (show numB 1 1000000000000 b = true from h3)
      obtain ⟨m, rfl⟩ := num_int (show numB 0 1000000000000 c = true from h4)
      obtain ⟨z, rfl⟩ := dig_str (show isDig e = true from h5)
      have h2 : lnD a = true := h2
      cases a with
      | str w =>
        refine ⟨rfl, rfl, ?_⟩
        have t : lnS w = true := h2
        show w.length ≤ 100
        have := (ln_low t).1
        omega
      | _ => cases h2
    | [], h, _, _, _, _ => exact absurd h.1 (by decide)
    | [_], h, _, _, _, _ => exact absurd h.1 (by simp)
    | [_, _], h, _, _, _, _ => exact absurd h.1 (by simp)
    | [_, _, _], h, _, _, _, _ => exact absurd h.1 (by simp)
    | _ :: _ :: _ :: _ :: _ :: _, h, _, _, _, _ => exact absurd h.2 (by simp)
  | _ => cases h1
section
variable {P : Program} {w : World} {K : PySem.W.Frag} {mg : Str → Option Value} {base : Heap} {f : Addr} {fd : FuncData}
theorem ok_behind (F : Fun K "_behind_name" "_behind_name" s_behind_name f fd) (B : Blt mg) : FnOk P w K mg base CX0 1 f fd ["rows", "name"] spBehind := by
  refine F.ok sc_behind_name (fun vs H Q E h => ?_) (fun cdv A outer s H vs Q E hr h => ?_)
  · obtain ⟨_, _, _, _, rfl, _⟩ := h; rfl
  obtain ⟨b, xs, ds, z, rfl, eb, r, hd, q⟩ := h
  refine ⟨_, (pss_cons (ps_for PassesOwn.never rfl (pi_tup (pv 0)) (pg_name (i := 2) sc_behind_name.nd rfl (Or.inl rfl)) (pss_one (ps_if (pt_cmpR op_eq (pe_ix ix_tM (pv 2) pe_int (fun _ _ => rfl)) (pv 1) (nomark _)) (pss_one (ps_ret (pe_slice sl_tupA (pv 2) (po_some pe_int) po_none))) pss_nil)))
    (pss_one (ps_ret pe_non))), ?_⟩
  walk_at "wp"
  refine ⟨_, rfl, b, rfl, ⟨xs, SqT.of eb⟩, ?_⟩
  refine for_tup (K := K) (a := b) (xs := xs) (fun i σ H' => (∃ o : Option V, σ = [some (.ref b), some (.str z), o]) ∧ H' = H ∧ rowD z (ds.drop i) = rowD z ds) ⟨⟨_, rfl⟩, rfl, rfl⟩ (fun i σ H' _ ⟨_, e, _⟩ => by rw [e]; exact SqT.of eb) (fun i x σ H' hx ⟨⟨o, hσ⟩, e, hd2⟩ => ?_) (fun σ H' ⟨⟨o, hσ⟩, e, hd2⟩ => ?_)
  · subst hσ
    subst e
    obtain ⟨d, hdi, Rd⟩ := r.get hx
    have dr : ds.drop i = d :: ds.drop (i + 1) := by
      have li := (List.getElem?_eq_some_iff.mp hdi)
      rw [List.drop_eq_getElem_cons li.1, li.2]
    have hh := List.all_eq_true.mp hd d (List.mem_of_getElem? hdi)
    rw [dr] at hd2
    walk_at "wp"
    cases Rd with
    | @tup p vs es ep re =>
      cases re with
      | nil => cases hh
      | @cons y ys e es a b =>
        cases a with
        | str s =>
          refine ⟨p, rfl, _, ep, _, at0, rfl, ?_⟩
          have e3 : rowD z (.tuple (.str s :: es) :: ds.drop (i + 1)) = if s = z then .tuple es else rowD z (ds.drop (i + 1)) := rfl
          rw [e3] at hd2
          split
          · rename_i c
            rw [if_pos (V.str.inj c)] at hd2
            refine sl_q ep fun z2 H3 k3 f3 => ?_
            have r3 := ((RqA.cons (.str s) b).kp0 k3).cut (some 1) none
            rw [cutD_tl] at r3
            exact q _ H3 (hd2 ▸ .tup f3 r3) k3
          · rename_i c
            rw [if_neg fun e => c (congrArg V.str e)] at hd2
            refine ⟨⟨_, rfl⟩, ?_⟩
            exact hd2
        | _ => cases hh
    | _ => cases hh
  · subst hσ
    subst e
    walk_at "wp"
    rw [r.len, List.drop_length] at hd2
    exact q .non H' (hd2 ▸ .non) (Kp.refl _ _)
theorem ok_entry_of (F : Fun K "entry_of" "entry_of" s_entry_of f fd) (B : Blt mg) (c_behind_name : Cal P w K mg base CX0 1 "_behind_name" spBehind) : FnOk P w K mg base CX0 2 f fd ["document", "name"] (spOf 3) := by
  refine F.ok sc_entry_of (fun vs H Q E h => ?_) (fun cdv A outer s H vs Q E hr h => ?_)
  · obtain ⟨_, _, _, _, _, _, rfl, _⟩ := h; rfl
  obtain ⟨p, b, us, xs, ds, z, rfl, ep, ei, eb, r, hd, q⟩ := h
  refine ⟨_, (pss_one (ps_ret (c_behind_name.pe hr (pa_cons (pe_ix ix_tM (pv 0) pe_int (fun _ _ => rfl)) (pa_cons (pv 1) pa_nil))))), ?_⟩
  walk_at "wp"
  exact ⟨_, ep, _, ei, b, xs, ds, z, rfl, eb, r, hd, q⟩
end
/-! the trusted set: what it accepts, as functions -/
def opnF (x : Str) : Option (Str × List Tr) := if x.length ≤ 100000 ∧ prn x = true then
    match pval 8 (TL.tl x) with
    | some (.tup [.str z, .tup ss], []) => if isCo (.tup [.str z, .tup ss]) = true then some (z, ss) else none
    | _ => none
  else none
theorem opnF_iff {x z : Str} {ss : List Tr} : opnF x = some (z, ss) ↔ opn x (.tup [.str z, .tup ss]) := by
  unfold opnF
  constructor
  · intro h
    split at h
    · rename_i c
      split at h
      · rename_i z2 ss2 e
        split at h
        · rename_i co
          injection h with h
          injection h with h1 h2
          subst h1; subst h2
          exact ⟨c.1, c.2, e, co⟩
        · cases h
      · cases h
    · cases h
  · rintro ⟨a, b, c, d⟩
    rw [if_pos ⟨a, b⟩, c]
    show (if isCo (.tup [.str z, .tup ss]) = true then some (z, ss) else none) = _
    rw [if_pos d]
def docF (k x : Str) : Option PyData := match opnF x with
  | none => none
  | some (z, _) => if z.length ≤ 100000 ∧ prn z = true then
      match pval 8 (TL.tl z) with
      | some (t, []) => if isK k (dT t) = true then some (dT t) else none
      | _ => none
    else none
theorem docF_iff {k x : Str} {d : PyData} : docF k x = some d ↔ DocIn k x d := by
  unfold docF
  constructor
  · intro h
    split at h
    · cases h
    · rename_i z ss e
      split at h
      · rename_i c
        split at h
        · rename_i t e2
          split at h
          · rename_i ok
            injection h with h
            subst h
            exact ⟨z, ss, t, opnF_iff.mp e, c.1, c.2, e2, rfl, ok⟩
          · cases h
        · cases h
      · cases h
  · rintro ⟨z, ss, t, a, b, c, e, rfl, ok⟩
    rw [opnF_iff.mpr a]
    show (if z.length ≤ 100000 ∧ prn z = true then _ else _) = _
    rw [if_pos ⟨b, c⟩, e]
    show (if isK k (dT t) = true then some (dT t) else none) = _
    rw [if_pos ok]
def sgnF (made : List (Str × Str)) (x : Str) (r : PyData) : Bool := match opnF x with
  | none => false
  | some (z, ss) => sgn made z ss r
theorem sgnF_of {made : List (Str × Str)} {x z : Str} {ss : List Tr} {r : PyData} (h : opn x (.tup [.str z, .tup ss])) : sgnF made x r = sgn made z ss r := by
  unfold sgnF
  rw [opnF_iff.mpr h]
def docV (k : Str) : V → Option (Str × PyData)
  | .str x => (docF k x).map fun d => (x, d)
  | _ => none
theorem docV_some {k x : Str} {v : V} {d : PyData} (h : docV k v = some (x, d)) : v = .str x ∧ DocIn k x d := by
  cases v with
  | str y =>
    obtain ⟨e, he, h2⟩ := Option.map_eq_some_iff.mp h
    injection h2 with h1 h2
    subst h1; subst h2
    exact ⟨rfl, docF_iff.mp he⟩
  | _ => cases h
theorem docV_of {k x : Str} {d : PyData} (h : DocIn k x d) : docV k (.str x) = some (x, d) := by
  show (docF k x).map _ = _
  rw [docF_iff.mpr h]; rfl
def verD (d : PyData) : Int := intD (ixD d 1)
def putA {α : Type} (l : List (Str × α)) (n : Str) (t : α) : List (Str × α) :=
  if (l.any fun p => decide (p.1 = n)) = true then l.map (fun p => if p.1 = n then (p.1, t) else p) else l ++ [(n, t)]
def Tst.keep (s : Tst) (k : Str) (d : PyData) (x : Str) : Tst := { s with docs := putA s.docs k d, txs := putT s.txs k x }
/-- no more than this -/
structure Tst.Sm (s : Tst) : Prop where
  a : s.docs.length ≤ 1000000
  b : s.txs.length ≤ 1000000
  c : s.lsts.length ≤ 1000000
  d : (s.lsts.map (·.1)).Nodup
def rsn (z : String) : Except Str (PyData × Tst) := .error (Str.ofString z)
/-- the next charter -/
def accCh (made : List (Str × Str)) (s : Tst) (v : V) : Except Str (PyData × Tst) := match docV kC v with
  | none => rsn "form"
  | some (x, d) => if verD d ≠ verD s.ch + 1 then rsn "version" else if sgnF made x (rlD s.ch 0) = false then rsn "seals" else if sgnF made x (rlD d 0) = false then rsn "seals" else .ok (d, s.keep kC d x)
def usb (s : Tst) : V → Option Str
  | .str _ => if s.outd = true then some (Str.ofString "role") else none
  | _ => some (Str.ofString "form")
def verE (d : PyData) : Int := intD (ixD (ixD d 3) 0)
def stepsB (b d : PyData) : Bool := (decide (verD d < verD b) || decide (verE d < verE b)) || (decide (verD d = verD b) && !PyData.eqv d b)
/-- a stamp -/
def accSt (made : List (Str × Str)) (s : Tst) (v : V) : Except Str (PyData × Tst) := match usb s v with
  | some z => .error z
  | none => match docV kT v with
    | none => rsn "form"
    | some (x, d) => if sgnF made x (rlD s.ch 1) = false then rsn "seals" else
        match getA s.docs kT with
        | some b => if stepsB b d = true then rsn "version" else .ok (d, { s with rol := s.pres }.keep kT d x)
        | none => .ok (d, { s with rol := s.pres }.keep kT d x)
/-- a text against an entry -/
def sumB (x : Str) (en : PyData) : Option Str := if ((x.length : Nat) : Int) ≠ intD (ixD en 1) then some (Str.ofString "length") else if dgs x ≠ strD (ixD en 2) then some (Str.ofString "digest") else none
def entD (f : PyData) (z : Str) : PyData := rowD z (itD (ixD f 3))
def loseR (d r : PyData) : Bool := match entD d (strD (ixD r 0)) with
  | .none => true
  | e => decide (intD (ixD e 0) < intD (ixD r 1))
def loses (b d : PyData) : Bool := (itD (ixD b 3)).any (loseR d)
def Tst.cutL (s : Tst) (d : PyData) : Tst := { s with lsts := s.lsts.filter fun p => PyData.eqv (entD d p.1) (ixD p.2 2) }
/-- a shelf -/
def accS4 (s : Tst) (x : Str) (d : PyData) : Except Str (PyData × Tst) := match getA s.docs kF with
  | some b => if loses b d = true then rsn "version" else .ok (d, (s.cutL d).keep kF d x)
  | none => .ok (d, (s.cutL d).keep kF d x)
def accS3 (made : List (Str × Str)) (s : Tst) (st : PyData) (x : Str) (d : PyData) : Except Str (PyData × Tst) := if sgnF made x (rlD s.ch 2) = false then rsn "seals" else if verD d ≠ intD (ixD (ixD st 3) 0) then rsn "version" else accS4 s x d
def accS2 (made : List (Str × Str)) (s : Tst) (st : PyData) (y : Str) : Except Str (PyData × Tst) := match sumB y (ixD st 3) with
  | some z => .error z
  | none => match docV kF (.str y) with
    | none => rsn "form"
    | some (x, d) => accS3 made s st x d
def accSh (made : List (Str × Str)) (s : Tst) (v : V) : Except Str (PyData × Tst) := match usb s v with
  | some z => .error z
  | none => match getA s.docs kT with
    | none => rsn "missing"
    | some st => match v with
      | .str y => accS2 made s st y
      | _ => rsn "form"
/-- a list -/
def accL4 (made : List (Str × Str)) (s : Tst) (n : Str) (rl en : PyData) (x : Str) (d : PyData) : Except Str (PyData × Tst) := if strD (ixD d 1) ≠ n then rsn "form" else if sgnF made x rl = false then rsn "seals" else if intD (ixD d 2) ≠ intD (ixD en 0) then rsn "version" else
  .ok (d, { s with lsts := putA s.lsts n (.tuple [d, rl, en]) })
def accL3 (made : List (Str × Str)) (s : Tst) (n : Str) (rl en : PyData) (y : Str) : Except Str (PyData × Tst) := match sumB y en with
  | some z => .error z
  | none => match docV kL (.str y) with
    | none => rsn "form"
    | some (x, d) => accL4 made s n rl en x d
def accL2 (made : List (Str × Str)) (s : Tst) (n y : Str) (rl : PyData) : PyData → Except Str (PyData × Tst)
  | .none => rsn "role"
  | en => accL3 made s n rl en y
def accLs (made : List (Str × Str)) (s : Tst) (n : Str) (v : V) (rl : PyData) : Except Str (PyData × Tst) := match usb s v with
  | some z => .error z
  | none => if s.curr = false then rsn "missing" else match v with
    | .str y => accL2 made s n y rl (entD ((getA s.docs kF).getD .none) n)
    | _ => rsn "form"
def resSt (s : Tst) (v : V) (rs : PyData) : Except Str (PyData × Tst) := match docV kT v with
  | none => rsn "form"
  | some (x, d) => .ok (d, { s with rol := rs }.keep kT d x)
def resSh (s : Tst) (v : V) : Except Str (PyData × Tst) := match getA s.docs kT with
  | none => rsn "missing"
  | some _ => match docV kF v with
    | none => rsn "form"
    | some (x, d) => .ok (d, s.keep kF d x)
theorem KvD.put {H : Hp} {n : Str} {v : V} {d : PyData} (r : Rq H v d) : ∀ {kvs : List (Key × V)} {l : List (Str × PyData)}, KvD H kvs l → KvD H (putK kvs (Sum.inr n) v) (putA l n d) := by
  intro kvs l h
  have any : ∀ {kvs : List (Key × V)} {l : List (Str × PyData)}, KvD H kvs l → (kvs.any fun kv => decide (kv.1 = (Sum.inr n : Key))) = l.any fun p => decide (p.1 = n) := by
    intro kvs l h
    induction h with
    | nil => rfl
    | @cons m _ _ _ _ _ _ ih =>
      rw [List.any_cons, List.any_cons, ih]
      congr 1
      exact decide_eq_decide.mpr ⟨fun e => Sum.inr.inj e, fun e => congrArg Sum.inr e⟩
  have mp : ∀ {kvs : List (Key × V)} {l : List (Str × PyData)}, KvD H kvs l → KvD H (kvs.map fun kv => if kv.1 = (Sum.inr n : Key) then (kv.1, v) else kv) (l.map fun p => if p.1 = n then (p.1, d) else p) := by
    intro kvs l h
    induction h with
    | nil => exact .nil
    | @cons m _ _ _ _ a _ ih =>
      rw [List.map_cons, List.map_cons]
      by_cases e : m = n
      · subst e
        rw [if_pos rfl, if_pos rfl]
        exact .cons r ih
      · rw [if_neg (fun z => e (Sum.inr.inj z)), if_neg e]
        exact .cons a ih
  have ap : ∀ {kvs : List (Key × V)} {l : List (Str × PyData)}, KvD H kvs l → KvD H (kvs ++ [(Sum.inr n, v)]) (l ++ [(n, d)]) := by
    intro kvs l h
    induction h with
    | nil => exact .cons r .nil
    | cons a _ ih => exact .cons a ih
  unfold putK putA
  rw [any h]
  split
  · exact mp h
  · exact ap h
theorem KvD.len {H : Hp} : ∀ {kvs : List (Key × V)} {l : List (Str × PyData)}, KvD H kvs l → kvs.length = l.length
  | _, _, .nil => rfl
  | _, _, .cons _ r => congrArg (· + 1) r.len
theorem putA_mem {α : Type} {l : List (Str × α)} {n : Str} {t : α} {p : Str × α} (h : p ∈ putA l n t) : p ∈ l ∨ p = (n, t) := by
  unfold putA at h
  split at h
  · obtain ⟨q, m, rfl⟩ := List.mem_map.mp h
    split
    · rename_i c; subst c; exact .inr rfl
    · exact .inl m
  · rcases List.mem_append.mp h with m | m
    · exact .inl m
    · exact .inr (List.mem_singleton.mp m)
theorem getA_put {α : Type} (n m : Str) (t : α) : ∀ l : List (Str × α), getA (putA l n t) m = if m = n then some t else getA l m := by
  intro l
  have ap : ∀ l : List (Str × α), (l.any fun p => decide (p.1 = n)) = false → getA (l ++ [(n, t)]) m = if m = n then some t else getA l m := by
    intro l h
    induction l with
    | nil =>
      show (List.find? (fun p => decide (p.1 = m)) [(n, t)]).map (·.2) = _
      by_cases e : n = m
      · subst e; simp
      · rw [if_neg fun z => e z.symm]; simp [getA, e]
    | cons p r ih =>
      rw [List.any_cons, Bool.or_eq_false_iff, decide_eq_false_iff_not] at h
      have ih := ih h.2
      unfold getA at ih ⊢
      rw [List.cons_append, List.find?_cons, List.find?_cons]
      by_cases e : p.1 = m
      · rw [decide_eq_true e]
        rw [if_neg fun z => h.1 (e.trans z)]
      · rw [decide_eq_false e]
        exact ih
  have mp : ∀ l : List (Str × α), getA (l.map fun p => if p.1 = n then (p.1, t) else p) m = if m = n then (if (l.any fun p => decide (p.1 = n)) = true then some t else none) else getA l m := by
    intro l
    induction l with
    | nil => by_cases e : m = n <;> simp [getA, e]
    | cons p r ih =>
      unfold getA at ih ⊢
      rw [List.map_cons, List.find?_cons, List.find?_cons, List.any_cons]
      by_cases e : p.1 = n
      · rw [if_pos e, decide_eq_true (p := p.1 = n) e, Bool.true_or, if_pos rfl]
        by_cases e2 : m = n
        · rw [if_pos e2, decide_eq_true (e.trans e2.symm)]; rfl
        · rw [if_neg e2, decide_eq_false (fun z => e2 (z.symm.trans e)), ih, if_neg e2]
      · rw [if_neg e, decide_eq_false (p := p.1 = n) e, Bool.false_or]
        by_cases e2 : m = n
        · rw [if_pos e2, decide_eq_false (fun z => e (z.trans e2)), ih, if_pos e2]
        · rw [if_neg e2] at ih ⊢
          by_cases e3 : p.1 = m
          · rw [decide_eq_true e3]
          · rw [decide_eq_false e3]; exact ih
  unfold putA
  split
  · rename_i c
    rw [mp l, c, if_pos rfl]
  · rename_i c
    exact ap l (Bool.eq_false_iff.mpr c)
theorem putA_len {α : Type} (l : List (Str × α)) (n : Str) (t : α) : (putA l n t).length ≤ l.length + 1 := by
  unfold putA
  split
  · rw [List.length_map]; omega
  · rw [List.length_append]; exact Nat.le_refl _
/-! the trusted set: accepting -/
abbrev s_steps_back : Stmt := top 89
abbrev N_steps_back : List Str := ["before", "stamp"]
theorem sc_steps_back : FnScope N_steps_back ["before", "stamp"] (defScope s_steps_back) := ⟨rfl, rfl, rfl, by decide +kernel, rfl, by decide +kernel, by decide +kernel⟩
abbrev s_require_sum : Stmt := top 88
abbrev N_require_sum : List Str := ["sealed", "entry", "_", "length", "told"]
theorem sc_require_sum : FnScope N_require_sum ["sealed", "entry"] (defScope s_require_sum) := ⟨rfl, rfl, rfl, by decide +kernel, rfl, by decide +kernel, by decide +kernel⟩
abbrev s_Trusted__keep : Stmt := inClass (top 84) 19
abbrev N_Trusted__keep : List Str := ["self", "kind", "document", "sealed"]
theorem sc_Trusted__keep : FnScope N_Trusted__keep ["self", "kind", "document", "sealed"] (defScope s_Trusted__keep) := ⟨rfl, rfl, rfl, by decide +kernel, rfl, by decide +kernel, by decide +kernel⟩
abbrev s_Trusted__require_usable : Stmt := inClass (top 84) 18
abbrev N_Trusted__require_usable : List Str := ["self", "sealed"]
theorem sc_Trusted__require_usable : FnScope N_Trusted__require_usable ["self", "sealed"] (defScope s_Trusted__require_usable) := ⟨rfl, rfl, rfl, by decide +kernel, rfl, by decide +kernel, by decide +kernel⟩
abbrev s_Trusted_accept_charter : Stmt := inClass (top 84) 1
abbrev N_Trusted_accept_charter : List Str := ["self", "sealed", "charter", "before"]
theorem sc_Trusted_accept_charter : FnScope N_Trusted_accept_charter ["self", "sealed"] (defScope s_Trusted_accept_charter) := ⟨rfl, rfl, rfl, by decide +kernel, rfl, by decide +kernel, by decide +kernel⟩
abbrev s_Trusted_accept_stamp : Stmt := inClass (top 84) 2
abbrev N_Trusted_accept_stamp : List Str := ["self", "sealed", "stamp"]
theorem sc_Trusted_accept_stamp : FnScope N_Trusted_accept_stamp ["self", "sealed"] (defScope s_Trusted_accept_stamp) := ⟨rfl, rfl, rfl, by decide +kernel, rfl, by decide +kernel, by decide +kernel⟩
abbrev s_Trusted_restore_stamp : Stmt := inClass (top 84) 5
abbrev N_Trusted_restore_stamp : List Str := ["self", "sealed", "roles", "stamp"]
theorem sc_Trusted_restore_stamp : FnScope N_Trusted_restore_stamp ["self", "sealed", "roles"] (defScope s_Trusted_restore_stamp) := ⟨rfl, rfl, rfl, by decide +kernel, rfl, by decide +kernel, by decide +kernel⟩
abbrev s_Trusted_restore_shelf : Stmt := inClass (top 84) 6
abbrev N_Trusted_restore_shelf : List Str := ["self", "sealed"]
theorem sc_Trusted_restore_shelf : FnScope N_Trusted_restore_shelf ["self", "sealed"] (defScope s_Trusted_restore_shelf) := ⟨rfl, rfl, rfl, by decide +kernel, rfl, by decide +kernel, by decide +kernel⟩
theorem DocIn.ok {k x : Str} {d : PyData} (h : DocIn k x d) : isK k d = true ∧ okD 12 d = true ∧ purD d = true ∧ x.length ≤ 100000 := by
  obtain ⟨z, ss, t, o1, l, p, pv, rfl, ok⟩ := h
  have lp := pval_back 8 _ _ _ pv
  have pl8 : pl 8 t = true := lp.2 (by unfold prn at p; exact List.all_eq_true.mp p)
  exact ⟨ok, ok_mono 8 12 _ (by decide) (ok_dT 8 t pl8 (by rw [← List.append_nil (txt t), ← lp.1, ← TL.len_tl]; omega)), pur_dT 8 t pl8, o1.1⟩
theorem isK_C {d : PyData} : isK kC d = isCharter d := by unfold isK; rw [if_pos rfl]
theorem isK_T {d : PyData} : isK kT d = isStamp d := by unfold isK; rw [if_neg kd_ne.1.symm, if_pos rfl]
theorem isK_F {d : PyData} : isK kF d = isShelf d := by unfold isK; rw [if_neg kd_ne.2.1.symm, if_neg kd_ne.2.2.2.1.symm, if_pos rfl]
theorem isK_L {d : PyData} : isK kL d = isList d := by unfold isK; rw [if_neg kd_ne.2.2.1.symm, if_neg kd_ne.2.2.2.2.1.symm, if_neg kd_ne.2.2.2.2.2.symm, decide_eq_true rfl, Bool.true_and]
theorem num_rq {lo hi : Int} {H : Hp} {v : V} {d : PyData} (r : Rq H v d) (h : numB lo hi d = true) : v = .int (intD d) := by
  cases d with
  | int i => cases r; rfl
  | _ => cases h
theorem docV_noneOf {k : Str} {v : V} (h : ∀ x d, v = .str x → ¬ DocIn k x d) : docV k v = none := by
  cases e : docV k v with
  | none => rfl
  | some p =>
    obtain ⟨a, b⟩ := docV_some (x := p.1) (d := p.2) e
    exact absurd b (h _ _ a)
theorem ch_num {d : PyData} (h : isCharter d = true) : numB 1 1000000000000 (ixD d 1) = true := by
  unfold isCharter at h; simp only [Bool.and_eq_true] at h; exact h.2.1
theorem st_num {d : PyData} (h : isStamp d = true) : numB 1 1000000000000 (ixD d 1) = true := by
  unfold isStamp at h; simp only [Bool.and_eq_true] at h; exact h.2.1
theorem sh_num {d : PyData} (h : isShelf d = true) : numB 1 1000000000000 (ixD d 1) = true := by
  unfold isShelf at h; simp only [Bool.and_eq_true] at h; exact h.2.1
theorem Tst.Ok.keep {s : Tst} (h : s.Ok) {k x : Str} {d : PyData} (D : DocIn k x d) (kk : k = kC ∨ k = kT ∨ k = kF) : (s.keep k d x).Ok := by
  obtain ⟨ik, od, pd, lx⟩ := D.ok
  have hc : (s.keep k d x).ch = if kC = k then d else s.ch := by
    show (getA (putA s.docs k d) kC).getD .none = _
    rw [getA_put]
    split
    · rfl
    · rw [h.ch.1]; rfl
  refine ⟨⟨?_, ?_⟩, fun e he => ?_, fun e he => ?_, fun p m => ?_, ?_, fun hs => ?_, fun p m => ?_, h.rol, h.ls⟩
  · rw [hc]
    show getA (putA s.docs k d) kC = _
    rw [getA_put]
    split
    · rfl
    · exact h.ch.1
  · rw [hc]
    split
    · rename_i c
      rw [← c, isK_C] at ik
      exact ik
    · exact h.ch.2
  · have he : getA (putA s.docs k d) kT = some e := he
    rw [getA_put] at he
    split at he
    · rename_i c
      injection he with he
      rw [← c, isK_T, he] at ik
      exact ik
    · exact h.st e he
  · have he : getA (putA s.docs k d) kF = some e := he
    rw [getA_put] at he
    split at he
    · rename_i c
      injection he with he
      rw [← c, isK_F, he] at ik
      exact ik
    · exact h.sh e he
  · rcases putA_mem m with m | rfl
    · exact h.ok p m
    · exact ⟨od, pd⟩
  · show (getT (putT s.txs k x) kC).isSome = true
    rw [getT_put]
    split
    · rfl
    · exact h.cx
  · have hs : (getA (putA s.docs k d) kF).isSome = true := hs
    show (getT (putT s.txs k x) kF).isSome = true
    rw [getA_put] at hs
    rw [getT_put]
    split
    · rfl
    · rename_i c
      rw [if_neg c] at hs
      exact h.sx hs
  · rcases putT_mem m with m | rfl
    · exact h.tx p m
    · exact lx
theorem st_ent {d : PyData} (h : isStamp d = true) : isEntry (ixD d 3) = true := by
  unfold isStamp at h; simp only [Bool.and_eq_true] at h; exact h.2.2.2
theorem en_all {d : PyData} (h : isEntry d = true) : tupB 3 3 d = true ∧ numB 1 1000000000000 (ixD d 0) = true ∧ numB 0 1000000000000 (ixD d 1) = true ∧ isDig (ixD d 2) = true := by
  unfold isEntry at h; simp only [Bool.and_eq_true] at h; exact ⟨h.1, h.2.1, h.2.2.1, h.2.2.2⟩
theorem dig_rq {H : Hp} {v : V} {d : PyData} (r : Rq H v d) (h : isDig d = true) : v = .str (strD d) := by
  obtain ⟨z, rfl⟩ := dig_str h
  cases r; rfl
theorem sgn_use {CO CR : Addr} {Ts : List Addr} {off dm : Addr} {made : List (Str × Str)} {k x : Str} {d r : PyData} {rv : V} {H : Hp} {Q : VK} {E : XK} (hO : Ofc CO off dm made H) (D : DocIn k x d) (R : Rq H rv r) (ir : isRole r = true) (G : Tabs Ts H)
    (y : sgnF made x r = true → ∀ H', Kp Ts H H' → Tabs Ts H' → Q .non H') (n : sgnF made x r = false → ∀ (e : Addr) (H' : Hp), Kp Ts H H' → Tabs Ts H' → H e = none → H' e = some (xdR "seals") → E (.ref CR) (some e) H') : spSgn CO CR Ts [.ref off, .str x, rv] H Q E := by
  obtain ⟨z, ss, t, o1, _⟩ := D
  rw [sgnF_of o1] at y n
  exact ⟨off, dm, made, x, z, ss, rv, r, rfl, hO, o1, R, ir, G, y, n⟩
theorem ds_in (o dd ds dl : Addr) (Ts : List Addr) : ∀ b ∈ [dd, ds], b ∈ o :: dd :: ds :: dl :: Ts := fun b m => by
  simp only [List.mem_cons, List.not_mem_nil, or_false] at m
  rcases m with rfl | rfl <;> simp
theorem pres_ok {s : Tst} (h : s.Ok) : okD 13 s.pres = true ∧ purD s.pres = true := by
  have ch := h.ch.2
  have w := h.ok _ (getA_mem h.ch.1)
  have o3 : ∀ j < 4, okD 12 (ixD (ixD s.ch 3) j) = true := fun j hj => ok_mono 10 12 _ (by decide) (ok_ix (ok_ix w.1 (ch_tup ch) (i := 3) (by omega)) (ch_rls ch) hj)
  have p3 : ∀ j < 4, purD (ixD (ixD s.ch 3) j) = true := fun j hj => pur_ix (pur_ix w.2 (ch_tup ch) (i := 3) (by omega)) (ch_rls ch) hj
  refine ⟨okD_tup.mpr ⟨by show 2 ≤ 200000; decide, fun d m => ?_⟩, purD_tup.mpr fun d m => ?_⟩
  · rcases List.mem_cons.mp m with rfl | m
    · exact o3 1 (by omega)
    · cases List.mem_singleton.mp m
      exact o3 2 (by omega)
  · rcases List.mem_cons.mp m with rfl | m
    · exact p3 1 (by omega)
    · cases List.mem_singleton.mp m
      exact p3 2 (by omega)
theorem Tst.Ok.setRol {s : Tst} (h : s.Ok) {rs : PyData} (ok : okD 13 rs = true) (pu : purD rs = true) : ({ s with rol := rs } : Tst).Ok := ⟨h.ch, h.st, h.sh, h.ok, h.cx, h.sx, h.tx, ⟨ok, pu⟩, h.ls⟩
theorem Trs.setRol {C o dd ds dl off dx : Addr} {s : Tst} {H : Hp} {rv u : V} {rs : PyData} (T : Trs C o dd ds dl off s H) (ho : H o = some (.ins C dx [("_office", .ref off), ("_documents", .ref dd), ("_sealed", .ref ds), ("_roles", rv), ("_lists", .ref dl)])) (R : Rq H u rs) (ok : okD 13 rs = true) (pu : purD rs = true) :
    Trs C o dd ds dl off { s with rol := rs } (upd H o (.ins C dx [("_office", .ref off), ("_documents", .ref dd), ("_sealed", .ref ds), ("_roles", u), ("_lists", .ref dl)])) := by
  have k : Kp [o] H (upd H o (.ins C dx [("_office", .ref off), ("_documents", .ref dd), ("_sealed", .ref ds), ("_roles", u), ("_lists", .ref dl)])) := Kp.insT ho (List.mem_singleton.mpr rfl)
  obtain ⟨k1, e1, r1⟩ := T.d1
  obtain ⟨k3, e3, r3⟩ := T.d3
  have n1 : dd ≠ o := ne_of e1 ho (by intro z; cases z)
  have n2 : ds ≠ o := ne_of T.d2 ho (by intro z; cases z)
  have n3 : dl ≠ o := ne_of e3 ho (by intro z; cases z)
  exact ⟨⟨dx, u, upd_same, R.pure k pu⟩, ⟨k1, by rw [upd_ne n1]; exact e1, r1.kp k fun p m => (T.ok.ok p m).2⟩, by rw [upd_ne n2]; exact T.d2, ⟨k3, by rw [upd_ne n3]; exact e3, r3.kp k fun p m => (T.ok.ls p m).2.1⟩, T.n1, T.n2, T.n3, T.ok.setRol ok pu⟩
theorem usb_str {s : Tst} {v : V} (h : usb s v = none) : ∃ y, v = .str y := by
  cases v with
  | str y => exact ⟨y, rfl⟩
  | _ => cases h
theorem keep_tabs {C o dd ds dl off : Addr} {s : Tst} {H H' : Hp} {Ts : List Addr} (T : Trs C o dd ds dl off s H) (g : Tabs Ts H) (k : Kp [dd, ds] H H') : Tabs Ts H' := by
  obtain ⟨_, ed, _⟩ := T.d1
  exact g.kp k fun P mP mo => by
    simp only [List.mem_cons, List.not_mem_nil, or_false] at mo
    rcases mo with rfl | rfl
    · exact absurd mP (g.ne ed)
    · exact absurd mP (g.ne T.d2)
theorem keep_kp {o dd ds dl : Addr} {Ts : List Addr} {H H1 H2 : Hp} (k1 : Kp Ts H H1) (k2 : Kp [dd, ds] H1 H2) : Kp (o :: dd :: ds :: dl :: Ts) H H2 :=
  (k1.mono fun b m => List.mem_cons_of_mem _ (List.mem_cons_of_mem _ (List.mem_cons_of_mem _ (List.mem_cons_of_mem _ m)))).trans (k2.mono (ds_in _ _ _ _ _))
/-- how a call on a set ends -/
def spRes (C CR : Addr) (Ts : List Addr) (o dd ds dl off : Addr) (s : Tst) (H : Hp) (Q : VK) (E : XK) : Except Str (PyData × Tst) → Prop
  | .ok (d, s') => ∀ (u : V) (dl' : Addr) (H' : Hp), Kp (o :: dd :: ds :: dl :: Ts) H H' → Tabs Ts H' → (dl' = dl ∨ H dl' = none) → Trs C o dd ds dl' off s' H' → Rq H' u d → Q u H'
  | .error z => ∀ (e : Addr) (H' : Hp), Kp Ts H H' → Tabs Ts H' → H e = none → H' e = some (xdR z) → E (.ref CR) (some e) H'
def spAcc (f : List (Str × Str) → Tst → V → Except Str (PyData × Tst)) (C CO CR : Addr) (Ts : List Addr) : Sp := fun vs H Q E => ∃ (o dd ds dl off dm : Addr) (s : Tst) (made : List (Str × Str)) (v : V), vs = [.ref o, v] ∧ Trs C o dd ds dl off s H ∧ s.Sm ∧ Ofc CO off dm made H ∧ (∃ t, tyN H v = some t) ∧ (∀ z, v = .str z → z.length ≤ 10000000) ∧ Tabs Ts H ∧ spRes C CR Ts o dd ds dl off s H Q E (f made s v)
theorem Kp.dKT {S : List Addr} {H : Hp} {p : Addr} {fs gs : List (Key × V)} (h : H p = some (.dK fs)) (m : p ∈ S) : Kp S H (L2.upd H p (.dK gs)) :=
  ⟨fun b u n q => by rw [upd_ne (fun z => n (by rw [z]; exact m))]; exact q, fun b xs q => by rw [upd_ne (ne_of q h (by intro z; cases z))]; exact q⟩
def spKeep (C : Addr) : Sp := fun vs H Q _ => ∃ (o dd ds dl off : Addr) (s : Tst) (k x : Str) (v : V) (d : PyData), vs = [.ref o, .str k, v, .str x] ∧ Trs C o dd ds dl off s H ∧ s.Sm ∧ Rq H v d ∧ (s.keep k d x).Ok ∧ ∀ H', Kp [dd, ds] H H' → Trs C o dd ds dl off (s.keep k d x) H' → Q v H'
def spUse (C CR : Addr) (Ts : List Addr) : Sp := fun vs H Q E => ∃ (o dd ds dl off : Addr) (s : Tst) (v : V), vs = [.ref o, v] ∧ Trs C o dd ds dl off s H ∧ (∃ t, tyN H v = some t) ∧ Tabs Ts H ∧
  (usb s v = none → ∀ H', Kp [] H H' → Q .non H') ∧ (∀ z, usb s v = some z → ∀ (e : Addr) (H' : Hp), Kp Ts H H' → Tabs Ts H' → H e = none → H' e = some (xdR z) → E (.ref CR) (some e) H')
def spSteps : Sp := fun vs H Q _ => ∃ (u v : V) (b d : PyData), vs = [u, v] ∧ Rq H u b ∧ Rq H v d ∧ isStamp b = true ∧ isStamp d = true ∧ okD 12 b = true ∧ okD 12 d = true ∧ Q (.bl (stepsB b d)) H
def spSum (CR : Addr) : Sp := fun vs H Q E => ∃ (x : Str) (ev : V) (en : PyData), vs = [.str x, ev] ∧ Rq H ev en ∧ isEntry en = true ∧ x.length ≤ 10000000 ∧
  (sumB x en = none → Q .non H) ∧ (∀ z, sumB x en = some z → ∀ (e : Addr) (H' : Hp), Kp [] H H' → H e = none → H' e = some (xdR z) → E (.ref CR) (some e) H')
def spRst (C CR : Addr) (Ts : List Addr) : Sp := fun vs H Q E => ∃ (o dd ds dl off : Addr) (s : Tst) (v ru : V) (rs : PyData), vs = [.ref o, v, ru] ∧ Trs C o dd ds dl off s H ∧ s.Sm ∧ (∃ t, tyN H v = some t) ∧ (∀ z, v = .str z → z.length ≤ 10000000) ∧ Rq H ru rs ∧ okD 13 rs = true ∧ purD rs = true ∧ Tabs Ts H ∧ spRes C CR Ts o dd ds dl off s H Q E (resSt s v rs)
def spRsh (C CR : Addr) (Ts : List Addr) : Sp := fun vs H Q E => ∃ (o dd ds dl off : Addr) (s : Tst) (v : V), vs = [.ref o, v] ∧ Trs C o dd ds dl off s H ∧ s.Sm ∧ (∃ t, tyN H v = some t) ∧ (∀ z, v = .str z → z.length ≤ 10000000) ∧ Tabs Ts H ∧ spRes C CR Ts o dd ds dl off s H Q E (resSh s v)
section
variable {P : Program} {w : World} {K : PySem.W.Frag} {mg : Str → Option Value} {base : Heap} {f : Addr} {fd : FuncData} {C CO CB CD CR R : Addr} {Ts : List Addr}
theorem ok_tkeep (F : Fun K "_keep" "Trusted._keep" s_Trusted__keep f fd) (B : Blt mg) (T : TrC K C) : FnOk P w K mg base CX0 1 f fd ["self", "kind", "document", "sealed"] (spKeep C) := by
  refine F.ok sc_Trusted__keep (fun vs H Q E h => ?_) (fun cdv A outer s H vs Q E hr h => ?_)
  · obtain ⟨o, dd, ds, dl, off, st, k, x, v, d, rfl, _⟩ := h; rfl
  obtain ⟨o, dd, ds, dl, off, st, k, x, v, d, rfl, hT, hm, hv, ok, q⟩ := h
  refine ⟨_, (pss_cons (ps_dput (hu_of hr) (pe_fld (pv 0) rfl) (pv 1) (pv 2) rfl)
    (pss_cons (ps_dput (hu_of hr) (pe_fld (pv 0) rfl) (pv 1) (pv 3) rfl)
    (pss_one (ps_ret (pv 2))))), ?_⟩
  obtain ⟨dx, rv, ho, hrv⟩ := hT.ob
  obtain ⟨kvs, e1, r1⟩ := hT.d1
  walk_at "wq"
  have lim : sizeLine = 16777216 := sizeLine_eq
  have no1 : o ≠ dd := ne_of ho e1 (by intro z; cases z)
  have no2 : o ≠ ds := ne_of ho hT.d2 (by intro z; cases z)
  obtain ⟨kv3, e3, r3⟩ := hT.d3
  have l1 : kvs.length < sizeLine := by rw [r1.len]; have := hm.a; omega
  have l2 : (txK st.txs).length < sizeLine := by rw [txK_len]; have := hm.b; omega
  have es : upd H dd (.dK (putK kvs (Sum.inr k) v)) ds = some (.dK (txK st.txs)) := by rw [upd_ne hT.n1.symm]; exact hT.d2
  have k1 : Kp [dd, ds] H (upd H dd (.dK (putK kvs (Sum.inr k) v))) := Kp.dKT e1 List.mem_cons_self
  have k2 : Kp [dd, ds] _ (upd (upd H dd (.dK (putK kvs (Sum.inr k) v))) ds (.dK (putK (txK st.txs) (Sum.inr k) (.str x)))) := k1.trans (Kp.dKT es (List.mem_cons_of_mem _ List.mem_cons_self))
  refine ⟨C, dx, _, ho, T.cl, T.n2, _, rfl, dd, rfl, _, DPut.k (k := Sum.inr k) e1 l1, C, dx, _, by rw [upd_ne no1]; exact ho, T.cl, T.n3, _, rfl, ds, rfl, _, DPut.k (k := Sum.inr k) es l2, q _ k2 ?_⟩
  have pu : ∀ p ∈ st.docs, purD p.2 = true := fun p m => (hT.ok.ok p m).2
  have pd : purD d = true := (ok.ok (k, d) (getA_mem (by show getA (putA st.docs k d) k = some d; rw [getA_put, if_pos rfl]))).2
  refine ⟨⟨dx, rv, by rw [upd_ne no2, upd_ne no1]; exact ho, hrv.pure k2 hT.ok.rol.2⟩, ⟨_, by rw [upd_ne hT.n1, upd_same], KvD.put (hv.pure k2 pd) (r1.kp k2 pu)⟩, by rw [upd_same, txK_put]; rfl, ⟨kv3, by rw [upd_ne hT.n3.symm, upd_ne hT.n2.symm]; exact e3, r3.kp k2 fun p m => (hT.ok.ls p m).2.1⟩, hT.n1, hT.n2, hT.n3, ok⟩
theorem ok_tuse (F : Fun K "_require_usable" "Trusted._require_usable" s_Trusted__require_usable f fd) (B : Blt mg) (T : EsC P w K mg base CB CD CR) (m_Trusted_outdated : CalM P w K mg base CX0 3 C "outdated" (spTOut C)) :
    FnOk P w K mg base (CXG P w) 4 f fd ["self", "sealed"] (spUse C CR Ts) := by
  refine F.okG sc_Trusted__require_usable (fun vs H Q E h => ?_) (fun cdv A outer s H vs Q E hr h => ?_)
  · obtain ⟨o, dd, ds, dl, off, st, v, rfl, _⟩ := h; rfl
  obtain ⟨o, dd, ds, dl, off, st, v, rfl, hT, hty, hG, q, qe⟩ := h
  refine ⟨_, (pss_cons (ps_if (pt_not (pt_val (B.isT (pv 1) B.v_str))) (pss_one (T.Refused.raiseG hr (takesG_of rfl rfl rfl rfl))) pss_nil)
    (pss_one (ps_if (pt_val (m_Trusted_outdated.pe0 hr (pv 0))) (pss_one (T.Refused.raiseG hr (takesG_of rfl rfl rfl rfl))) pss_nil))), ?_⟩
  obtain ⟨dx, rv, ho, hrv⟩ := hT.ob
  walk_at "wq"
  obtain ⟨t, ht⟩ := hty
  refine ⟨t, ht, ite_dec (fun c => ?_) fun c => ?_⟩
  · have hv : usb st v = some (Str.ofString "form") := by
      cases v with
      | str z => cases ht; cases c
      | _ => rfl
    exact fun e G he hx k => qe _ hv e G k.in0 (hG.kp0 k) he hx
  · obtain ⟨z, rfl⟩ := isa_str ht (by simpa using c)
    refine ⟨dx, _, ho, rfl, o, dd, ds, dl, off, st, rfl, hT, fun H1 k1 => ⟨_, rfl, ite_dec (fun c => ?_) fun c => ?_⟩⟩
    · have hv : usb st (.str z) = some (Str.ofString "role") := if_pos c
      exact fun e G he hx k => qe _ hv e G (k1.trans k).in0 (hG.kp0 (k1.trans k)) (k1.gone1 (fun b m => absurd m List.not_mem_nil) he) hx
    · exact q (if_neg c) H1 k1
theorem ok_tacc (F : Fun K "accept_charter" "Trusted.accept_charter" s_Trusted_accept_charter f fd) (B : Blt mg) (TC : TrC K C) (T : EsC P w K mg base CB CD CR) (c_document_in : Cal P w K mg base (CXG P w) 25 "_document_in" (spDocIn CR Ts)) (c_require_signed : Cal P w K mg base (CXG P w) 26 "_require_signed" (spSgn CO CR Ts)) (c_role_of : Cal P w K mg base CX0 1 "role_of" spRoleOf)
    (m_Trusted_charter : CalM P w K mg base CX0 1 C "charter" (spTDoc C kC)) (m_Trusted_keep : CalM P w K mg base CX0 1 C "_keep" (spKeep C)) :
    FnOk P w K mg base (CXG P w) 27 f fd ["self", "sealed"] (spAcc accCh C CO CR Ts) := by
  refine F.okG sc_Trusted_accept_charter (fun vs H Q E h => ?_) (fun cdv A outer s H vs Q E hr h => ?_)
  · obtain ⟨o, dd, ds, dl, off, dm, st, made, v, rfl, _⟩ := h; rfl
  obtain ⟨o, dd, ds, dl, off, dm, st, made, v, rfl, hT, hm, hO, hty, hz, hG, res⟩ := h
  refine ⟨_, (pss_cons (ps_set (i := 2) sc_Trusted_accept_charter.nd rfl (Or.inl rfl) (c_document_in.pex hr (passG (takesG_of rfl rfl rfl rfl) fun _ _ _ _ h => h) (pa_cons pe_str (pa_cons (pv 1) pa_nil))))
    (pss_cons (ps_set (i := 3) sc_Trusted_accept_charter.nd rfl (Or.inl rfl) (m_Trusted_charter.pe0 hr (pv 0)))
    (pss_cons (ps_if (pt_cmpR op_ne (pe_ix ix_tM (pv 2) pe_int (fun _ _ => rfl)) (pe_op op_add (pe_ix ix_tM (pv 3) pe_int (fun _ _ => rfl)) pe_int) (nomark _)) (pss_one (T.Refused.raiseG hr (takesG_of rfl rfl rfl rfl))) pss_nil)
    (pss_cons (ps_expr (c_require_signed.pex hr (passG (takesG_of rfl rfl rfl rfl) fun _ _ _ _ h => h) (pa_cons (pe_fld (pv 0) rfl) (pa_cons (pv 1) (pa_cons (c_role_of.pe hr (pa_cons (pv 3) (pa_cons pe_str pa_nil))) pa_nil)))))
    (pss_cons (ps_expr (c_require_signed.pex hr (passG (takesG_of rfl rfl rfl rfl) fun _ _ _ _ h => h) (pa_cons (pe_fld (pv 0) rfl) (pa_cons (pv 1) (pa_cons (c_role_of.pe hr (pa_cons (pv 2) (pa_cons pe_str pa_nil))) pa_nil)))))
    (pss_one (ps_ret (m_Trusted_keep.pe hr (pv 0) (pa_cons pe_str (pa_cons (pv 2) (pa_cons (pv 1) pa_nil))))))))))), ?_⟩
  obtain ⟨dx, rv, ho, hrv⟩ := hT.ob
  walk_at "wq"
  refine ⟨kC, v, rfl, hty, hz, hG, fun x d e D u H1 k1 g1 R1 od => ?_, fun no e H1 k1 g1 he hx => ?_⟩
  rotate_left
  · have ev : accCh made st v = rsn "form" := by unfold accCh; rw [docV_noneOf no]
    rw [ev] at res
    exact res e H1 k1 g1 he hx
  subst e
  have dv := docV_of D
  obtain ⟨ik, od, pd, lx⟩ := D.ok
  rw [isK_C] at ik
  have ich := hT.ok.ch.2
  have hO1 := hO.tabs k1 hG
  have hT1 := hT.tabs k1 hG
  obtain ⟨dx1, rv1, ho1, _⟩ := hT1.ob
  refine ⟨dx1, _, ho1, rfl, o, dd, ds, dl, off, st, rfl, hT1, fun w hw => ?_⟩
  rw [hT.ok.ch.1] at hw
  have hw : Rq H1 w st.ch := hw
  obtain ⟨p, xs, rfl, ep, _, _, y, hy, ry⟩ := R1.part (ch_tup ik) (i := 1) (by omega)
  obtain ⟨p', xs', rfl, ep', _, _, y', hy', ry'⟩ := hw.part (ch_tup ich) (i := 1) (by omega)
  cases num_rq ry (ch_num ik)
  cases num_rq ry' (ch_num ich)
  refine ⟨p, rfl, xs, ep, _, hy, p', rfl, xs', ep', _, hy', _, rfl, rfl, ite_dec (fun c => ?_) fun c => ?_⟩
  · have c : verD d ≠ verD st.ch + 1 := fun e => c (congrArg V.int e)
    have ev : accCh made st (.str x) = rsn "version" := by unfold accCh; rw [dv]; exact if_pos c
    rw [ev] at res
    exact fun e G he hx k => res e G (k1.trans k.in0) (g1.kp0 k) (k1.gone g1 he) hx
  have c : ¬ verD d ≠ verD st.ch + 1 := fun e => c fun z => e (V.int.inj z)
  have ev : accCh made st (.str x) = if sgnF made x (rlD st.ch 0) = false then rsn "seals" else if sgnF made x (rlD d 0) = false then rsn "seals" else .ok (d, st.keep kC d x) := by
    unfold accCh; rw [dv]; exact if_neg c
  rw [ev] at res
  refine ⟨C, dx1, _, ho1, TC.cl, TC.n1, _, rfl, _, st.ch, kC, 0, rfl, hw, ich, rfl, fun r2 hr2 => sgn_use hO1 D hr2 (ch_role ich (by omega)) g1 (fun yes H2 k2 g2 => ?_) (fun no e H2 k2 g2 he hx => ?_)⟩
  rotate_left
  · rw [if_pos no] at res
    exact res e H2 (k1.trans k2) g2 (k1.gone g1 he) hx
  rw [if_neg (by rw [yes]; decide)] at res
  have hT2 := hT1.tabs k2 g1
  have hO2 := hO1.tabs k2 g1
  obtain ⟨dx2, rv2, ho2, _⟩ := hT2.ob
  have R2 := R1.pure k2 pd
  refine ⟨C, dx2, _, ho2, TC.cl, TC.n1, _, rfl, _, d, kC, 0, rfl, R2, ik, rfl, fun r3 hr3 => sgn_use hO2 D hr3 (ch_role ik (by omega)) g2 (fun yes H3 k3 g3 => ?_) (fun no e H3 k3 g3 he hx => ?_)⟩
  rotate_left
  · rw [if_pos no] at res
    exact res e H3 ((k1.trans k2).trans k3) g3 (k1.gone g1 (k2.gone g2 he)) hx
  rw [if_neg (by rw [yes]; decide)] at res
  have hT3 := hT2.tabs k3 g2
  obtain ⟨dx3, rv3, ho3, _⟩ := hT3.ob
  have R3 := R2.pure k3 pd
  refine ⟨dx3, _, ho3, rfl, o, dd, ds, dl, off, st, kC, x, _, d, rfl, hT3, hm, R3, hT.ok.keep D (.inl rfl), fun H4 k4 T4 => ?_⟩
  exact res _ dl H4 (keep_kp ((k1.trans k2).trans k3) k4) (keep_tabs hT3 g3 k4) (.inl rfl) T4 (R3.pure k4 pd)
theorem ok_tsteps (F : Fun K "_steps_back" "_steps_back" s_steps_back f fd) (B : Blt mg) : FnOk P w K mg base CX0 1 f fd ["before", "stamp"] spSteps := by
  refine F.ok sc_steps_back (fun vs H Q E h => ?_) (fun cdv A outer s H vs Q E hr h => ?_)
  · obtain ⟨u, v, b, d, rfl, _⟩ := h; rfl
  obtain ⟨u, v, b, d, rfl, hb, hd, ib, id, ob, od, q⟩ := h
  refine ⟨_, (pss_cons (ps_if (PW.pt (pw_or (pt_cmpR op_lt (pe_ix ix_tM (pv 1) pe_int (fun _ _ => rfl)) (pe_ix ix_tM (pv 0) pe_int (fun _ _ => rfl)) (nomark _)) (pw_or1 (pt_cmpR op_lt (pe_ix ix_tM (pe_ix ix_tM (pv 1) pe_int (fun _ _ => rfl)) pe_int (fun _ _ => rfl)) (pe_ix ix_tM (pe_ix ix_tM (pv 0) pe_int (fun _ _ => rfl)) pe_int (fun _ _ => rfl)) (nomark _))))) (pss_one (ps_ret pe_bl)) pss_nil)
    (pss_one (ps_ret (pe_and (pe_cmpR op_eq (pe_ix ix_tM (pv 1) pe_int (fun _ _ => rfl)) (pe_ix ix_tM (pv 0) pe_int (fun _ _ => rfl)) (nomark _)) (pe_one (pe_cmpR (op_neD hr.units) (pv 1) (pv 0) (nomark _))))))), ?_⟩
  walk_at "wq"
  obtain ⟨p, xs, rfl, ep, _, _, y1, hy1, ry1⟩ := hd.part (st_tup id) (i := 1) (by omega)
  obtain ⟨p2, xs2, e2, ep2, _, _, y3, hy3, ry3⟩ := hd.part (st_tup id) (i := 3) (by omega)
  cases e2
  rw [ep] at ep2
  cases ep2
  obtain ⟨b, zs, rfl, eb, _, _, w1, hw1, rw1⟩ := hb.part (st_tup ib) (i := 1) (by omega)
  obtain ⟨b2, zs2, e2, eb2, _, _, w3, hw3, rw3⟩ := hb.part (st_tup ib) (i := 3) (by omega)
  cases e2
  rw [eb] at eb2
  cases eb2
  obtain ⟨t1, n1, _, _⟩ := en_all (st_ent id)
  obtain ⟨t2, n2, _, _⟩ := en_all (st_ent ib)
  obtain ⟨q1, us, rfl, eq1, _, _, a0, ha0, ra0⟩ := ry3.part t1 (i := 0) (by omega)
  obtain ⟨q2, us2, rfl, eq2, _, _, c0, hc0, rc0⟩ := rw3.part t2 (i := 0) (by omega)
  cases num_rq ry1 (st_num id)
  cases num_rq rw1 (st_num ib)
  cases num_rq ra0 n1
  cases num_rq rc0 n2
  unfold stepsB at q
  refine ⟨p, rfl, xs, ep, _, hy1, b, rfl, zs, eb, _, hw1, _, rfl, _, rfl, ite_dec (fun c => ?_) fun c => ?_⟩
  · have c : verD d < verD _ := c
    rw [decide_eq_true c] at q
    exact q
  have c : ¬ verD d < verD _ := c
  rw [decide_eq_false c] at q
  refine ⟨p, rfl, xs, ep, _, hy3, q1, rfl, us, eq1, _, ha0, b, rfl, zs, eb, _, hw3, q2, rfl, us2, eq2, _, hc0, ?_⟩
  refine ⟨_, rfl, _, rfl, ite_dec (fun c => ?_) fun c => ?_⟩
  · have c : verE d < verE _ := c
    rw [decide_eq_true c] at q
    exact q
  have c : ¬ verE d < verE _ := c
  rw [decide_eq_false c] at q
  refine ⟨p, rfl, xs, ep, _, hy1, b, rfl, zs, eb, _, hw1, rfl, ite_dec (fun c => ?_) fun c => ?_⟩
  · have c : verD d = verD _ := V.int.inj c
    rw [decide_eq_true c] at q
    exact ⟨_, _, hd.dp, hb.dp, ok_shaped od (by decide), ok_shaped ob (by decide), q⟩
  · have c : ¬ verD d = verD _ := fun e => c (congrArg V.int e)
    rw [decide_eq_false c] at q
    exact q
theorem ok_tsum (F : Fun K "_require_sum" "_require_sum" s_require_sum f fd) (B : Blt mg) (T : EsC P w K mg base CB CD CR) (c_digest : Cal P w K mg base CX0 1 "digest" spDigest) : FnOk P w K mg base (CXG P w) 3 f fd ["sealed", "entry"] (spSum CR) := by
  refine F.okG sc_require_sum (fun vs H Q E h => ?_) (fun cdv A outer s H vs Q E hr h => ?_)
  · obtain ⟨x, ev, en, rfl, _⟩ := h; rfl
  obtain ⟨x, ev, en, rfl, hR, ie, lx, q, qe⟩ := h
  refine ⟨_, (pss_cons (ps_asg (pv 1) (pg_tup rfl (pgs_cons (pg_name (i := 2) sc_require_sum.nd rfl (Or.inl rfl)) (pgs_cons (pg_name (i := 3) sc_require_sum.nd rfl (Or.inl rfl)) (pgs_cons (pg_name (i := 4) sc_require_sum.nd rfl (Or.inl rfl)) pgs_nil)))))
    (pss_cons (ps_if (pt_cmpR op_ne (B.len_s (pa_cons (pv 0) pa_nil)) (pv 3) (nomark _)) (pss_one (T.Refused.raiseG hr (takesG_of rfl rfl rfl rfl))) pss_nil)
    (pss_one (ps_if (pt_cmpR op_ne (c_digest.pe hr (pa_cons (pv 0) pa_nil)) (pv 4) (nomark _)) (pss_one (T.Refused.raiseG hr (takesG_of rfl rfl rfl rfl))) pss_nil)))), ?_⟩
  walk_at "wq"
  obtain ⟨t, n0, n1, dg⟩ := en_all ie
  obtain ⟨p, xs, rfl, ep, lx2, rx, k0, hk0, Rk0⟩ := hR.part t (i := 0) (by omega)
  have l3 : (itD en).length = 3 := by have := tupB_len t; omega
  generalize ed : itD en = dsn at rx l3 lx2
  match dsn, l3, rx with
  | [d0, d1, d2], _, .cons (v := x0) R0 (.cons (v := x1) R1 (.cons (v := x2) R2 .nil)) =>
  have e1 : ixD en 1 = d1 := by unfold ixD; rw [ed]; rfl
  have e2 : ixD en 2 = d2 := by unfold ixD; rw [ed]; rfl
  rw [e1] at n1
  rw [e2] at dg
  cases num_rq R1 n1
  cases dig_rq R2 dg
  unfold sumB at q qe
  rw [e1, e2] at q qe
  refine ⟨_, _, rfl, SqT.of ep, rfl, _, _, rfl, _, _, rfl, _, _, rfl, rfl, ?_⟩
  walk_at "wq"
  have lim : sizeLine = 16777216 := sizeLine_eq
  refine ⟨by omega, ite_dec (fun c => ?_) fun c => ?_⟩
  · exact fun e G he hx k => qe (Str.ofString "length") (if_pos c) e G k he hx
  refine ⟨x, rfl, by omega, rfl, ite_dec (fun c2 => ?_) fun c2 => ?_⟩
  · exact fun e G he hx k => qe (Str.ofString "digest") (by rw [if_neg c, if_pos fun e => c2 (congrArg V.str e)]) e G k he hx
  · exact q (by rw [if_neg c, if_neg fun e => c2 fun z => e (V.str.inj z)])
theorem ok_tast (F : Fun K "accept_stamp" "Trusted.accept_stamp" s_Trusted_accept_stamp f fd) (B : Blt mg) (TC : TrC K C) (T : EsC P w K mg base CB CD CR) (c_document_in : Cal P w K mg base (CXG P w) 25 "_document_in" (spDocIn CR Ts)) (c_require_signed : Cal P w K mg base (CXG P w) 26 "_require_signed" (spSgn CO CR Ts)) (c_role_of : Cal P w K mg base CX0 1 "role_of" spRoleOf) (c_steps_back : Cal P w K mg base CX0 1 "_steps_back" spSteps)
    (m_Trusted_charter : CalM P w K mg base CX0 1 C "charter" (spTDoc C kC)) (m_Trusted_stamp : CalM P w K mg base CX0 1 C "stamp" (spTDoc C kT)) (m_Trusted_present_roles : CalM P w K mg base CX0 2 C "_present_roles" (spTPres C)) (m_Trusted_require_usable : CalM P w K mg base (CXG P w) 4 C "_require_usable" (spUse C CR Ts)) (m_Trusted_keep : CalM P w K mg base CX0 1 C "_keep" (spKeep C)) :
    FnOk P w K mg base (CXG P w) 27 f fd ["self", "sealed"] (spAcc accSt C CO CR Ts) := by
  refine F.okG sc_Trusted_accept_stamp (fun vs H Q E h => ?_) (fun cdv A outer s H vs Q E hr h => ?_)
  · obtain ⟨o, dd, ds, dl, off, dm, st, made, v, rfl, _⟩ := h; rfl
  obtain ⟨o, dd, ds, dl, off, dm, st, made, v, rfl, hT, hm, hO, hty, hz, hG, res⟩ := h
  refine ⟨_, (pss_cons (ps_expr (m_Trusted_require_usable.pex hr (passG (takesG_of rfl rfl rfl rfl) fun _ _ _ _ h => h) (pv 0) (pa_cons (pv 1) pa_nil)))
    (pss_cons (ps_set (i := 2) sc_Trusted_accept_stamp.nd rfl (Or.inl rfl) (c_document_in.pex hr (passG (takesG_of rfl rfl rfl rfl) fun _ _ _ _ h => h) (pa_cons pe_str (pa_cons (pv 1) pa_nil))))
    (pss_cons (ps_expr (c_require_signed.pex hr (passG (takesG_of rfl rfl rfl rfl) fun _ _ _ _ h => h) (pa_cons (pe_fld (pv 0) rfl) (pa_cons (pv 1) (pa_cons (c_role_of.pe hr (pa_cons (m_Trusted_charter.pe0 hr (pv 0)) (pa_cons pe_str pa_nil))) pa_nil)))))
    (C8.pss_cut (ps_if (PW.pt (pw_and (pt_cmpR op_notN (m_Trusted_stamp.pe0 hr (pv 0)) pe_non (nomark _)) (pw_and1 (pt_val (c_steps_back.pe hr (pa_cons (m_Trusted_stamp.pe0 hr (pv 0)) (pa_cons (pv 2) pa_nil))))))) (pss_one (T.Refused.raiseG hr (takesG_of rfl rfl rfl rfl))) pss_nil)
    (pss_cons (ps_fld (pv 0) (m_Trusted_present_roles.pe0 hr (pv 0)) rfl)
    (pss_one (ps_ret (m_Trusted_keep.pe hr (pv 0) (pa_cons pe_str (pa_cons (pv 2) (pa_cons (pv 1) pa_nil))))))))))), ?_⟩
  obtain ⟨dx, rv, ho, hrv⟩ := hT.ob
  walk_at "wq"
  refine ⟨dx, _, ho, rfl, o, dd, ds, dl, off, st, v, rfl, hT, hty, hG, fun us H1 k1 => ?_, fun z us e H1 k1 g1 he hx => ?_⟩
  rotate_left
  · have ev : accSt made st v = .error z := by unfold accSt; rw [us]
    rw [ev] at res
    exact res e H1 k1 g1 he hx
  obtain ⟨y, rfl⟩ := usb_str us
  have g1 := hG.kp0 k1
  have gone1 : ∀ {e : Addr}, H1 e = none → H e = none := fun h => k1.gone1 (fun b m => absurd m List.not_mem_nil) h
  refine ⟨kT, .str y, rfl, ⟨_, rfl⟩, hz, g1, fun x d e D u H2 k2 g2 R2 od => ?_, fun no e H2 k2 g2 he hx => ?_⟩
  rotate_left
  · have ev : accSt made st (.str y) = rsn "form" := by unfold accSt; rw [us, docV_noneOf no]
    rw [ev] at res
    exact res e H2 (k1.in0.trans k2) g2 (gone1 he) hx
  cases e
  have dv := docV_of D
  obtain ⟨ik, od, pd, lx⟩ := D.ok
  rw [isK_T] at ik
  have ich := hT.ok.ch.2
  have K2 : Kp Ts H H2 := k1.in0.trans k2
  have hT2 := hT.tabs K2 hG
  have hO2 := hO.tabs K2 hG
  obtain ⟨dx2, rv2, ho2, _⟩ := hT2.ob
  refine ⟨C, dx2, _, ho2, TC.cl, TC.n1, _, rfl, dx2, _, ho2, rfl, o, dd, ds, dl, off, st, rfl, hT2, fun w hw => ?_⟩
  rw [hT.ok.ch.1] at hw
  have hw : Rq H2 w st.ch := hw
  refine ⟨w, st.ch, kT, 1, rfl, hw, ich, rfl, fun r2 hr2 => sgn_use hO2 D hr2 (ch_role ich (by omega)) g2 (fun yes H3 k3 g3 => ?_) (fun no e H3 k3 g3 he hx => ?_)⟩
  rotate_left
  · have ev : accSt made st (.str y) = rsn "seals" := by unfold accSt; rw [us, dv]; exact if_pos no
    rw [ev] at res
    exact res e H3 (K2.trans k3) g3 (gone1 (k2.gone g2 he)) hx
  have ev : accSt made st (.str y) = match getA st.docs kT with | some b => if stepsB b d = true then rsn "version" else .ok (d, { st with rol := st.pres }.keep kT d y) | none => .ok (d, { st with rol := st.pres }.keep kT d y) := by
    unfold accSt; rw [us, dv]; exact if_neg (by rw [yes]; decide)
  rw [ev] at res
  have K3 := K2.trans k3
  have hT3 := hT2.tabs k3 g2
  have R3 := R2.pure k3 pd
  obtain ⟨dx3, rv3, ho3, _⟩ := hT3.ob
  refine ⟨fun σ H' => σ = [some (.ref o), some (.str y), some u] ∧ H' = H3 ∧ spRes C CR Ts o dd ds dl off st H Q E (.ok (d, ({ st with rol := st.pres } : Tst).keep kT d y)), ?_, fun σ H' ⟨hσ, hH, res⟩ => ?_⟩
  · walk_at "wq"
    refine ⟨dx3, _, ho3, rfl, o, dd, ds, dl, off, st, rfl, hT3, fun b1 hb1 => ?_⟩
    cases gt : getA st.docs kT with
    | none =>
      rw [gt] at hb1 res
      cases hb1
      exact if_no (by simp) ⟨rfl, res⟩
    | some b =>
      rw [gt] at hb1 res
      have ib := hT.ok.st b gt
      obtain ⟨p, xs, rfl, _⟩ := hb1.part (st_tup ib) (i := 1) (by omega)
      refine if_yes (by simp) ⟨dx3, _, ho3, rfl, o, dd, ds, dl, off, st, rfl, hT3, fun b2 hb2 => ?_⟩
      rw [gt] at hb2
      refine ⟨b2, u, b, d, rfl, hb2, R3, ib, ik, (hT.ok.ok _ (getA_mem gt)).1, od, _, rfl, ite_dec (fun c => ?_) fun c => ?_⟩
      · have res : spRes C CR Ts o dd ds dl off st H Q E (if stepsB b d = true then rsn "version" else .ok (d, ({ st with rol := st.pres } : Tst).keep kT d y)) := res
        rw [if_pos c] at res
        exact fun e G he hx k => res e G (K3.trans k.in0) (g3.kp0 k) (gone1 (k2.gone g2 (k3.gone g3 he))) hx
      · have res : spRes C CR Ts o dd ds dl off st H Q E (if stepsB b d = true then rsn "version" else .ok (d, ({ st with rol := st.pres } : Tst).keep kT d y)) := res
        rw [if_neg c] at res
        exact ⟨rfl, res⟩
  subst hσ
  subst hH
  walk_at "wq"
  refine ⟨dx3, _, ho3, rfl, o, dd, ds, dl, off, st, rfl, hT3, fun pu H4 k4 hpu => ?_⟩
  have hT4 := hT3.kp0 k4
  obtain ⟨dx4, rv4, ho4, _⟩ := hT4.ob
  have po := pres_ok hT.ok
  have hT5 := hT4.setRol ho4 hpu po.1 po.2
  have k5 : Kp [o] H4 _ := Kp.insT (dy := dx4) (gs := [("_office", .ref off), ("_documents", .ref dd), ("_sealed", .ref ds), ("_roles", pu), ("_lists", .ref dl)]) ho4 (List.mem_singleton.mpr rfl)
  have R5 := (R3.kp0 k4).pure k5 pd
  refine ⟨C, dx4, _, ho4, TC.cl, TC.n4, by show 5 < 1000; decide, dx4, _, rfl, rfl, o, dd, ds, dl, off, _, kT, y, u, d, rfl, hT5, ⟨hm.a, hm.b, hm.c, hm.d⟩, R5, (hT.ok.setRol po.1 po.2).keep D (.inr (.inl rfl)), fun H6 k6 T6 => ?_⟩
  exact res u dl H6 (((K3.trans k4.in0).mono fun b m => List.mem_cons_of_mem _ (List.mem_cons_of_mem _ (List.mem_cons_of_mem _ (List.mem_cons_of_mem _ m)))).trans ((k5.mono fun b m => by rw [List.mem_singleton.mp m]; exact List.mem_cons_self).trans (k6.mono (ds_in _ _ _ _ _))))
    (keep_tabs hT5 ((g3.kp0 k4).kp k5 fun P mP mo => absurd mP (by rw [List.mem_singleton.mp mo]; exact (g3.kp0 k4).ne ho4)) k6) (.inl rfl) T6 (R5.pure k6 pd)
theorem ok_trst (F : Fun K "restore_stamp" "Trusted.restore_stamp" s_Trusted_restore_stamp f fd) (B : Blt mg) (TC : TrC K C) (c_document_in : Cal P w K mg base (CXG P w) 25 "_document_in" (spDocIn CR Ts)) (m_Trusted_keep : CalM P w K mg base CX0 1 C "_keep" (spKeep C)) :
    FnOk P w K mg base (CXG P w) 26 f fd ["self", "sealed", "roles"] (spRst C CR Ts) := by
  refine F.okG sc_Trusted_restore_stamp (fun vs H Q E h => ?_) (fun cdv A outer s H vs Q E hr h => ?_)
  · obtain ⟨o, dd, ds, dl, off, st, v, ru, rs, rfl, _⟩ := h; rfl
  obtain ⟨o, dd, ds, dl, off, st, v, ru, rs, rfl, hT, hm, hty, hz, hru, ors, prs, hG, res⟩ := h
  refine ⟨_, (pss_cons (ps_set (i := 3) sc_Trusted_restore_stamp.nd rfl (Or.inl rfl) (c_document_in.pex hr (passG (takesG_of rfl rfl rfl rfl) fun _ _ _ _ h => h) (pa_cons pe_str (pa_cons (pv 1) pa_nil))))
    (pss_cons (ps_fld (pv 0) (pv 2) rfl)
    (pss_one (ps_ret (m_Trusted_keep.pe hr (pv 0) (pa_cons pe_str (pa_cons (pv 3) (pa_cons (pv 1) pa_nil)))))))), ?_⟩
  obtain ⟨dx, rv, ho, hrv⟩ := hT.ob
  walk_at "wq"
  refine ⟨kT, v, rfl, hty, hz, hG, fun x d e D u H1 k1 g1 R1 od => ?_, fun no e H1 k1 g1 he hx => ?_⟩
  rotate_left
  · have ev : resSt st v rs = rsn "form" := by unfold resSt; rw [docV_noneOf no]
    rw [ev] at res
    exact res e H1 k1 g1 he hx
  subst e
  have dv := docV_of D
  obtain ⟨ik, od, pd, lx⟩ := D.ok
  have ev : resSt st (.str x) rs = .ok (d, ({ st with rol := rs } : Tst).keep kT d x) := by unfold resSt; rw [dv]
  rw [ev] at res
  have hT1 := hT.tabs k1 hG
  obtain ⟨dx4, rv4, ho4, _⟩ := hT1.ob
  have hT5 := hT1.setRol ho4 (hru.pure k1 prs) ors prs
  have k5 : Kp [o] H1 _ := Kp.insT (dy := dx4) (gs := [("_office", .ref off), ("_documents", .ref dd), ("_sealed", .ref ds), ("_roles", ru), ("_lists", .ref dl)]) ho4 (List.mem_singleton.mpr rfl)
  have R5 := R1.pure k5 pd
  refine ⟨C, dx4, _, ho4, TC.cl, TC.n4, by show 5 < 1000; decide, dx4, _, rfl, rfl, o, dd, ds, dl, off, _, kT, x, u, d, rfl, hT5, ⟨hm.a, hm.b, hm.c, hm.d⟩, R5, (hT.ok.setRol ors prs).keep D (.inr (.inl rfl)), fun H6 k6 T6 => ?_⟩
  exact res u dl H6 ((k1.mono fun b m => List.mem_cons_of_mem _ (List.mem_cons_of_mem _ (List.mem_cons_of_mem _ (List.mem_cons_of_mem _ m)))).trans ((k5.mono fun b m => by rw [List.mem_singleton.mp m]; exact List.mem_cons_self).trans (k6.mono (ds_in _ _ _ _ _))))
    (keep_tabs hT5 (g1.kp k5 fun P mP mo => absurd mP (by rw [List.mem_singleton.mp mo]; exact g1.ne ho4)) k6) (.inl rfl) T6 (R5.pure k6 pd)
theorem ok_trsh (F : Fun K "restore_shelf" "Trusted.restore_shelf" s_Trusted_restore_shelf f fd) (B : Blt mg) (TC : TrC K C) (T : EsC P w K mg base CB CD CR) (c_document_in : Cal P w K mg base (CXG P w) 25 "_document_in" (spDocIn CR Ts)) (m_Trusted_stamp : CalM P w K mg base CX0 1 C "stamp" (spTDoc C kT)) (m_Trusted_keep : CalM P w K mg base CX0 1 C "_keep" (spKeep C)) :
    FnOk P w K mg base (CXG P w) 26 f fd ["self", "sealed"] (spRsh C CR Ts) := by
  refine F.okG sc_Trusted_restore_shelf (fun vs H Q E h => ?_) (fun cdv A outer s H vs Q E hr h => ?_)
  · obtain ⟨o, dd, ds, dl, off, st, v, rfl, _⟩ := h; rfl
  obtain ⟨o, dd, ds, dl, off, st, v, rfl, hT, hm, hty, hz, hG, res⟩ := h
  refine ⟨_, (pss_cons (ps_if (pt_cmpR op_isN (m_Trusted_stamp.pe0 hr (pv 0)) pe_non (nomark _)) (pss_one (T.Refused.raiseG hr (takesG_of rfl rfl rfl rfl))) pss_nil)
    (pss_one (ps_ret (m_Trusted_keep.pe hr (pv 0) (pa_cons pe_str (pa_cons (c_document_in.pex hr (passG (takesG_of rfl rfl rfl rfl) fun _ _ _ _ h => h) (pa_cons pe_str (pa_cons (pv 1) pa_nil))) (pa_cons (pv 1) pa_nil))))))), ?_⟩
  obtain ⟨dx, rv, ho, hrv⟩ := hT.ob
  walk_at "wq"
  refine ⟨dx, _, ho, rfl, o, dd, ds, dl, off, st, rfl, hT, fun b1 hb1 => ?_⟩
  cases gt : getA st.docs kT with
  | none =>
    rw [gt] at hb1
    cases hb1
    have ev : resSh st v = rsn "missing" := by unfold resSh; rw [gt]
    rw [ev] at res
    exact if_yes rfl fun e G he hx k => res e G k.in0 (hG.kp0 k) he hx
  | some b =>
  rw [gt] at hb1
  have ib := hT.ok.st b gt
  obtain ⟨p, xs, rfl, _⟩ := hb1.part (st_tup ib) (i := 1) (by omega)
  refine if_no (by simp) ⟨dx, _, ho, rfl, kF, v, rfl, hty, hz, hG, fun x d e D u H1 k1 g1 R1 od => ?_, fun no e H1 k1 g1 he hx => ?_⟩
  rotate_left
  · have ev : resSh st v = rsn "form" := by unfold resSh; rw [gt, docV_noneOf no]
    rw [ev] at res
    exact res e H1 k1 g1 he hx
  subst e
  have dv := docV_of D
  obtain ⟨ik, od, pd, lx⟩ := D.ok
  have ev : resSh st (.str x) = .ok (d, st.keep kF d x) := by unfold resSh; rw [gt, dv]
  rw [ev] at res
  have hT1 := hT.tabs k1 hG
  exact ⟨o, dd, ds, dl, off, st, kF, x, u, d, rfl, hT1, hm, R1, hT.ok.keep D (.inr (.inr rfl)), fun H6 k6 T6 => res u dl H6 (keep_kp k1 k6) (keep_tabs hT1 g1 k6) (.inl rfl) T6 (R1.pure k6 pd)⟩
end
/-! the trusted set: shelves and lists -/
abbrev s_loses : Stmt := top 90
abbrev N_loses : List Str := ["before", "shelf", "name", "version", "_", "entry"]
theorem sc_loses : FnScope N_loses ["before", "shelf"] (defScope s_loses) := ⟨rfl, rfl, rfl, by decide +kernel, rfl, by decide +kernel, by decide +kernel⟩
abbrev s_Trusted_accept_list : Stmt := inClass (top 84) 4
abbrev N_Trusted_accept_list : List Str := ["self", "name", "sealed", "role", "entry", "document"]
theorem sc_Trusted_accept_list : FnScope N_Trusted_accept_list ["self", "name", "sealed", "role"] (defScope s_Trusted_accept_list) := ⟨rfl, rfl, rfl, by decide +kernel, rfl, by decide +kernel, by decide +kernel⟩
theorem ent_shape {z : Str} : ∀ {ds : List PyData}, (∀ d ∈ ds, isNE d = true) → rowD z ds = .none ∨ isEntry (rowD z ds) = true
  | [], _ => .inl rfl
  | d :: ds, h => by
    unfold rowD
    split
    · refine .inr ?_
      have hd := h d List.mem_cons_self
      unfold isNE at hd
      simp only [Bool.and_eq_true] at hd
      obtain ⟨h1, h2, h3⟩ := hd
      obtain ⟨a, b, c, e, rfl⟩ := tup4_d h1
      exact h3
    · exact ent_shape fun e m => h e (List.mem_cons_of_mem _ m)
theorem sh_rows {f : PyData} (h : isShelf f = true) : tupB 1 32 (ixD f 3) = true ∧ ∀ d ∈ itD (ixD f 3), isNE d = true := by
  unfold isShelf at h; simp only [Bool.and_eq_true] at h
  exact ⟨h.2.2.2.1, List.all_eq_true.mp h.2.2.2.2.1⟩
theorem ent_use {f : PyData} {u : V} {z : Str} {H : Hp} {Q : VK} {E : XK} (hf : isShelf f = true) (R : Rq H u f) (q : ∀ v H', Rq H' v (entD f z) → Kp [] H H' → Q v H') : spOf 3 [u, .str z] H Q E := by
  obtain ⟨p, us, rfl, ep, _, _, x, hx, rx⟩ := R.part (sh_tup hf) (i := 3) (by omega)
  obtain ⟨tr, ne⟩ := sh_rows hf
  obtain ⟨b, xs, ds, rfl, eb, e, r, _, _⟩ := tupB_of rx tr
  have eds : itD (ixD f 3) = ds := by rw [e]; rfl
  rw [eds] at ne
  exact ⟨p, b, us, xs, ds, z, rfl, ep, hx, eb, r, List.all_eq_true.mpr fun d m => (ne_row (ne d m)).1, fun v H' R' k => q v H' (by unfold entD; rw [eds]; exact R') k⟩
theorem ent_ok {z : Str} {m : Nat} : ∀ {ds : List PyData}, (∀ d ∈ ds, isNE d = true) → (∀ d ∈ ds, okD (m + 1) d = true ∧ purD d = true) → okD (m + 1) (rowD z ds) = true ∧ purD (rowD z ds) = true
  | [], _, _ => ⟨by simp [rowD, okD], rfl⟩
  | d :: ds, h, g => by
    unfold rowD
    split
    · have hd := h d List.mem_cons_self
      unfold isNE at hd
      simp only [Bool.and_eq_true] at hd
      obtain ⟨h1, h2, h3⟩ := hd
      obtain ⟨a, b, c, e, rfl⟩ := tup4_d h1
      obtain ⟨o, p⟩ := g _ List.mem_cons_self
      have o2 := (okD_tup.mp o).2
      have p2 := purD_tup.mp p
      have mem : ∀ x ∈ [b, c, e], x ∈ [a, b, c, e] := fun x m => List.mem_cons_of_mem _ m
      exact ⟨okD_tup.mpr ⟨by show 3 ≤ 200000; decide, fun x m => o2 x (mem x m)⟩, purD_tup.mpr fun x m => p2 x (mem x m)⟩
    · exact ent_ok (fun e m => h e (List.mem_cons_of_mem _ m)) fun e m => g e (List.mem_cons_of_mem _ m)
theorem entD_ok {f : PyData} {z : Str} (h : isShelf f = true) (o : okD 12 f = true) (p : purD f = true) : okD 12 (entD f z) = true ∧ purD (entD f z) = true := by
  obtain ⟨tr, ne⟩ := sh_rows h
  have o3 : okD 11 (ixD f 3) = true := ok_ix o (sh_tup h) (i := 3) (by omega)
  have p3 := pur_ix p (sh_tup h) (i := 3) (by omega)
  obtain ⟨ds, e, _, _⟩ := tupB_d tr
  have ei : itD (ixD f 3) = ds := by rw [e]; rfl
  rw [ei] at ne
  rw [e] at o3 p3
  have := ent_ok (z := z) (m := 9) ne fun d m => ⟨(okD_tup.mp o3).2 d m, purD_tup.mp p3 d m⟩
  unfold entD
  rw [ei]
  exact ⟨ok_mono 10 12 _ (by decide) this.1, this.2⟩
theorem Tst.Ok.setLst {s : Tst} (h : s.Ok) {n : Str} {e : PyData} (ok : okD 13 e = true ∧ purD e = true ∧ tupB 3 3 e = true) : ({ s with lsts := putA s.lsts n e } : Tst).Ok := ⟨h.ch, h.st, h.sh, h.ok, h.cx, h.sx, h.tx, h.rol, fun p m => by
  rcases putA_mem m with m | rfl
  · exact h.ls p m
  · exact ok⟩
theorem Trs.setLst {C o dd ds dl off : Addr} {s : Tst} {H : Hp} {u : V} {n : Str} {e : PyData} {kvs : List (Key × V)} (T : Trs C o dd ds dl off s H) (hd : H dl = some (.dK kvs)) (hk : KvD H kvs s.lsts) (R : Rq H u e) (ok : okD 13 e = true ∧ purD e = true ∧ tupB 3 3 e = true) :
    Trs C o dd ds dl off { s with lsts := putA s.lsts n e } (upd H dl (.dK (putK kvs (Sum.inr n) u))) := by
  have k : Kp [dl] H (upd H dl (.dK (putK kvs (Sum.inr n) u))) := Kp.dKT hd (List.mem_singleton.mpr rfl)
  obtain ⟨dx, rv, ho, hr⟩ := T.ob
  obtain ⟨k1, e1, r1⟩ := T.d1
  have n1 : o ≠ dl := ne_of ho hd (by intro z; cases z)
  exact ⟨⟨dx, rv, by rw [upd_ne n1]; exact ho, hr.pure k T.ok.rol.2⟩, ⟨k1, by rw [upd_ne T.n2]; exact e1, r1.kp k fun p m => (T.ok.ok p m).2⟩, by rw [upd_ne T.n3]; exact T.d2, ⟨_, upd_same, KvD.put (R.pure k ok.2.1) (hk.kp k fun p m => (T.ok.ls p m).2.1)⟩, T.n1, T.n2, T.n3, T.ok.setLst ok⟩
theorem ls_all {d : PyData} (h : isList d = true) : tupB 6 6 d = true ∧ lnD (ixD d 1) = true ∧ numB 1 1000000000000 (ixD d 2) = true := by
  unfold isList headB at h; simp only [Bool.and_eq_true] at h
  exact ⟨h.1.1, h.2.1, h.2.2.1⟩
theorem ln_rq {H : Hp} {v : V} {d : PyData} (r : Rq H v d) (h : lnD d = true) : v = .str (strD d) := by
  cases d with
  | str z => cases r; rfl
  | _ => cases h
def spLoses : Sp := fun vs H Q _ => ∃ (u v : V) (b d : PyData), vs = [u, v] ∧ Rq H u b ∧ Rq H v d ∧ isShelf b = true ∧ isShelf d = true ∧ purD b = true ∧ purD d = true ∧ ∀ H', Kp [] H H' → Q (.bl (loses b d)) H'
def spAccL (C CO CR : Addr) (Ts : List Addr) : Sp := fun vs H Q E => ∃ (o dd ds dl off dm : Addr) (s : Tst) (made : List (Str × Str)) (n : Str) (v rv : V) (rl : PyData), vs = [.ref o, .str n, v, rv] ∧ Trs C o dd ds dl off s H ∧ s.Sm ∧ Ofc CO off dm made H ∧ (∃ t, tyN H v = some t) ∧ (∀ z, v = .str z → z.length ≤ 10000000) ∧ Rq H rv rl ∧ isRole rl = true ∧ okD 12 rl = true ∧ purD rl = true ∧ Tabs Ts H ∧ spRes C CR Ts o dd ds dl off s H Q E (accLs made s n v rl)
section
variable {P : Program} {w : World} {K : PySem.W.Frag} {mg : Str → Option Value} {base : Heap} {f : Addr} {fd : FuncData} {C CO CB CD CR R : Addr} {Ts : List Addr}
theorem ok_loses (F : Fun K "_loses" "_loses" s_loses f fd) (B : Blt mg) (c_entry_of : Cal P w K mg base CX0 2 "entry_of" (spOf 3)) : FnOk P w K mg base CX0 3 f fd ["before", "shelf"] spLoses := by
  refine F.ok sc_loses (fun vs H Q E h => ?_) (fun cdv A outer s H vs Q E hr h => ?_)
  · obtain ⟨u, v, b, d, rfl, _⟩ := h; rfl
  obtain ⟨u, v, b, d, rfl, hb, hd, ib, id, pb, pd, q⟩ := h
  refine ⟨_, (pss_cons (ps_for PassesOwn.never rfl (pi_tup (pe_ix ix_tM (pv 0) pe_int (fun _ _ => rfl))) (pg_tup rfl (pgs_cons (pg_name (i := 2) sc_loses.nd rfl (Or.inl rfl)) (pgs_cons (pg_name (i := 3) sc_loses.nd rfl (Or.inl rfl)) (pgs_cons (pg_name (i := 4) sc_loses.nd rfl (Or.inl rfl)) (pgs_cons (pg_name (i := 4) sc_loses.nd rfl (Or.inl rfl)) pgs_nil))))) (pss_cons (ps_set (i := 5) sc_loses.nd rfl (Or.inl rfl) (c_entry_of.pe hr (pa_cons (pv 1) (pa_cons (pv 2) pa_nil))))
    (pss_one (ps_if (PW.pt (pw_or (pt_cmpR op_isN (pv 5) pe_non (nomark _)) (pw_or1 (pt_cmpR op_lt (pe_ix ix_tM (pv 5) pe_int (fun _ _ => rfl)) (pv 3) (nomark _))))) (pss_one (ps_ret pe_bl)) pss_nil))))
    (pss_one (ps_ret pe_bl))), ?_⟩
  walk_at "wq"
  obtain ⟨p, xs, rfl, ep, _, _, y, hy, ry⟩ := hb.part (sh_tup ib) (i := 3) (by omega)
  obtain ⟨tr, ne⟩ := sh_rows ib
  obtain ⟨a, ys, ds, rfl, ea, ed, rr, _, _⟩ := tupB_of ry tr
  have eds : itD (ixD b 3) = ds := by rw [ed]; rfl
  rw [eds] at ne
  refine ⟨_, rfl, p, rfl, xs, ep, _, rfl, _, hy, a, rfl, ⟨ys, SqT.of ea⟩, ?_⟩
  have el : loses b d = ds.any (loseR d) := by unfold loses; rw [eds]
  rw [el] at q
  refine for_tup (K := K) (a := a) (xs := ys) (fun i σ H' => (∃ o2 o3 o4 o5 : Option V, σ = [some (.ref p), some v, o2, o3, o4, o5]) ∧ Kp [] H H' ∧ (ds.take i).any (loseR d) = false)
    ⟨⟨_, _, _, _, rfl⟩, Kp.refl _ _, rfl⟩ (fun i σ H' _ ⟨_, k, _⟩ => SqT.of (k.tup _ _ ea)) (fun i x σ H' hx ⟨⟨o2, o3, o4, o5, hσ⟩, k, an⟩ => ?_) (fun σ H' ⟨⟨o2, o3, o4, o5, hσ⟩, k, an⟩ => ?_)
  · subst hσ
    obtain ⟨r, hr, Rr⟩ := (rr.kp0 k).get hx
    have nr := ne r (List.mem_of_getElem? hr)
    have tk : ds.take (i + 1) = ds.take i ++ [r] := by rw [List.take_add_one, hr]; rfl
    have anyT : loseR d r = true → ds.any (loseR d) = true := fun h => List.any_eq_true.mpr ⟨r, List.mem_of_getElem? hr, h⟩
    unfold isNE at nr
    simp only [Bool.and_eq_true] at nr
    obtain ⟨n1, n2, n3⟩ := nr
    obtain ⟨ra, rb, rc, re, rfl⟩ := tup4_d n1
    obtain ⟨t3, m0, _, _⟩ := en_all (show isEntry (.tuple [rb, rc, re]) = true from n3)
    cases Rr with
    | @tup c zs _ ec rz =>
    cases rz with
    | cons z0 rz =>
    cases rz with
    | cons z1 rz =>
    cases rz with
    | cons z2 rz =>
    cases rz with
    | cons z3 rz =>
    cases rz
    cases num_rq z1 (show numB 1 1000000000000 rb = true from m0)
    obtain ⟨w, ew⟩ : ∃ w, ra = .str w := by
      have n2 : lnD ra = true := n2
      cases ra with
      | str w => exact ⟨w, rfl⟩
      | _ => cases n2
    subst ew
    cases z0
    refine ⟨c, _, rfl, SqT.of ec, rfl, _, _, rfl, _, _, rfl, _, _, rfl, _, _, rfl, rfl, ?_⟩
    walk_at "wq"
    refine ent_use id (hd.kp0 k) fun e H2 Re k2 => ?_
    have K2 := k.trans k2
    have sh := ent_shape (z := w) (sh_rows id).2
    have lr : ∀ en, entD d w = en → loseR d (.tuple [.str w, rb, rc, re]) = match en with | .none => true | e => decide (intD (ixD e 0) < intD rb) := fun en he => by
      subst he; rfl
    rcases sh with sh | sh
    · have sh : entD d w = .none := sh
      rw [sh] at Re
      cases Re
      rw [anyT (lr _ sh)] at q
      exact if_yes rfl (q H2 K2)
    · have sh : isEntry (entD d w) = true := sh
      obtain ⟨u1, u2, _, _⟩ := en_all sh
      obtain ⟨g, gs, rfl, eg, _, _, g0, hg0, rg0⟩ := Re.part u1 (i := 0) (by omega)
      cases num_rq rg0 u2
      have l2 : loseR d (.tuple [.str w, rb, rc, re]) = decide (intD (ixD (entD d w) 0) < intD rb) := by
        rw [lr _ rfl]
        generalize entD d w = en at sh
        cases en <;> first | rfl | cases sh
      refine if_no (by simp) ⟨g, rfl, gs, eg, _, hg0, _, rfl, ite_dec (fun c => ?_) fun c => ⟨⟨_, rfl⟩, K2, ?_⟩⟩
      · rw [anyT (by rw [l2]; exact decide_eq_true c)] at q
        exact q H2 K2
      · rw [tk, List.any_append, an, List.any_cons, List.any_nil, l2, decide_eq_false c]; rfl
  · subst hσ
    walk_at "wq"
    rw [rr.len, List.take_length] at an
    rw [an] at q
    exact q H' k
theorem ok_tacl (F : Fun K "accept_list" "Trusted.accept_list" s_Trusted_accept_list f fd) (B : Blt mg) (TC : TrC K C) (T : EsC P w K mg base CB CD CR) (c_document_in : Cal P w K mg base (CXG P w) 25 "_document_in" (spDocIn CR Ts)) (c_require_signed : Cal P w K mg base (CXG P w) 26 "_require_signed" (spSgn CO CR Ts)) (c_require_sum : Cal P w K mg base (CXG P w) 3 "_require_sum" (spSum CR)) (c_entry_of : Cal P w K mg base CX0 2 "entry_of" (spOf 3))
    (m_Trusted_shelf : CalM P w K mg base CX0 1 C "shelf" (spTDoc C kF)) (m_Trusted_is_current : CalM P w K mg base CX0 2 C "is_current" (spTCur C)) (m_Trusted_require_usable : CalM P w K mg base (CXG P w) 4 C "_require_usable" (spUse C CR Ts)) :
    FnOk P w K mg base (CXG P w) 27 f fd ["self", "name", "sealed", "role"] (spAccL C CO CR Ts) := by
  refine F.okG sc_Trusted_accept_list (fun vs H Q E h => ?_) (fun cdv A outer s H vs Q E hr h => ?_)
  · obtain ⟨o, dd, ds, dl, off, dm, st, made, n, v, rv, rl, rfl, _⟩ := h; rfl
  obtain ⟨o, dd, ds, dl, off, dm, st, made, n, v, rv, rl, rfl, hT, hm, hO, hty, hz, hrl, irl, orl, prl, hG, res⟩ := h
  refine ⟨_, (pss_cons (ps_expr (m_Trusted_require_usable.pex hr (passG (takesG_of rfl rfl rfl rfl) fun _ _ _ _ h => h) (pv 0) (pa_cons (pv 2) pa_nil)))
    (pss_cons (ps_if (pt_not (pt_val (m_Trusted_is_current.pe0 hr (pv 0)))) (pss_one (T.Refused.raiseG hr (takesG_of rfl rfl rfl rfl))) pss_nil)
    (pss_cons (ps_set (i := 4) sc_Trusted_accept_list.nd rfl (Or.inl rfl) (c_entry_of.pe hr (pa_cons (m_Trusted_shelf.pe0 hr (pv 0)) (pa_cons (pv 1) pa_nil))))
    (pss_cons (ps_if (pt_cmpR op_isN (pv 4) pe_non (nomark _)) (pss_one (T.Refused.raiseG hr (takesG_of rfl rfl rfl rfl))) pss_nil)
    (pss_cons (ps_expr (c_require_sum.pex hr (passG (takesG_of rfl rfl rfl rfl) fun _ _ _ _ h => h) (pa_cons (pv 2) (pa_cons (pv 4) pa_nil))))
    (pss_cons (ps_set (i := 5) sc_Trusted_accept_list.nd rfl (Or.inl rfl) (c_document_in.pex hr (passG (takesG_of rfl rfl rfl rfl) fun _ _ _ _ h => h) (pa_cons pe_str (pa_cons (pv 2) pa_nil))))
    (pss_cons (ps_if (pt_cmpR op_ne (pe_ix ix_tM (pv 5) pe_int (fun _ _ => rfl)) (pv 1) (nomark _)) (pss_one (T.Refused.raiseG hr (takesG_of rfl rfl rfl rfl))) pss_nil)
    (pss_cons (ps_expr (c_require_signed.pex hr (passG (takesG_of rfl rfl rfl rfl) fun _ _ _ _ h => h) (pa_cons (pe_fld (pv 0) rfl) (pa_cons (pv 2) (pa_cons (pv 3) pa_nil)))))
    (pss_cons (ps_if (pt_cmpR op_ne (pe_ix ix_tM (pv 5) pe_int (fun _ _ => rfl)) (pe_ix ix_tM (pv 4) pe_int (fun _ _ => rfl)) (nomark _)) (pss_one (T.Refused.raiseG hr (takesG_of rfl rfl rfl rfl))) pss_nil)
    (pss_cons (ps_dput (hu_of hr) (pe_fld (pv 0) rfl) (pv 1) (pe_tup (pa_cons (pv 5) (pa_cons (pv 3) (pa_cons (pv 4) pa_nil)))) rfl)
    (pss_one (ps_ret (pv 5))))))))))))), ?_⟩
  obtain ⟨dx, rw0, ho, hrv⟩ := hT.ob
  walk_at "wq"
  have lim : sizeLine = 16777216 := sizeLine_eq
  refine ⟨dx, _, ho, rfl, o, dd, ds, dl, off, st, v, rfl, hT, hty, hG, fun us H1 k1 => ?_, fun z us e H1 k1 g1 he hx => ?_⟩
  rotate_left
  · have ev : accLs made st n v rl = .error z := by unfold accLs; rw [us]
    rw [ev] at res
    exact res e H1 k1 g1 he hx
  obtain ⟨y, rfl⟩ := usb_str us
  have ev : accLs made st n (.str y) rl = if st.curr = false then rsn "missing" else accL2 made st n y rl (entD ((getA st.docs kF).getD .none) n) := by unfold accLs; rw [us]
  rw [ev] at res
  have g1 := hG.kp0 k1
  have hT1 := hT.kp0 k1
  obtain ⟨dx1, rv1, ho1, _⟩ := hT1.ob
  refine ⟨dx1, _, ho1, rfl, o, dd, ds, dl, off, st, rfl, hT1, fun H2 k2 => ⟨_, rfl, ite_dec (fun c => ?_) fun c => ?_⟩⟩
  · rw [if_pos c] at res
    exact fun e G he hx k => res e G (k1.trans (k2.trans k)).in0 (hG.kp0 (k1.trans (k2.trans k))) ((k1.trans k2).gone1 (fun b m => absurd m List.not_mem_nil) he) hx
  rw [if_neg c] at res
  have K2 := k1.trans k2
  have hT2 := hT1.kp0 k2
  have g2 := g1.kp0 k2
  obtain ⟨dx2, rv2, ho2, _⟩ := hT2.ob
  obtain ⟨fF, gF⟩ : ∃ fF, getA st.docs kF = some fF := by
    unfold Tst.curr at c
    cases e : getA st.docs kF with
    | some a => exact ⟨a, rfl⟩
    | none =>
      rw [e] at c
      exfalso
      apply c
      cases getA st.docs kT <;> rfl
  have iF := hT.ok.sh fF gF
  have wF := hT.ok.ok _ (getA_mem gF)
  rw [gF] at res
  have res : spRes C CR Ts o dd ds dl off st H Q E (accL2 made st n y rl (entD fF n)) := res
  refine ⟨dx2, _, ho2, rfl, o, dd, ds, dl, off, st, rfl, hT2, fun u hu => ?_⟩
  rw [gF] at hu
  refine ent_use iF hu fun ev0 H3 Re k3 => ?_
  have K3 := K2.trans k3
  have gone3 : ∀ {e : Addr}, H3 e = none → H e = none := fun h => K3.gone1 (fun b m => absurd m List.not_mem_nil) h
  have g3 := g2.kp0 k3
  have hT3 := hT2.kp0 k3
  have sh := ent_shape (z := n) (sh_rows iF).2
  rcases sh with sh | sh
  · have sh : entD fF n = .none := sh
    rw [sh] at Re res
    cases Re
    exact if_yes rfl fun e G he hx k => res e G (K3.trans k).in0 (g3.kp0 k) (gone3 he) hx
  have sh : isEntry (entD fF n) = true := sh
  obtain ⟨t3, n0, n1, dg⟩ := en_all sh
  have ev2 : accL2 made st n y rl (entD fF n) = accL3 made st n rl (entD fF n) y := by
    generalize entD fF n = en at sh
    cases en <;> first | rfl | cases sh
  rw [ev2] at res
  have ow := entD_ok (z := n) iF wF.1 wF.2
  generalize entD fF n = en at sh t3 n0 n1 dg res ow Re ev2
  obtain ⟨q0, zs, rfl, eq0, _, _, w0, hw0, rw1⟩ := Re.part t3 (i := 0) (by omega)
  cases num_rq rw1 n0
  have ly := hz y rfl
  refine if_no (by simp) ⟨y, _, en, rfl, Re, sh, ly, fun sm => ?_, fun z sm e G k he hx => ?_⟩
  rotate_left
  · have ev3 : accL3 made st n rl en y = .error z := by unfold accL3; rw [sm]
    rw [ev3] at res
    exact res e G (K3.trans k).in0 (g3.kp0 k) (gone3 he) hx
  refine ⟨kL, .str y, rfl, ⟨_, rfl⟩, hz, g3, fun x d e D u2 H4 k4 g4 R4 od => ?_, fun no e H4 k4 g4 he hx => ?_⟩
  rotate_left
  · have ev3 : accL3 made st n rl en y = rsn "form" := by unfold accL3; rw [sm, docV_noneOf no]
    rw [ev3] at res
    exact res e H4 (K3.in0.trans k4) g4 (gone3 he) hx
  cases e
  have dv := docV_of D
  have ev3 : accL3 made st n rl en y = accL4 made st n rl en y d := by unfold accL3; rw [sm, dv]
  rw [ev3] at res
  obtain ⟨ik, od, pd, lx⟩ := D.ok
  rw [isK_L] at ik
  obtain ⟨t6, l1, v2⟩ := ls_all ik
  have K4 : Kp Ts H H4 := K3.in0.trans k4
  have gone4 : ∀ {e : Addr}, H4 e = none → H e = none := fun h => gone3 (k4.gone g4 h)
  have hT4 := hT.tabs K4 hG
  have hO4 := hO.tabs K4 hG
  obtain ⟨dx4, rv4, ho4, _⟩ := hT4.ob
  obtain ⟨p, xs, rfl, ep, _, _, x1, hx1, rx1⟩ := R4.part t6 (i := 1) (by omega)
  cases ln_rq rx1 l1
  refine ⟨p, rfl, xs, ep, _, hx1, rfl, ite_dec (fun c => ?_) fun c => ?_⟩
  · have c : strD (ixD d 1) ≠ n := fun e => c (congrArg V.str e)
    have e4 : accL4 made st n rl en y d = rsn "form" := if_pos c
    rw [e4] at res
    exact fun e G he hx k => res e G (K4.trans k.in0) (g4.kp0 k) (gone4 he) hx
  have c : ¬ strD (ixD d 1) ≠ n := fun e => c fun z => e (V.str.inj z)
  have e4 : accL4 made st n rl en y d = if sgnF made y rl = false then rsn "seals" else if intD (ixD d 2) ≠ intD (ixD en 0) then rsn "version" else .ok (d, { st with lsts := putA st.lsts n (.tuple [d, rl, en]) }) := if_neg c
  rw [e4] at res
  have Rrl := hrl.pure K4 prl
  refine ⟨C, dx4, _, ho4, TC.cl, TC.n1, _, rfl, sgn_use hO4 D Rrl irl g4 (fun yes H5 k5 g5 => ?_) (fun no e H5 k5 g5 he hx => ?_)⟩
  rotate_left
  · rw [if_pos no] at res
    exact res e H5 (K4.trans k5) g5 (gone4 he) hx
  rw [if_neg (by rw [yes]; decide)] at res
  have K5 := K4.trans k5
  have gone5 : ∀ {e : Addr}, H5 e = none → H e = none := fun h => gone4 (k5.gone g5 h)
  have hT5 := hT4.tabs k5 g4
  have R5 := R4.pure k5 pd
  have Re5 := Re.pure (k4.trans k5) ow.2
  obtain ⟨p', xs', e', ep', _, _, x2, hx2, rx2⟩ := R5.part t6 (i := 2) (by omega)
  cases e'
  cases num_rq rx2 v2
  obtain ⟨q0', zs', e', eq0', _, _, w0', hw0', rw1'⟩ := Re5.part t3 (i := 0) (by omega)
  cases e'
  cases num_rq rw1' n0
  refine ⟨p, rfl, xs', ep', _, hx2, q0, rfl, zs', eq0', _, hw0', rfl, ite_dec (fun c => ?_) fun c => ?_⟩
  · have c : intD (ixD d 2) ≠ intD (ixD en 0) := fun e => c (congrArg V.int e)
    rw [if_pos c] at res
    exact fun e G he hx k => res e G (K5.trans k.in0) (g5.kp0 k) (gone5 he) hx
  have c : ¬ intD (ixD d 2) ≠ intD (ixD en 0) := fun e => c fun z => e (V.int.inj z)
  rw [if_neg c] at res
  refine ⟨by omega, fun pn hpn => ?_⟩
  have k6 := Kp.new (S := []) hpn (.tup [V.ref p, rv, V.ref q0])
  have hT6 := hT5.kp0 k6
  have g6 := g5.kp0 k6
  obtain ⟨dx6, rv6, ho6, _⟩ := hT6.ob
  obtain ⟨kvs, ed, rd⟩ := hT6.d3
  have ll : kvs.length < sizeLine := by rw [rd.len]; have := hm.c; omega
  have prt : purD (.tuple [d, rl, en]) = true := purD_tup.mpr fun e m => by
    simp only [List.mem_cons, List.not_mem_nil, or_false] at m
    rcases m with rfl | rfl | rfl
    · exact pd
    · exact prl
    · exact ow.2
  have ort : okD 13 (.tuple [d, rl, en]) = true := okD_tup.mpr ⟨by show 3 ≤ 200000; decide, fun e m => by
    simp only [List.mem_cons, List.not_mem_nil, or_false] at m
    rcases m with rfl | rfl | rfl
    · exact od
    · exact orl
    · exact ow.1⟩
  have Rt : Rq _ (.ref pn) (.tuple [d, rl, en]) := .tup (upd_same : upd H5 pn (.tup [V.ref p, rv, V.ref q0]) pn = _) (.cons (R5.kp0 k6) (.cons (Rrl.pure (k5.trans k6.in0) prl) (.cons (Re5.kp0 k6) .nil)))
  have T7 := hT6.setLst (n := n) ed rd Rt ⟨ort, prt, rfl⟩
  have k7 : Kp [dl] _ (upd (upd H5 pn (.tup [V.ref p, rv, V.ref q0])) dl (.dK (putK kvs (Sum.inr n) (.ref pn)))) := Kp.dKT ed (List.mem_singleton.mpr rfl)
  refine ⟨C, dx6, _, ho6, TC.cl, TC.n5, _, rfl, dl, rfl, _, DPut.k (k := Sum.inr n) ed ll, ?_⟩
  exact res (.ref p) dl _ (((K5.trans k6.in0).mono fun b m => List.mem_cons_of_mem _ (List.mem_cons_of_mem _ (List.mem_cons_of_mem _ (List.mem_cons_of_mem _ m)))).trans (k7.mono fun b m => by rw [List.mem_singleton.mp m]; simp)) (g6.kp k7 fun P mP mo => absurd mP (by rw [List.mem_singleton.mp mo]; exact g6.ne ed)) (.inl rfl) T7 ((R5.kp0 k6).pure k7 pd)
end
/-! the trusted set: shelves -/
abbrev s_Trusted_accept_shelf : Stmt := inClass (top 84) 3
abbrev N_Trusted_accept_shelf : List Str := ["self", "sealed", "entry", "shelf", "name", "kept"]
theorem sc_Trusted_accept_shelf : FnScope N_Trusted_accept_shelf ["self", "sealed"] (defScope s_Trusted_accept_shelf) := ⟨rfl, rfl, rfl, by decide +kernel, rfl, by decide +kernel, by decide +kernel⟩
theorem dc_items {d : Addr} {o : Obj} {kvs : List (Key × V)} {g : TG} {tt : TT} {tk tv : TE} {vs : List Nat} {σ : St} {H1 : Hp} {D : Addr} {Qd : Hp → Prop} (Pv : Nat → Hp → Prop) (h0 : Pv 0 (upd H1 D (.dK []))) (hl : ∀ i H, Pv i H → H d = some (.frz o (.dK kvs)))
    (hs : ∀ i k v T H, kvs[i]? = some (k, v) → Pv i H → H T = none → g (.ref T) (wipe σ vs) (upd H T (.tup [kV k, v])) fun σ2 H2 => wipe σ2 vs = wipe σ vs ∧ tt σ2 H2 fun b H3 =>
      if b = true then tk σ2 H3 fun y H4 => tv σ2 H4 fun z H5 => ∃ kvs k, y = kV k ∧ H5 D = some (.dK kvs) ∧ kvs.length < sizeLine ∧ Pv (i + 1) (upd H5 D (.dK (putK kvs k z))) else Pv (i + 1) H3) (hd : ∀ H, Pv kvs.length H → Qd H) :
    ∃ W : Nat → Nat → Hp → Prop, (∃ m, W 0 m (upd H1 D (.dK []))) ∧ ∀ i m H, W i m H →
      ((Iti d o kvs).stop i H ∧ Qd H) ∨ ((Iti d o kvs).go i H ∧ ∃ Nx : Hp → Prop, (∀ H', Nx H' → ∃ m', m' < m ∧ W (i + 1) m' H') ∧ ∀ x H', (Iti d o kvs).yld i H x H' → g x (wipe σ vs) H' fun σ2 H2 => wipe σ2 vs = wipe σ vs ∧ tt σ2 H2 fun b H3 =>
        if b = true then tk σ2 H3 fun y H4 => tv σ2 H4 fun z H5 => ∃ kvs k, y = kV k ∧ H5 D = some (.dK kvs) ∧ kvs.length < sizeLine ∧ Nx (upd H5 D (.dK (putK kvs k z))) else Nx H3) := by
  refine ⟨fun i m H => m = kvs.length - i ∧ i ≤ kvs.length ∧ Pv i H, ⟨kvs.length, by simp, Nat.zero_le _, h0⟩, ?_⟩
  rintro i m H ⟨rfl, hi, p⟩
  have q := hl i H p
  by_cases hlt : i < kvs.length
  · refine .inr ⟨⟨q, hlt⟩, Pv (i + 1), fun H' p' => ⟨kvs.length - (i + 1), by omega, rfl, hlt, p'⟩, fun x H' y => ?_⟩
    obtain ⟨T, k, v, e, rfl, hn, rfl⟩ := y
    exact hs i k v T _ e p hn
  · have e : i = kvs.length := by omega
    subst e
    exact .inl ⟨⟨q, Nat.le_refl _⟩, hd H p⟩
theorem KvD.at {H : Hp} {i : Nat} {k : Key} {v : V} : ∀ {kvs : List (Key × V)} {l : List (Str × PyData)}, KvD H kvs l → kvs[i]? = some (k, v) → ∃ n e, k = Sum.inr n ∧ l[i]? = some (n, e) ∧ Rq H v e := by
  induction i with
  | zero =>
    intro kvs l h e
    cases h with
    | nil => cases e
    | cons a _ =>
      injection e with e
      injection e with e1 e2
      subst e1; subst e2
      exact ⟨_, _, rfl, rfl, a⟩
  | succ i ih =>
    intro kvs l h e
    cases h with
    | nil => cases e
    | cons _ r => exact ih r e
theorem putA_new {α : Type} {l : List (Str × α)} {n : Str} {t : α} (h : n ∉ l.map (·.1)) : putA l n t = l ++ [(n, t)] := by
  unfold putA
  rw [if_neg]
  intro c
  obtain ⟨p, m, e⟩ := List.any_eq_true.mp c
  rw [decide_eq_true_eq] at e
  exact h (List.mem_map.mpr ⟨p, m, e⟩)
theorem Tst.Ok.cutL {s : Tst} (h : s.Ok) (d : PyData) : (s.cutL d).Ok := ⟨h.ch, h.st, h.sh, h.ok, h.cx, h.sx, h.tx, h.rol, fun p m => h.ls p (List.mem_filter.mp m).1⟩
section
variable {P : Program} {w : World} {K : PySem.W.Frag} {mg : Str → Option Value} {base : Heap} {f : Addr} {fd : FuncData} {C CO CB CD CR R : Addr} {Ts : List Addr}
theorem ok_tash (F : Fun K "accept_shelf" "Trusted.accept_shelf" s_Trusted_accept_shelf f fd) (B : Blt mg) (TC : TrC K C) (T : EsC P w K mg base CB CD CR) (c_document_in : Cal P w K mg base (CXG P w) 25 "_document_in" (spDocIn CR Ts)) (c_require_signed : Cal P w K mg base (CXG P w) 26 "_require_signed" (spSgn CO CR Ts)) (c_role_of : Cal P w K mg base CX0 1 "role_of" spRoleOf) (c_require_sum : Cal P w K mg base (CXG P w) 3 "_require_sum" (spSum CR)) (c_entry_of : Cal P w K mg base CX0 2 "entry_of" (spOf 3)) (c_loses : Cal P w K mg base CX0 3 "_loses" spLoses)
    (m_Trusted_charter : CalM P w K mg base CX0 1 C "charter" (spTDoc C kC)) (m_Trusted_stamp : CalM P w K mg base CX0 1 C "stamp" (spTDoc C kT)) (m_Trusted_shelf : CalM P w K mg base CX0 1 C "shelf" (spTDoc C kF)) (m_Trusted_require_usable : CalM P w K mg base (CXG P w) 4 C "_require_usable" (spUse C CR Ts)) (m_Trusted_keep : CalM P w K mg base CX0 1 C "_keep" (spKeep C)) :
    FnOk P w K mg base (CXG P w) 27 f fd ["self", "sealed"] (spAcc accSh C CO CR Ts) := by
  refine F.okG sc_Trusted_accept_shelf (fun vs H Q E h => ?_) (fun cdv A outer s H vs Q E hr h => ?_)
  · obtain ⟨o, dd, ds, dl, off, dm, st, made, v, rfl, _⟩ := h; rfl
  obtain ⟨o, dd, ds, dl, off, dm, st, made, v, rfl, hT, hm, hO, hty, hz, hG, res⟩ := h
  refine ⟨_, (pss_cons (ps_expr (m_Trusted_require_usable.pex hr (passG (takesG_of rfl rfl rfl rfl) fun _ _ _ _ h => h) (pv 0) (pa_cons (pv 1) pa_nil)))
    (pss_cons (ps_if (pt_cmpR op_isN (m_Trusted_stamp.pe0 hr (pv 0)) pe_non (nomark _)) (pss_one (T.Refused.raiseG hr (takesG_of rfl rfl rfl rfl))) pss_nil)
    (pss_cons (ps_set (i := 2) sc_Trusted_accept_shelf.nd rfl (Or.inl rfl) (pe_ix ix_tM (m_Trusted_stamp.pe0 hr (pv 0)) pe_int (fun _ _ => rfl)))
    (pss_cons (ps_expr (c_require_sum.pex hr (passG (takesG_of rfl rfl rfl rfl) fun _ _ _ _ h => h) (pa_cons (pv 1) (pa_cons (pv 2) pa_nil))))
    (pss_cons (ps_set (i := 3) sc_Trusted_accept_shelf.nd rfl (Or.inr rfl) (c_document_in.pex hr (passG (takesG_of rfl rfl rfl rfl) fun _ _ _ _ h => h) (pa_cons pe_str (pa_cons (pv 1) pa_nil))))
    (pss_cons (ps_expr (c_require_signed.pex hr (passG (takesG_of rfl rfl rfl rfl) fun _ _ _ _ h => h) (pa_cons (pe_fld (pv 0) rfl) (pa_cons (pv 1) (pa_cons (c_role_of.pe hr (pa_cons (m_Trusted_charter.pe0 hr (pv 0)) (pa_cons pe_str pa_nil))) pa_nil)))))
    (pss_cons (ps_if (pt_cmpR op_ne (pe_ix ix_tM (pv 3) pe_int (fun _ _ => rfl)) (pe_ix ix_tM (pv 2) pe_int (fun _ _ => rfl)) (nomark _)) (pss_one (T.Refused.raiseG hr (takesG_of rfl rfl rfl rfl))) pss_nil)
    (C8.pss_cut (ps_if (PW.pt (pw_and (pt_cmpR op_notN (m_Trusted_shelf.pe0 hr (pv 0)) pe_non (nomark _)) (pw_and1 (pt_val (c_loses.pe hr (pa_cons (m_Trusted_shelf.pe0 hr (pv 0)) (pa_cons (pv 3) pa_nil))))))) (pss_one (T.Refused.raiseG hr (takesG_of rfl rfl rfl rfl))) pss_nil)
    (C8.pss_cut (ps_fld (pv 0) (pe_lock (pe_dc (own := [("name", 4), ("kept", 5)]) (g := gTup _ 2 (gCons (gName 4) (gCons (gName 5) (gNil)))) (tt := _) rfl sc_Trusted_accept_shelf.nd (pi_items (pe_fld (pv 0) rfl)) (blkOk_by (own := [("name", 4), ("kept", 5)]) (N := N_Trusted_accept_shelf) (sc := defScope s_Trusted_accept_shelf) (by decide +kernel)) (fun _ _ _ _ _ => (pg_tup rfl (pgs_cons (pg_name (i := 4) sc_Trusted_accept_shelf.nd rfl (Or.inl rfl)) (pgs_cons (pg_name (i := 5) sc_Trusted_accept_shelf.nd rfl (Or.inl rfl)) pgs_nil)))) (fun _ _ _ _ _ => pts_one (pt_cmpR (show OpR _ _ (rEqD K) from op_eqD hr.units) (c_entry_of.pe hr (pa_cons (pv 3) (pa_cons (pv 4) pa_nil))) (pe_ix ix_tM (pv 5) pe_int (fun _ _ => rfl)) (nomark _))) (fun _ _ _ _ _ => (pv 4)) (fun _ _ _ _ _ => (pv 5)))) rfl)
    (pss_one (ps_ret (m_Trusted_keep.pe hr (pv 0) (pa_cons pe_str (pa_cons (pv 3) (pa_cons (pv 1) pa_nil))))))))))))))), ?_⟩
  obtain ⟨dx, rv, ho, hrv⟩ := hT.ob
  walk_at "wq"
  have lim : sizeLine = 16777216 := sizeLine_eq
  refine ⟨dx, _, ho, rfl, o, dd, ds, dl, off, st, v, rfl, hT, hty, hG, fun us H1 k1 => ?_, fun z us e H1 k1 g1 he hx => ?_⟩
  rotate_left
  · have ev : accSh made st v = .error z := by unfold accSh; rw [us]
    rw [ev] at res
    exact res e H1 k1 g1 he hx
  obtain ⟨y, rfl⟩ := usb_str us
  have ly := hz y rfl
  have g1 := hG.kp0 k1
  have hT1 := hT.kp0 k1
  have gone1 : ∀ {e : Addr}, H1 e = none → H e = none := fun h => k1.gone1 (fun b m => absurd m List.not_mem_nil) h
  obtain ⟨dx1, rv1, ho1, _⟩ := hT1.ob
  refine ⟨dx1, _, ho1, rfl, o, dd, ds, dl, off, st, rfl, hT1, fun b1 hb1 => ?_⟩
  cases gt : getA st.docs kT with
  | none =>
    rw [gt] at hb1
    cases hb1
    have ev : accSh made st (.str y) = rsn "missing" := by unfold accSh; rw [us, gt]
    rw [ev] at res
    exact if_yes rfl fun e G he hx k => res e G (k1.trans k).in0 (g1.kp0 k) (gone1 he) hx
  | some sp =>
  have ev : accSh made st (.str y) = accS2 made st sp y := by unfold accSh; rw [us, gt]
  rw [ev] at res
  rw [gt] at hb1
  have isp := hT.ok.st sp gt
  obtain ⟨p0, _, rfl, _⟩ := hb1.part (st_tup isp) (i := 1) (by omega)
  refine if_no (by simp) ⟨dx1, _, ho1, rfl, o, dd, ds, dl, off, st, rfl, hT1, fun b2 hb2 => ?_⟩
  rw [gt] at hb2
  obtain ⟨p, xs, rfl, ep, _, _, e3, he3, re3⟩ := hb2.part (st_tup isp) (i := 3) (by omega)
  have ien := st_ent isp
  have wsp := hT.ok.ok _ (getA_mem gt)
  have pen : purD (ixD sp 3) = true := pur_ix wsp.2 (st_tup isp) (i := 3) (by omega)
  obtain ⟨t3, n0, n1, dg⟩ := en_all ien
  obtain ⟨q0, zs, rfl, eq0, _, _, w0, hw0, rw1⟩ := re3.part t3 (i := 0) (by omega)
  refine ⟨p, rfl, xs, ep, _, he3, y, _, ixD sp 3, rfl, re3, ien, ly, fun sm => ?_, fun z sm e G k he hx => ?_⟩
  rotate_left
  · have ev2 : accS2 made st sp y = .error z := by unfold accS2; rw [sm]
    rw [ev2] at res
    exact res e G (k1.trans k).in0 (g1.kp0 k) (gone1 he) hx
  refine ⟨kF, .str y, rfl, ⟨_, rfl⟩, hz, g1, fun x d e D0 u H2 k2 g2 R2 od => ?_, fun no e H2 k2 g2 he hx => ?_⟩
  rotate_left
  · have ev2 : accS2 made st sp y = rsn "form" := by unfold accS2; rw [sm, docV_noneOf no]
    rw [ev2] at res
    exact res e H2 (k1.in0.trans k2) g2 (gone1 he) hx
  cases e
  have dv := docV_of D0
  have ev2 : accS2 made st sp y = accS3 made st sp y d := by unfold accS2; rw [sm, dv]
  rw [ev2] at res
  obtain ⟨ik, od, pd, lx⟩ := D0.ok
  rw [isK_F] at ik
  have ich := hT.ok.ch.2
  have K2 : Kp Ts H H2 := k1.in0.trans k2
  have gone2 : ∀ {e : Addr}, H2 e = none → H e = none := fun h => gone1 (k2.gone g2 h)
  have hT2 := hT.tabs K2 hG
  have hO2 := hO.tabs K2 hG
  obtain ⟨dx2, rv2, ho2, _⟩ := hT2.ob
  refine ⟨C, dx2, _, ho2, TC.cl, TC.n1, _, rfl, dx2, _, ho2, rfl, o, dd, ds, dl, off, st, rfl, hT2, fun w hw => ?_⟩
  rw [hT.ok.ch.1] at hw
  have hw : Rq H2 w st.ch := hw
  refine ⟨w, st.ch, kF, 2, rfl, hw, ich, rfl, fun r2 hr2 => sgn_use hO2 D0 hr2 (ch_role ich (by omega)) g2 (fun yes H3 k3 g3 => ?_) (fun no e H3 k3 g3 he hx => ?_)⟩
  rotate_left
  · have ev3 : accS3 made st sp y d = rsn "seals" := if_pos no
    rw [ev3] at res
    exact res e H3 (K2.trans k3) g3 (gone2 he) hx
  have ev3 : accS3 made st sp y d = if verD d ≠ intD (ixD (ixD sp 3) 0) then rsn "version" else accS4 st y d := if_neg (by rw [yes]; decide)
  rw [ev3] at res
  have K3 := K2.trans k3
  have gone3 : ∀ {e : Addr}, H3 e = none → H e = none := fun h => gone2 (k3.gone g3 h)
  have hT3 := hT2.tabs k3 g2
  have R3 := R2.pure k3 pd
  have re4 := re3.pure (k2.trans k3) pen
  obtain ⟨dx3, rv3, ho3, _⟩ := hT3.ob
  obtain ⟨p2, xs2, rfl, ep2, _, _, x1, hx1, rx1⟩ := R3.part (sh_tup ik) (i := 1) (by omega)
  cases num_rq rx1 (sh_num ik)
  obtain ⟨q0', zs', e', eq0', _, _, w0', hw0', rw1'⟩ := re4.part t3 (i := 0) (by omega)
  cases e'
  cases num_rq rw1' n0
  refine ⟨p2, rfl, xs2, ep2, _, hx1, q0, rfl, zs', eq0', _, hw0', rfl, ite_dec (fun c => ?_) fun c => ?_⟩
  · have c : verD d ≠ intD (ixD (ixD sp 3) 0) := fun e => c (congrArg V.int e)
    rw [if_pos c] at res
    exact fun e G he hx k => res e G (K3.trans k.in0) (g3.kp0 k) (gone3 he) hx
  have c : ¬ verD d ≠ intD (ixD (ixD sp 3) 0) := fun e => c fun z => e (V.int.inj z)
  rw [if_neg c] at res
  refine ⟨fun σ H' => σ = [some (.ref o), some (.str y), some (.ref q0), some (.ref p2), none, none] ∧ Kp [] H3 H' ∧ spRes C CR Ts o dd ds dl off st H Q E (.ok (d, (st.cutL d).keep kF d y)), ?_, fun σ H4 ⟨hσ, k4, res⟩ => ?_⟩
  · walk_at "wq"
    refine ⟨dx3, _, ho3, rfl, o, dd, ds, dl, off, st, rfl, hT3, fun b3 hb3 => ?_⟩
    cases gf : getA st.docs kF with
    | none =>
      rw [gf] at hb3
      cases hb3
      have ev4 : accS4 st y d = .ok (d, (st.cutL d).keep kF d y) := by unfold accS4; rw [gf]
      rw [ev4] at res
      exact if_no (by simp) ⟨Kp.refl _ _, res⟩
    | some fb =>
      rw [gf] at hb3
      have ifb := hT.ok.sh fb gf
      have wfb := hT.ok.ok _ (getA_mem gf)
      have ev4 : accS4 st y d = if loses fb d = true then rsn "version" else .ok (d, (st.cutL d).keep kF d y) := by unfold accS4; rw [gf]
      rw [ev4] at res
      obtain ⟨p5, _, rfl, _⟩ := hb3.part (sh_tup ifb) (i := 1) (by omega)
      refine if_yes (by simp) ⟨dx3, _, ho3, rfl, o, dd, ds, dl, off, st, rfl, hT3, fun b4 hb4 => ?_⟩
      rw [gf] at hb4
      refine ⟨b4, _, fb, d, rfl, hb4, R3, ifb, ik, wfb.2, pd, fun H4 k4 => ⟨_, rfl, ite_dec (fun c => ?_) fun c => ?_⟩⟩
      · rw [if_pos c] at res
        exact fun e G he hx k => res e G (K3.trans (k4.trans k).in0) (g3.kp0 (k4.trans k)) (gone3 (k4.gone1 (fun b m => absurd m List.not_mem_nil) he)) hx
      · rw [if_neg c] at res
        exact ⟨k4, res⟩
  subst hσ
  have g4 := g3.kp0 k4
  have hT4 := hT3.kp0 k4
  have R4 := R3.kp0 k4
  obtain ⟨dx4, rv4, ho4, hrv4⟩ := hT4.ob
  obtain ⟨kvs, ed, rd⟩ := hT4.d3
  refine ⟨fun σ H' => (∃ o4 o5 : Option V, σ = [some (.ref o), some (.str y), some (.ref q0), some (.ref p2), o4, o5]) ∧ ∃ D, H4 D = none ∧ Kp [o] H4 H' ∧ Trs C o dd ds D off (st.cutL d) H', ?_, fun σ H5 ⟨⟨o4, o5, hσ⟩, D, nD, k5, T5⟩ => ?_⟩
  · walk_at "wq"
    have hln := hm.d
    have noL : o ≠ dl := ne_of ho4 ed (by intro z; cases z)
    refine ⟨dl, _, ed, True.intro, fun odl => ?_⟩
    refine ⟨_, rfl, o, C, dx4, _, _, rfl, by rw [upd_ne noL]; exact ho4, TC.cl, TC.n5, rfl, dl, odl, kvs, rfl, upd_same, fun D hD => ?_⟩
    have nDl : D ≠ dl := fun e => by rw [e, upd_same] at hD; cases hD
    have nD : H4 D = none := by rw [upd_ne nDl] at hD; exact hD
    have nDo : D ≠ o := fun e => by rw [e, ho4] at nD; cases nD
    have ntup : ∀ {b : Addr} {us : List V}, H4 b = some (.tup us) → b ≠ dl ∧ b ≠ D := fun h => ⟨ne_of h ed (by intro z; cases z), fun e => by rw [e, nD] at h; cases h⟩
    have kL : Kp [dl] H4 (upd (upd H4 dl (.frz odl (.dK kvs))) D (.dK [])) := ⟨fun b u n q => by rw [upd_ne (fun e => by rw [e, nD] at q; cases q), upd_ne (fun e => n (by rw [e]; exact List.mem_singleton.mpr rfl))]; exact q, fun b us q => by rw [upd_ne (ntup q).2, upd_ne (ntup q).1]; exact q⟩
    refine dc_items (Pv := fun i H' => (∃ ks, H' D = some (.dK ks) ∧ KvD H' ks ((st.lsts.take i).filter fun p => PyData.eqv (entD d p.1) (ixD p.2 2))) ∧ Kp [dl, D] H4 H' ∧ H' dl = some (.frz odl (.dK kvs)))
      ⟨⟨[], upd_same, .nil⟩, kL.mono fun b m => by rw [List.mem_singleton.mp m]; exact List.mem_cons_self, by rw [upd_ne nDl.symm]; exact upd_same⟩ (fun i H' h => h.2.2) (fun i k v0 T H' hk ⟨⟨ks, e1, r1⟩, kk, e2⟩ hT0 => ?_) (fun H' ⟨⟨ks, e1, r1⟩, kk, e2⟩ => ?_)
    · obtain ⟨n, e, rfl, hl, Rv⟩ := rd.at hk
      have me := List.mem_of_getElem? hl
      obtain ⟨oe, pe0, te⟩ := hT4.ok.ls _ me
      have k6 := Kp.new (S := []) hT0 (.tup [V.str n, v0])
      have kA := kk.trans k6.in0
      refine ⟨T, _, rfl, SqT.of upd_same, rfl, _, _, rfl, _, _, rfl, rfl, rfl, ?_⟩
      have Rd := R4.pure kA pd
      have tk : st.lsts.take (i + 1) = st.lsts.take i ++ [(n, e)] := by rw [List.take_add_one, hl]; rfl
      have nin : n ∉ ((st.lsts.take i).filter fun p => PyData.eqv (entD d p.1) (ixD p.2 2)).map (·.1) := fun m => by
        obtain ⟨p, mp, e3⟩ := List.mem_map.mp m
        have mp := (List.mem_filter.mp mp).1
        have nd := hln
        rw [← List.take_append_drop (i + 1) st.lsts, tk, List.map_append, List.map_append] at nd
        exact (List.nodup_append.mp (List.nodup_append.mp nd).1).2.2 _ (List.mem_map_of_mem mp) n (by simp) e3
      refine ⟨_, rfl, _, rfl, ent_use (E := E0) ik Rd fun v1 H6 Re k7 => ?_⟩
      have kB := kA.trans k7.in0
      have Rv6 := Rv.pure kB pe0
      obtain ⟨pe, us, rfl, epe, _, _, z2, hz2, rz2⟩ := Rv6.part te (i := 2) (by omega)
      have eD : H6 D = some (.dK ks) := (k6.trans k7).keep _ _ List.not_mem_nil e1
      have eL : H6 dl = some (.frz odl (.dK kvs)) := (k6.trans k7).keep _ _ List.not_mem_nil e2
      have pl : ∀ p ∈ (st.lsts.take i).filter (fun p => PyData.eqv (entD d p.1) (ixD p.2 2)), purD p.2 = true := fun p m => (hT4.ok.ls p (List.mem_of_mem_take (List.mem_filter.mp m).1)).2.1
      have r6 := r1.kp (k6.trans k7) pl
      have ow := entD_ok (z := n) ik od pd
      refine ⟨_, rfl, pe, rfl, us, epe, 2, rfl, z2, hz2, entD d n, ixD e 2, Re.dp, rz2.dp, ok_shaped ow.1 (by decide), ok_shaped (ok_ix oe te (i := 2) (by omega)) (by decide), _, rfl, ite_dec (fun c => ?_) fun c => ?_⟩
      · refine ⟨_, rfl, _, rfl, ks, Sum.inr n, rfl, eD, ?_, ⟨_, upd_same, ?_⟩, kB.trans (Kp.dKT eD (List.mem_cons_of_mem _ List.mem_cons_self)), by rw [upd_ne nDl.symm]; exact eL⟩
        · rw [r1.len]
          have := List.length_filter_le (fun p : Str × PyData => PyData.eqv (entD d p.1) (ixD p.2 2)) (st.lsts.take i)
          have := hm.c
          rw [List.length_take] at *
          omega
        · have kC : Kp [D] H6 (upd H6 D (.dK (putK ks (Sum.inr n) (.ref pe)))) := Kp.dKT eD (List.mem_singleton.mpr rfl)
          rw [tk, List.filter_append, show [(n, e)].filter (fun p : Str × PyData => PyData.eqv (entD d p.1) (ixD p.2 2)) = [(n, e)] from by rw [List.filter_cons, if_pos c, List.filter_nil], ← putA_new nin]
          exact KvD.put (Rv6.pure kC pe0) (r6.kp kC pl)
      · refine ⟨⟨ks, eD, ?_⟩, kB, eL⟩
        rw [tk, List.filter_append, show [(n, e)].filter (fun p : Str × PyData => PyData.eqv (entD d p.1) (ixD p.2 2)) = [] from by rw [List.filter_cons, if_neg c, List.filter_nil], List.append_nil]
        exact r6
    · have hk : kvs.length = st.lsts.length := rd.len
      rw [hk, List.take_length] at r1
      have e1' : upd H' dl (.dK kvs) D = some (.dK ks) := by rw [upd_ne nDl]; exact e1
      have oo : upd H' dl (.dK kvs) o = some (.ins C dx4 [("_office", .ref off), ("_documents", .ref dd), ("_sealed", .ref ds), ("_roles", rv4), ("_lists", .ref dl)]) := by
        rw [upd_ne noL]
        exact kk.keep _ _ (by simp [noL, nDo.symm]) ho4
      have kU : Kp [] H4 (upd H' dl (.dK kvs)) := ⟨fun b u _ q => by
        by_cases hb : b = dl
        · subst hb
          rw [upd_same, ← ed]; exact q
        · rw [upd_ne hb]
          exact kk.keep _ _ (by simp [hb]; exact fun e => by rw [e, nD] at q; cases q) q, fun b us q => by rw [upd_ne (ntup q).1]; exact kk.tup _ _ q⟩
      have kO : Kp [o] (upd H' dl (.dK kvs)) (upd (upd H' dl (.dK kvs)) o (.ins C dx4 (putF "_lists" (.ref D) [("_office", .ref off), ("_documents", .ref dd), ("_sealed", .ref ds), ("_roles", rv4), ("_lists", .ref dl)]))) := Kp.insT oo (List.mem_singleton.mpr rfl)
      have kF : Kp [o] H4 _ := kU.in0.trans kO
      refine ⟨e2, C, dx4, _, oo, TC.cl, TC.n5, by show 5 < 1000; decide, ⟨_, rfl⟩, D, nD, kF, ?_⟩
      obtain ⟨k1', ed1, rd1⟩ := hT4.d1
      have n1 : dd ≠ o := ne_of ed1 ho4 (by intro z; cases z)
      have n2 : ds ≠ o := ne_of hT4.d2 ho4 (by intro z; cases z)
      have m1 : dd ≠ D := ne_of_none ed1 nD
      have m2 : ds ≠ D := ne_of_none hT4.d2 nD
      have pl : ∀ p ∈ st.lsts.filter (fun p => PyData.eqv (entD d p.1) (ixD p.2 2)), purD p.2 = true := fun p m => (hT4.ok.ls p (List.mem_filter.mp m).1).2.1
      have kD : Kp [dl, o] H' (upd (upd H' dl (.dK kvs)) o (.ins C dx4 (putF "_lists" (.ref D) [("_office", .ref off), ("_documents", .ref dd), ("_sealed", .ref ds), ("_roles", rv4), ("_lists", .ref dl)]))) := ⟨fun b u n q => by
        have := n
        simp only [List.mem_cons, List.not_mem_nil, or_false, not_or] at this
        rw [upd_ne this.2, upd_ne this.1]; exact q, fun b us q => by
        rw [upd_ne (ne_of q (kk.keep _ _ (by simp [noL, nDo.symm]) ho4) (by intro z; cases z)), upd_ne (ne_of q e2 (by intro z; cases z))]; exact q⟩
      exact ⟨⟨dx4, rv4, upd_same, hrv4.pure kF hT4.ok.rol.2⟩, ⟨k1', kF.keep _ _ (by simpa using n1) ed1, rd1.kp kF fun p m => (hT4.ok.ok p m).2⟩, kF.keep _ _ (by simpa using n2) hT4.d2, ⟨ks, by rw [upd_ne nDo]; exact e1', r1.kp kD pl⟩, hT4.n1, m1, m2, hT4.ok.cutL d⟩
  subst hσ
  walk_at "wq"
  obtain ⟨dx5, rv5, ho5, _⟩ := T5.ob
  have R5 := R4.pure k5 pd
  have g5 : Tabs Ts H5 := g4.kp k5 fun P mP mo => absurd mP (by rw [List.mem_singleton.mp mo]; exact g4.ne ho4)
  refine ⟨dx5, _, ho5, rfl, o, dd, ds, D, off, st.cutL d, kF, y, _, d, rfl, T5, ⟨hm.a, hm.b, Nat.le_trans (List.length_filter_le _ _) hm.c, hm.d.sublist (List.filter_sublist.map _)⟩, R5, (hT.ok.cutL d).keep D0 (.inr (.inr rfl)), fun H6 k6 T6 => ?_⟩
  exact res _ D H6 (((K3.trans k4.in0).mono fun b m => List.mem_cons_of_mem _ (List.mem_cons_of_mem _ (List.mem_cons_of_mem _ (List.mem_cons_of_mem _ m)))).trans ((k5.mono fun b m => by rw [List.mem_singleton.mp m]; exact List.mem_cons_self).trans (k6.mono (ds_in _ _ _ _ _))))
    (keep_tabs T5 g5 k6) (.inr (gone3 (k4.gone1 (fun b m => absurd m List.not_mem_nil) nD))) T6 (R5.pure k6 pd)
end
/-! the law's keys, roles, times, pairs of keys and marks: k35, k37, k54 -/
def PrsAt (H : Hp) (ts : List Addr) (made : List (Str × Str)) : Prop := ts.length = made.length ∧ ∀ (i : Nat) (t : Addr) (p : Str × Str), ts[i]? = some t → made[i]? = some p → H t = some (.tup [.str p.1, .str p.2])
theorem PrsAt.kp {S : List Addr} {H H' : Hp} {ts : List Addr} {made : List (Str × Str)} (h : PrsAt H ts made) (k : Kp S H H') : PrsAt H' ts made := ⟨h.1, fun i t p e1 e2 => k.tup _ _ (h.2 i t p e1 e2)⟩
def seT (p : Str × Str) : Tr := .tup [.str p.1, .str p.2]
def seaT (t0 : Str) (prs : List (Str × Str)) : Tr := .tup [.str t0, .tup (prs.map seT)]
theorem sea_co {t0 : Str} {prs : List (Str × Str)} (h3 : prs.length ≤ 20) (hk : ∀ p ∈ prs, kyS p.1 = true) (hm : ∀ p ∈ prs, prn p.2 = true ∧ p.2.length ≤ 40) (ha : asc (prs.map (·.1)) = true) : isCo (seaT t0 prs) = true := by
  show (decide ((prs.map seT).length ≤ 32) && (prs.map seT).all isSl && asc ((prs.map seT).map keyT)) = true
  rw [decide_eq_true (by rw [List.length_map]; omega), Bool.true_and, Bool.and_eq_true]
  refine ⟨List.all_eq_true.mpr fun t ht => ?_, ?_⟩
  · obtain ⟨p, hp, rfl⟩ := List.mem_map.mp ht
    show (kyS p.1 && decide (p.2.length ≤ 40)) = true
    rw [hk p hp, decide_eq_true (hm p hp).2]; rfl
  · rw [List.map_map]; exact ha
theorem opn_own {t : Tr} {n : Nat} (h : okT 8 t n) (hn : n ≤ 100000) (c : isCo t = true) : opn ⟨(txt t).toArray⟩ t := by
  refine ⟨?_, txt_prn h.1, ?_, c⟩
  · rw [TL.len_tl]; exact Nat.le_trans h.2.2 hn
  · have := pval_txt 8 t [] h.1 h.2.1
    rw [List.append_nil] at this
    exact this
/-- a key of the law: k and a digit from 1 to 9 -/
def k1 (z : Str) : Prop := ∃ n : Nat, 1 ≤ n ∧ n ≤ 9 ∧ z = ⟨#[107, 48 + n]⟩
theorem k1_ky {z : Str} (h : k1 z) : kyS z = true ∧ z.length = 2 ∧ prn z = true := by
  obtain ⟨n, a, b, rfl⟩ := h
  have : n = 1 ∨ n = 2 ∨ n = 3 ∨ n = 4 ∨ n = 5 ∨ n = 6 ∨ n = 7 ∨ n = 8 ∨ n = 9 := by omega
  rcases this with rfl | rfl | rfl | rfl | rfl | rfl | rfl | rfl | rfl <;> decide +kernel
theorem addP_mem {made : List (Str × Str)} {p q : Str × Str} : p ∈ addP made q ↔ p ∈ made ∨ p = q := by
  unfold addP
  split
  · rename_i h
    exact ⟨.inl, fun c => c.elim id fun e => e ▸ h⟩
  · rw [List.mem_append, List.mem_singleton]
theorem suC_eq (made : List (Str × Str)) (ks : List Str) (x : Str) (p : Str × Str) : suC made ks x (seT p) = (decide (p.1 ∈ ks) && (decide ((p.1, x) ∈ made) && decide (p.2 = mkS p.1 x))) := rfl
/-! the document in a sealed text that a law writes -/
theorem sea_okB {t0 : Str} {prs : List (Str × Str)} (h1 : prn t0 = true) (h2 : t0.length ≤ 1200) (h3 : prs.length ≤ 20) (hk : ∀ p ∈ prs, prn p.1 = true ∧ p.1.length ≤ 12) (hm : ∀ p ∈ prs, prn p.2 = true ∧ p.2.length ≤ 40) : okT 8 (seaT t0 prs) 5000 := by
  have a1 : ∀ t ∈ prs.map seT, okT 6 t 124 := fun t ht => by
    obtain ⟨p, hp, rfl⟩ := List.mem_map.mp ht
    have q1 : okT 5 (.str p.1) 61 := okT_str (m := 40) (hk p hp).1 (by have := (hk p hp).2; omega) (by omega)
    have q2 : okT 5 (.str p.2) 61 := okT_str (m := 40) (hm p hp).1 (hm p hp).2 (by omega)
    exact okT_tup (d := 5) (n := 61) (m := 2) (ts := [.str p.1, .str p.2]) (fun t ht => by
      rcases List.mem_cons.mp ht with rfl | ht
      · exact q1
      · rw [List.mem_singleton.mp ht]; exact q2) (by simp) (by omega)
  have a2 : okT 7 (.tup (prs.map seT)) 2482 := okT_tup (m := 20) a1 (by rw [List.length_map]; exact h3) (by omega)
  have a3 : okT 7 (.str t0) 2482 := by
    refine ⟨h1, decide_eq_true (show t0.length ≤ 10000000 by omega), ?_⟩
    have := dig_len (n := t0.length) (by omega)
    show (dig t0.length ++ 58 :: TL.tl t0).length ≤ _
    rw [List.length_append, List.length_cons, ← TL.len_tl]
    omega
  exact (okT_tup (d := 7) (n := 2482) (m := 2) (ts := [.str t0, .tup (prs.map seT)]) (fun t ht => by
    rcases List.mem_cons.mp ht with rfl | ht
    · exact a3
    · rw [List.mem_singleton.mp ht]; exact a2) (by simp) (by omega)).le (by omega)
abbrev txS (t : Tr) : Str := ⟨(txt t).toArray⟩
/-- the document in the sealed text that the law writes -/
theorem in_sealed {k : Str} {d e : PyData} {prs : List (Str × Str)} (h : Sz 8 1200 d) (h3 : prs.length ≤ 20) (hk : ∀ p ∈ prs, kyS p.1 = true ∧ p.1.length ≤ 12) (hm : ∀ p ∈ prs, prn p.2 = true ∧ p.2.length ≤ 40) (ha : asc (prs.map (·.1)) = true) :
    okT 8 (seaT (txS (trD d)) prs) 5000 ∧ opn (txS (seaT (txS (trD d)) prs)) (seaT (txS (trD d)) prs) ∧ (DocIn k (txS (seaT (txS (trD d)) prs)) e ↔ e = d ∧ isK k d = true) := by
  have sm : sml (trD d) = true := sml_of 8 _ h.1 (by have := h.2; omega)
  have px : prn (txS (trD d)) = true := txt_prn h.1
  have lx : (txS (trD d)).length ≤ 1200 := by rw [TL.len_tl]; exact h.2
  have pv : pval 8 (TL.tl (txS (trD d))) = some (trD d, []) := by
    have := pval_txt 8 (trD d) [] h.1 sm
    rw [List.append_nil] at this
    exact this
  have ok := sea_okB (t0 := txS (trD d)) (prs := prs) px lx h3 (fun p m => ⟨ky_prn (hk p m).1, (hk p m).2⟩) hm
  have co : isCo (seaT (txS (trD d)) prs) = true := sea_co h3 (fun p m => (hk p m).1) hm ha
  have op := opn_own ok (by omega) co
  refine ⟨ok, op, fun ⟨z, ss, t, o1, l1, p1, v1, et, ik⟩ => ?_, fun ⟨e1, ik⟩ => ?_⟩
  · have := opn_uni op o1
    injection this with this
    injection this with ez this
    injection ez with ez
    rw [ez, pv] at v1
    injection v1 with v1
    injection v1 with v1
    rw [← v1, dT_tr 8 d h.1] at et
    exact ⟨et, et ▸ ik⟩
  · exact ⟨_, _, _, op, by omega, px, pv, by rw [dT_tr 8 d h.1]; exact e1, e1 ▸ ik⟩
/-! sealed texts that laws write -/
/-- a sealed text of d; whoever of these has signed it, and the office makes more -/
def Sld (made : List (Str × Str)) (k S : Str) (d : PyData) (sg : List Str) : Prop := DocIn k S d ∧ ∀ made2, (∀ p ∈ made, p ∈ made2) → ∀ (t : Int) (ks mine : List Str), mine.Nodup → (∀ z ∈ mine, z ∈ sg) → (∀ z ∈ mine, z ∈ ks) → t ≤ (mine.length : Nat) → sgnF made2 S (roleD t ks) = true
theorem sub_len {α : Type} [BEq α] [LawfulBEq α] : ∀ {xs ys : List α}, xs.Nodup → (∀ z ∈ xs, z ∈ ys) → xs.length ≤ ys.length
  | [], _, _, _ => Nat.zero_le _
  | x :: xs, ys, n, h => by
    rw [List.nodup_cons] at n
    have m := h x List.mem_cons_self
    have l := List.length_erase_of_mem m
    have p := List.length_pos_of_mem m
    have := sub_len (xs := xs) (ys := ys.erase x) n.2 fun z mz => (List.mem_erase_of_ne fun (e : z = x) => n.1 (e ▸ mz)).mpr (h z (List.mem_cons_of_mem _ mz))
    rw [List.length_cons]; omega
theorem sld_of {made : List (Str × Str)} {k : Str} {d : PyData} {sg kk : List Str} (sz : Sz 8 1200 d) (ik : isK k d = true) (ha : asc kk = true) (hk : ∀ z ∈ kk, k1 z) (l : kk.length ≤ 20) (hs : ∀ z ∈ sg, z ∈ kk) (hm : ∀ z ∈ kk, (z, txS (trD d)) ∈ made) :
    okT 8 (seaT (txS (trD d)) (kk.map fun z => (z, mkS z (txS (trD d))))) 5000 ∧ Sld made k (txS (seaT (txS (trD d)) (kk.map fun z => (z, mkS z (txS (trD d)))))) d sg := by
  have IS := in_sealed (k := k) (e := d) (prs := kk.map fun z => (z, mkS z (txS (trD d)))) sz (by rw [List.length_map]; exact l) (fun p m => by
    obtain ⟨z, mz, rfl⟩ := List.mem_map.mp m
    exact ⟨(k1_ky (hk z mz)).1, by have := (k1_ky (hk z mz)).2.1; show z.length ≤ 12; omega⟩) (fun p m => by
    obtain ⟨z, mz, rfl⟩ := List.mem_map.mp m
    exact ⟨mkS_prn _ _, by show (mkS _ _).length ≤ 40; rw [mkS_len]; decide⟩) (by rw [List.map_map]; show asc (kk.map id) = true; rw [List.map_id]; exact ha)
  refine ⟨IS.1, IS.2.2.mpr ⟨rfl, ik⟩, fun made2 hsub t ks mine nd ms mk le => ?_⟩
  rw [sgnF_of IS.2.1]
  unfold sgn
  rw [decide_eq_true_eq]
  have ek : keysD (roleD t ks) = ks := by
    show ((ks.map PyData.str).map strD) = ks
    rw [List.map_map]; exact List.map_id'' (fun z => rfl) ks
  rw [ek]
  show t ≤ _
  refine Int.le_trans le (Int.ofNat_le.mpr ?_)
  unfold suN
  rw [List.countP_map, List.countP_map, List.countP_eq_length_filter]
  refine sub_len nd fun z mz => List.mem_filter.mpr ⟨hs z (ms z mz), ?_⟩
  show suC made2 ks (txS (trD d)) (seT (z, mkS z (txS (trD d)))) = true
  rw [suC_eq]
  show (decide (z ∈ ks) && (decide ((z, txS (trD d)) ∈ made2) && decide (mkS z (txS (trD d)) = mkS z (txS (trD d))))) = true
  rw [decide_eq_true (mk z mz), decide_eq_true (hsub _ (hm z (hs z (ms z mz)))), decide_eq_true rfl]; rfl
/-! documents that laws of the trusted set make, and what a set is that took them -/
def st37a (ch rs sp : PyData) (X T : Str) : Tst := ({ Tst.one ch X with rol := rs } : Tst).keep kT sp T
def st37 (ch rs sp sh : PyData) (X T F : Str) : Tst := (st37a ch rs sp X T).keep kF sh F
theorem doc_uni {k x : Str} {d e : PyData} (h : DocIn k x d) (g : DocIn k x e) : d = e := by
  obtain ⟨z, ss, t, o, _, _, v, rfl, _⟩ := h
  obtain ⟨z2, ss2, t2, o2, _, _, v2, rfl, _⟩ := g
  have := opn_uni o o2
  injection this with this
  injection this with ez this
  injection ez with ez
  rw [ez, v] at v2
  injection v2 with v2
  injection v2 with v2
  rw [v2]
theorem one_docs {d : PyData} {x : Str} : getA (Tst.one d x).docs kC = some d ∧ getA (Tst.one d x).docs kT = none ∧ getA (Tst.one d x).docs kF = none ∧ getT (Tst.one d x).txs kC = some x ∧ getT (Tst.one d x).txs kT = none ∧ getT (Tst.one d x).txs kF = none := by
  refine ⟨?_, ?_, ?_, ?_, ?_, ?_⟩ <;> simp [Tst.one, getA, getT, kd_ne.1, kd_ne.2.1]
theorem okD_eqv {n : Nat} {d : PyData} (h : okD n d = true) : PyData.eqv d d = true := SeqAt.eqv_refl d (ok_lay n d h).1
theorem st37a_at (ch rs sp : PyData) (X T : Str) : getA (st37a ch rs sp X T).docs kC = some ch ∧ getA (st37a ch rs sp X T).docs kT = some sp ∧ getA (st37a ch rs sp X T).docs kF = none ∧ getT (st37a ch rs sp X T).txs kT = some T ∧ getT (st37a ch rs sp X T).txs kF = none := by
  obtain ⟨n1, n2, n3, n4, n5, n6⟩ := kd_ne
  obtain ⟨g1, g2, g3, g4, g5, g6⟩ := one_docs (d := ch) (x := X)
  refine ⟨?_, ?_, ?_, ?_, ?_⟩
  · show getA (putA (Tst.one ch X).docs kT sp) kC = _
    rw [getA_put, if_neg n1, g1]
  · show getA (putA (Tst.one ch X).docs kT sp) kT = _
    rw [getA_put, if_pos rfl]
  · show getA (putA (Tst.one ch X).docs kT sp) kF = _
    rw [getA_put, if_neg n4.symm, g3]
  · show getT (putT (Tst.one ch X).txs kT T) kT = _
    rw [getT_put, if_pos rfl]
  · show getT (putT (Tst.one ch X).txs kT T) kF = _
    rw [getT_put, if_neg n4.symm, g6]
theorem st37_at (ch rs sp sh : PyData) (X T F : Str) : getA (st37 ch rs sp sh X T F).docs kC = some ch ∧ getA (st37 ch rs sp sh X T F).docs kT = some sp ∧ getA (st37 ch rs sp sh X T F).docs kF = some sh ∧ getT (st37 ch rs sp sh X T F).txs kT = some T ∧ getT (st37 ch rs sp sh X T F).txs kF = some F := by
  obtain ⟨n1, n2, n3, n4, n5, n6⟩ := kd_ne
  obtain ⟨g1, g2, g3, g4, g5⟩ := st37a_at ch rs sp X T
  refine ⟨?_, ?_, ?_, ?_, ?_⟩
  · show getA (putA (st37a ch rs sp X T).docs kF sh) kC = _
    rw [getA_put, if_neg n2, g1]
  · show getA (putA (st37a ch rs sp X T).docs kF sh) kT = _
    rw [getA_put, if_neg n4, g2]
  · show getA (putA (st37a ch rs sp X T).docs kF sh) kF = _
    rw [getA_put, if_pos rfl]
  · show getT (putT (st37a ch rs sp X T).txs kF F) kT = _
    rw [getT_put, if_neg n4, g4]
  · show getT (putT (st37a ch rs sp X T).txs kF F) kF = _
    rw [getT_put, if_pos rfl]
def pgD (v e : Int) : PyData := .tuple [.str kL, .str (Str.ofString "list"), .int v, .int e, .tuple [], .tuple []]
def shD (v e pv : Int) (T : Str) : PyData := .tuple [.str kF, .int v, .int e, .tuple [.tuple [.str (Str.ofString "list"), .int pv, .int (T.length : Nat), .str (dgs T)]]]
def tmD (v e sv : Int) (F : Str) : PyData := .tuple [.str kT, .int v, .int e, .tuple [.int sv, .int (F.length : Nat), .str (dgs F)]]
theorem dgs_prn (x : Str) : prn (dgs x) = true := by
  unfold prn
  rw [List.all_eq_true]
  intro c hc
  have := hx18_in _ c (by simpa [dgs] using hc)
  exact (show ∀ c ∈ hxs, prc c = true by decide) c this
theorem sz_pg {v e : Int} (v0 : 1 ≤ v) (v1 : v ≤ 999999999999) (e0 : 0 ≤ e) (e1 : e ≤ 1000000000000) : Sz 8 1200 (pgD v e) :=
  sz_mono (sz_tup (szs_cons (sz_str (n := 7) (m := 4) (by decide +kernel) (by decide +kernel) (by decide)) (szs_cons (sz_str (m := 4) (by decide +kernel) (by decide +kernel) (by decide)) (szs_cons (sz_int (by omega) (by omega)) (szs_cons (sz_int e0 e1) (szs_cons (sz_mono (sz_tup (n := 6) szs_nil) (by decide) (Nat.le_refl _)) (szs_cons (sz_mono (sz_tup (n := 6) szs_nil) (by decide) (Nat.le_refl _)) szs_nil))))))) (by decide) (by decide)
theorem sz_sh {v e pv : Int} {T : Str} (v0 : 1 ≤ v) (v1 : v ≤ 999999999999) (e0 : 0 ≤ e) (e1 : e ≤ 1000000000000) (p0 : 1 ≤ pv) (p1 : pv ≤ 999999999999) (l : T.length ≤ 100000) : Sz 8 1200 (shD v e pv T) := by
  have row : Sz 6 70 (.tuple [.str (Str.ofString "list"), .int pv, .int (T.length : Nat), .str (dgs T)]) := sz_mono (sz_tup (szs_cons (sz_str (n := 5) (m := 4) (by decide +kernel) (by decide +kernel) (by decide)) (szs_cons (sz_int (by omega) (by omega)) (szs_cons (sz_int (by omega) (by omega)) (szs_cons (sz_str (m := 18) (dgs_prn T) (by rw [dgs_len]; decide) (by decide)) szs_nil))))) (by decide) (by decide)
  exact sz_mono (sz_tup (szs_cons (sz_str (n := 7) (m := 5) (by decide +kernel) (by decide +kernel) (by decide)) (szs_cons (sz_int (by omega) (by omega)) (szs_cons (sz_int e0 e1) (szs_cons (sz_tup (szs_cons row szs_nil)) szs_nil))))) (by decide) (by decide)
theorem sz_tm {v e sv : Int} {F : Str} (v0 : 1 ≤ v) (v1 : v ≤ 999999999999) (e0 : 0 ≤ e) (e1 : e ≤ 1000000000000) (p0 : 1 ≤ sv) (p1 : sv ≤ 999999999999) (l : F.length ≤ 100000) : Sz 8 1200 (tmD v e sv F) := by
  have row : Sz 7 70 (.tuple [.int sv, .int (F.length : Nat), .str (dgs F)]) := sz_mono (sz_tup (szs_cons (sz_int (n := 6) (by omega) (by omega)) (szs_cons (sz_int (by omega) (by omega)) (szs_cons (sz_str (m := 18) (dgs_prn F) (by rw [dgs_len]; decide) (by decide)) szs_nil)))) (by decide) (by decide)
  exact sz_mono (sz_tup (szs_cons (sz_str (n := 7) (m := 5) (by decide +kernel) (by decide +kernel) (by decide)) (szs_cons (sz_int (by omega) (by omega)) (szs_cons (sz_int e0 e1) (szs_cons row szs_nil))))) (by decide) (by decide)
theorem dgs_dig (x : Str) : isDig (.str (dgs x)) = true := by
  show (decide ((dgs x).length = 18) && inT hexM (dgs x)) = true
  rw [decide_eq_true (dgs_len x), Bool.true_and]
  unfold inT
  rw [List.all_eq_true]
  intro c hc
  have := hx18_in _ c (by simpa [dgs] using hc)
  exact (show ∀ c ∈ hxs, decide (c ∈ hexM.cps.toList) = true by decide +kernel) c this
theorem en_of {v : Int} {x : Str} (v0 : 1 ≤ v) (v1 : v ≤ 999999999999) (l : x.length ≤ 100000) : isEntry (.tuple [.int v, .int (x.length : Nat), .str (dgs x)]) = true := by
  show (true && ((decide (1 ≤ v) && decide (v ≤ 1000000000000)) && ((decide (0 ≤ ((x.length : Nat) : Int)) && decide (((x.length : Nat) : Int) ≤ 1000000000000)) && isDig (.str (dgs x))))) = true
  rw [dgs_dig, decide_eq_true v0, decide_eq_true (p := v ≤ 1000000000000) (by omega), decide_eq_true (p := 0 ≤ ((x.length : Nat) : Int)) (by omega), decide_eq_true (p := ((x.length : Nat) : Int) ≤ 1000000000000) (by omega)]
  rfl
theorem is_tm {v e sv : Int} {F : Str} (v0 : 1 ≤ v) (v1 : v ≤ 999999999999) (e0 : 0 ≤ e) (e1 : e ≤ 1000000000000) (p0 : 1 ≤ sv) (p1 : sv ≤ 999999999999) (l : F.length ≤ 100000) : isStamp (tmD v e sv F) = true := by
  unfold isStamp tmD
  rw [head_self kT _ (n := 4) rfl]
  show (true && ((decide (1 ≤ v) && decide (v ≤ 1000000000000)) && ((decide (0 ≤ e) && decide (e ≤ 1000000000000)) && isEntry (.tuple [.int sv, .int (F.length : Nat), .str (dgs F)])))) = true
  rw [en_of p0 p1 l, decide_eq_true v0, decide_eq_true e0, decide_eq_true e1, decide_eq_true (p := v ≤ 1000000000000) (by omega)]
  rfl
theorem is_sh {v e pv : Int} {T : Str} (v0 : 1 ≤ v) (v1 : v ≤ 999999999999) (e0 : 0 ≤ e) (e1 : e ≤ 1000000000000) (p0 : 1 ≤ pv) (p1 : pv ≤ 999999999999) (l : T.length ≤ 100000) : isShelf (shD v e pv T) = true := by
  unfold isShelf shD
  rw [head_self kF _ (n := 4) rfl]
  show (true && ((decide (1 ≤ v) && decide (v ≤ 1000000000000)) && ((decide (0 ≤ e) && decide (e ≤ 1000000000000)) && (true && ((isNE (.tuple [.str (Str.ofString "list"), .int pv, .int (T.length : Nat), .str (dgs T)]) && true) && (asc [Str.ofString "list"] && decide (Str.ofString "list" ∈ [Str.ofString "list"]))))))) = true
  have ne : isNE (.tuple [.str (Str.ofString "list"), .int pv, .int (T.length : Nat), .str (dgs T)]) = true := by
    show (true && (lnD (.str (Str.ofString "list")) && isEntry (.tuple [.int pv, .int (T.length : Nat), .str (dgs T)]))) = true
    rw [en_of p0 p1 l, show lnD (.str (Str.ofString "list")) = true by decide +kernel]; rfl
  rw [ne, decide_eq_true v0, decide_eq_true e0, decide_eq_true e1, decide_eq_true (p := v ≤ 1000000000000) (by omega), decide_eq_true (p := Str.ofString "list" ∈ [Str.ofString "list"]) (by simp)]
  rfl
theorem is_pg {v e : Int} (v0 : 1 ≤ v) (v1 : v ≤ 999999999999) (e0 : 0 ≤ e) (e1 : e ≤ 1000000000000) : isList (pgD v e) = true := by
  unfold isList pgD
  rw [head_self kL _ (n := 6) rfl]
  show (true && (lnD (.str (Str.ofString "list")) && ((decide (1 ≤ v) && decide (v ≤ 1000000000000)) && ((decide (0 ≤ e) && decide (e ≤ 1000000000000)) && (isGoods (.tuple []) && (true && (true && decide ([Str.ofString "list"].Nodup)))))))) = true
  rw [show lnD (.str (Str.ofString "list")) = true by decide +kernel, show isGoods (.tuple []) = true by decide +kernel, decide_eq_true v0, decide_eq_true e0, decide_eq_true e1, decide_eq_true (p := v ≤ 1000000000000) (by omega), decide_eq_true (p := [Str.ofString "list"].Nodup) (by simp)]
  rfl
theorem accSt_one {made : List (Str × Str)} {ch sp : PyData} {X Z : Str} (D : DocIn kT Z sp) (S : sgnF made Z (rlD (Tst.one ch X).ch 1) = true) : accSt made (Tst.one ch X) (.str Z) = .ok (sp, st37a ch (Tst.one ch X).pres sp X Z) := by
  have ou : (Tst.one ch X).outd = false := by unfold Tst.outd; rw [one_docs.2.1]; rfl
  have u : usb (Tst.one ch X) (.str Z) = none := by
    show (if (Tst.one ch X).outd = true then some (Str.ofString "role") else none) = none
    rw [ou, if_neg (by decide)]
  unfold accSt
  rw [u, docV_of D]
  show (if sgnF made Z (rlD (Tst.one ch X).ch 1) = false then _ else _) = _
  rw [S, if_neg (by decide), one_docs.2.1]
  rfl
theorem st37a_out {ch rs sp : PyData} {X T : Str} (e : rs = .tuple [rlD ch 1, rlD ch 2]) (o : okD 13 rs = true) : (st37a ch rs sp X T).outd = false := by
  unfold Tst.outd
  have hc : (st37a ch rs sp X T).ch = ch := by
    show (getA (st37a ch rs sp X T).docs kC).getD PyData.none = _
    rw [(st37a_at ch rs sp X T).1]; rfl
  have : (st37a ch rs sp X T).pres = rs := by unfold Tst.pres; rw [hc, e]
  rw [this]
  show (_ && !PyData.eqv rs rs) = false
  rw [okD_eqv o, Bool.not_true, Bool.and_false]
theorem sum_ok (F : Str) (v : Int) : sumB F (.tuple [.int v, .int (F.length : Nat), .str (dgs F)]) = none := by
  unfold sumB
  rw [if_neg (fun h => h rfl), if_neg (fun h => h rfl)]
theorem accSh_st {made : List (Str × Str)} {ch rs : PyData} {tv te fv fe pv : Int} {X Z T F : Str} (D : DocIn kF F (shD fv fe pv T)) (S : sgnF made F (rlD ch 2) = true) (e : rs = .tuple [rlD ch 1, rlD ch 2]) (o : okD 13 rs = true) :
    accSh made (st37a ch rs (tmD tv te fv F) X Z) (.str F) = .ok (shD fv fe pv T, st37 ch rs (tmD tv te fv F) (shD fv fe pv T) X Z F) := by
  obtain ⟨g1, g2, g3, g4, g5⟩ := st37a_at ch rs (tmD tv te fv F) X Z
  have hc : (st37a ch rs (tmD tv te fv F) X Z).ch = ch := by
    show (getA (st37a ch rs (tmD tv te fv F) X Z).docs kC).getD PyData.none = _
    rw [g1]; rfl
  have u : usb (st37a ch rs (tmD tv te fv F) X Z) (.str F) = none := by
    show (if (st37a ch rs (tmD tv te fv F) X Z).outd = true then some (Str.ofString "role") else none) = none
    rw [st37a_out e o, if_neg (by decide)]
  unfold accSh
  rw [u, g2]
  show accS2 made _ _ F = _
  unfold accS2
  rw [show ixD (tmD tv te fv F) 3 = .tuple [.int fv, .int (F.length : Nat), .str (dgs F)] from rfl, sum_ok, docV_of D]
  show accS3 made _ _ F _ = _
  unfold accS3
  rw [hc, S, if_neg (by decide), if_neg (fun h => h rfl)]
  unfold accS4
  rw [g3]
  rfl
theorem sgnF_iff {made : List (Str × Str)} {x : Str} {r : PyData} : sgnF made x r = true ↔ Sgn made x r := by
  constructor
  · intro h
    unfold sgnF at h
    cases e : opnF x with
    | none => rw [e] at h; cases h
    | some p =>
      obtain ⟨z, ss⟩ := p
      rw [e] at h
      exact ⟨z, ss, opnF_iff.mp e, h⟩
  · rintro ⟨z, ss, a, b⟩
    rw [sgnF_of a]; exact b
/-! law k34: what its helpers do -/
abbrev s_law_cell : Stmt := top 94
abbrev N_law_cell : List Str := ["script", "k"]
theorem sc_law_cell : FnScope N_law_cell ["script", "k"] (defScope s_law_cell) := ⟨rfl, rfl, rfl, by decide +kernel, rfl, by decide +kernel, by decide +kernel⟩
abbrev s_law_refused : Stmt := top 96
abbrev N_law_refused : List Str := ["trusted", "what", "value", "e"]
theorem sc_law_refused : FnScope N_law_refused ["trusted", "what", "value"] (defScope s_law_refused) := ⟨rfl, rfl, rfl, by decide +kernel, rfl, by decide +kernel, by decide +kernel⟩
abbrev s_law_offer : Stmt := top 97
abbrev N_law_offer : List Str := ["trusted", "what", "sealed", "e"]
theorem sc_law_offer : FnScope N_law_offer ["trusted", "what", "sealed"] (defScope s_law_offer) := ⟨rfl, rfl, rfl, by decide +kernel, rfl, by decide +kernel, by decide +kernel⟩
abbrev s_law_told : Stmt := top 98
abbrev N_law_told : List Str := ["trusted", "rows"]
theorem sc_law_told : FnScope N_law_told ["trusted"] (defScope s_law_told) := ⟨rfl, rfl, rfl, by decide +kernel, rfl, by decide +kernel, by decide +kernel⟩
abbrev s_law_shelf : Stmt := top 99
abbrev N_law_shelf : List Str := ["office", "version", "list_version", "text", "document"]
theorem sc_law_shelf : FnScope N_law_shelf ["office", "version", "list_version"] (defScope s_law_shelf) := ⟨rfl, rfl, rfl, by decide +kernel, rfl, by decide +kernel, by decide +kernel⟩
abbrev s_law_stamp : Stmt := top 100
abbrev N_law_stamp : List Str := ["office", "version", "shelf_version", "sealed", "key"]
theorem sc_law_stamp : FnScope N_law_stamp ["office", "version", "shelf_version", "sealed", "key"] (defScope s_law_stamp) := ⟨rfl, rfl, rfl, by decide +kernel, rfl, by decide +kernel, by decide +kernel⟩
def spCellA (K : PySem.W.Frag) : Sp := fun vs H Q _ => ∃ (a : Addr) (ns : List Int) (k : Nat), vs = [.ref a, .int k] ∧ SqL K H a (ns.map V.int) ∧ ns.length ≤ 63 ∧ ∀ i : Int, 0 ≤ i → Q (.int i) H
def resD : Except Str (PyData × Tst) → PyData
  | .ok (d, _) => d
  | .error z => .str z
def resS (s : Tst) : Except Str (PyData × Tst) → Tst
  | .ok (_, s') => s'
  | .error _ => s
def role4 : PyData := .tuple [.int 1, .tuple [.str (Str.ofString "k4")]]
/-- what an offer comes to -/
def offF (made : List (Str × Str)) (s : Tst) (i : Int) (v : V) : Except Str (PyData × Tst) := if i = 0 then accCh made s v else if i = 1 then accSt made s v else if i = 2 then accSh made s v else accLs made s (Str.ofString "list") v role4
def rs34 : PyData := .tuple [.tuple [.int 1, .tuple [.str (Str.ofString "k2")]], .tuple [.int 1, .tuple [.str (Str.ofString "k3")]]]
def spRefd34 (C : Addr) (Ts : List Addr) : Sp := fun vs H Q _ => ∃ (o dd ds dl off : Addr) (s : Tst) (what z : Str) (v : V), vs = [.ref o, .str what, v] ∧ Trs C o dd ds dl off s H ∧ s.Sm ∧ (∀ G, ∃ t, tyN G v = some t) ∧ (∀ z, v = .str z → z.length ≤ 10000000) ∧ Tabs Ts H ∧
  (if what = Str.ofString "stamp" then resSt s v rs34 else resSh s v) = .error z ∧ ∀ H', Kp Ts H H' → Tabs Ts H' → Q (.str z) H'
def spOff34 (C CO : Addr) (Ts : List Addr) : Sp := fun vs H Q _ => ∃ (o dd ds dl off dm : Addr) (s : Tst) (made : List (Str × Str)) (i : Int) (x : Str), vs = [.ref o, .int i, .str x] ∧ Trs C o dd ds dl off s H ∧ s.Sm ∧ Ofc CO off dm made H ∧ x.length ≤ 10000000 ∧ Tabs Ts H ∧
  ∀ (u : V) (dl' : Addr) (H' : Hp), Kp (o :: dd :: ds :: dl :: Ts) H H' → Tabs Ts H' → (dl' = dl ∨ H dl' = none) → Trs C o dd ds dl' off (resS s (offF made s i (.str x))) H' → Rq H' u (resD (offF made s i (.str x))) → Q u H'
def optZD : Option Str → PyData
  | none => .none
  | some t => .str t
def toldD (s : Tst) : List PyData := [(getA s.docs kC).getD .none, (getA s.docs kT).getD .none, (getA s.docs kF).getD .none, s.rol, .bool s.outd, .bool s.curr, lstAt s (Str.ofString "list") 0, lstAt s (Str.ofString "list") 1, optZD (getT s.txs kT), optZD (getT s.txs kF)]
def spTold34 (C : Addr) : Sp := fun vs H Q _ => ∃ (o dd ds dl off : Addr) (s : Tst), vs = [.ref o] ∧ Trs C o dd ds dl off s H ∧ ∀ (u : V) (H' : Hp), Kp [] H H' → Rq H' u (.list (toldD s)) → Q u H'
def spShelf34 (C : Addr) (Ts : List Addr) : Sp := fun vs H Q _ => ∃ (o dm : Addr) (v lv : Int) (made : List (Str × Str)), vs = [.ref o, .int v, .int lv] ∧ Ofc C o dm made H ∧ made.length ≤ 800 ∧ 1 ≤ v ∧ v ≤ 1000 ∧ 1 ≤ lv ∧ lv ≤ 1000 ∧ Tabs Ts H ∧
  ∀ (p : Addr) (S T : Str) (made' : List (Str × Str)) (H' : Hp), H' p = some (.tup [.str S, .str T]) → Sld made' kF S (shD v 7 lv T) [Str.ofString "k3"] → Sld made' kL T (pgD lv 5) [Str.ofString "k4"] → S.length ≤ 100000 → T.length ≤ 100000 → (∀ p ∈ made, p ∈ made') → made'.length ≤ made.length + 2 → Ofc C o dm made' H' → Kp (dm :: Ts) H H' → Tabs Ts H' → Q (.ref p) H'
def spStamp34 (C : Addr) (Ts : List Addr) : Sp := fun vs H Q _ => ∃ (o dm : Addr) (v sv : Int) (F k : Str) (made : List (Str × Str)), vs = [.ref o, .int v, .int sv, .str F, .str k] ∧ Ofc C o dm made H ∧ made.length ≤ 800 ∧ 1 ≤ v ∧ v ≤ 1000 ∧ 1 ≤ sv ∧ sv ≤ 1000 ∧ F.length ≤ 100000 ∧ k1 k ∧ Tabs Ts H ∧
  ∀ (S : Str) (made' : List (Str × Str)) (H' : Hp), Sld made' kT S (tmD v 8 sv F) [k] → S.length ≤ 100000 → (∀ p ∈ made, p ∈ made') → made'.length ≤ made.length + 1 → Ofc C o dm made' H' → Kp (dm :: Ts) H H' → Tabs Ts H' → Q (.str S) H'
theorem k1_3 : k1 (Str.ofString "k3") := ⟨3, by decide, by decide, by decide +kernel⟩
theorem k1_4 : k1 (Str.ofString "k4") := ⟨4, by decide, by decide, by decide +kernel⟩
theorem okD_sz {d : PyData} (h : Sz 8 1200 d) : okD 12 d = true := by
  have := ok_mono 8 12 _ (by decide) (ok_dT 8 (trD d) h.1 (by have := h.2; omega))
  rw [dT_tr 8 d h.1] at this
  exact this
theorem sld_mono {m m2 : List (Str × Str)} {k S : Str} {d : PyData} {sg : List Str} (h : Sld m k S d sg) (s : ∀ p ∈ m, p ∈ m2) : Sld m2 k S d sg := ⟨h.1, fun m3 h3 => h.2 m3 fun p hp => h3 p (s p hp)⟩
theorem RqA.kp0A {H H' : Hp} (k : Kp [] H H') : ∀ {vs : List V} {ds : List PyData}, RqA H vs ds → RqA H' vs ds
  | _, _, .nil => .nil
  | _, _, .cons a r => .cons (a.kp0 k) (r.kp0A k)
/-- a call of seal with one key -/
theorem seal_one {K : PySem.W.Frag} {CO CK CT o dm l : Addr} {Ts : List Addr} {made : List (Str × Str)} {H : Hp} {Q : VK} {E : XK} {k key : Str} {d : PyData} (O : Ofc CO o dm made H) (lm : made.length ≤ 900) (el : H l = some (.lst [.str key])) (hk : k1 key) (ik : isK k d = true) (sz : Sz 8 1200 d) (G : Tabs Ts H)
    (q : ∀ (S : Str) (made' : List (Str × Str)) (H' : Hp), Sld made' k S d [key] → S.length ≤ 100000 → (∀ p ∈ made, p ∈ made') → made'.length ≤ made.length + 1 → Ofc CO o dm made' H' → Kp (dm :: Ts) H H' → Tabs Ts H' → Q (.str S) H') : spSeal2 CO CK CT K Ts [.ref o, .str (tx d), .ref l] H Q E := by
  have lx : (tx d).length ≤ 1200 := by unfold tx; rw [S_len]; exact sz.2
  refine seal_at (ls := [key]) O lm el (by show 1 ≤ 1000; decide) (fun z m => by rw [List.mem_singleton.mp m]; exact (k1_ky hk).1) (txt_prn sz.1) (by omega) G fun ys ha m => ?_
  have ey : ys = [key] := asc_eq ha rfl m
  subst ey
  have ml := madeA_len made (tx d) [key]
  have em : madeA made (tx d) [key] = addP made (key, tx d) := rfl
  obtain ⟨ok, sld⟩ := sld_of (made := madeA made (tx d) [key]) (k := k) (d := d) (sg := [key]) (kk := [key]) sz ik rfl (fun z m => by rw [List.mem_singleton.mp m]; exact hk) (by show 1 ≤ 20; decide) (fun z m => m) (fun z m => by rw [List.mem_singleton.mp m, em]; exact addP_mem.mpr (.inr rfl))
  have sm : (txt (sealT (tx d) [key])).length ≤ 5000 := ok.2.2
  refine ⟨by show 1 ≤ 32; decide, fun big => absurd big (by omega), fun _ H' kk g O' => q _ _ H' sld (by rw [TL.len_tl]; exact Nat.le_trans sm (by decide)) (fun p m => by rw [em]; exact addP_mem.mpr (.inl m)) ml O' kk g⟩
section
variable {P : Program} {w : World} {K : PySem.W.Frag} {mg : Str → Option Value} {base : Heap} {f : Addr} {fd : FuncData} {C CO CK CT CB CD CR : Addr} {Ts : List Addr}
theorem ok_cellA (F : Fun K "_law_cell" "_law_cell" s_law_cell f fd) (B : Blt mg) (habs : mg "abs" = none) : FnOk P w K mg base CX0 1 f fd ["script", "k"] (spCellA K) := by
  refine F.ok sc_law_cell (fun vs H Q E h => ?_) (fun cdv A outer s H vs Q E hr h => ?_)
  · obtain ⟨a, ns, k, rfl, _⟩ := h; rfl
  obtain ⟨a, ns, k, rfl, hS, hl, q⟩ := h
  refine ⟨_, (pss_cons (ps_if (pt_cmpR op_lt (pv 1) (B.len_q (pa_cons (pv 0) pa_nil)) (nomark _)) (pss_one (ps_ret (pe_callB call_abs rfl habs (by decide +kernel) (pa_cons (B.int_i (pa_cons (pe_ix ix_list (pv 0) (pv 1) (fun _ _ => rfl)) pa_nil)) pa_nil)))) pss_nil)
    (pss_one (ps_ret pe_int))), ?_⟩
  walk_at "wq"
  have l2 : (ns.map V.int).length = ns.length := List.length_map ..
  refine ⟨_, .inl hS, ite_dec (fun c => ?_) fun c => q 0 (by decide)⟩
  have kl : k < ns.length := by omega
  have hx : (ns.map V.int)[k]? = some (.int ns[k]) := by rw [List.getElem?_map, List.getElem?_eq_getElem kl]; rfl
  exact ⟨a, _, (k : Int), V.int ns[k], rfl, rfl, hS, atI_nat hx, _, rfl, q _ (by split <;> omega)⟩
theorem ok_lrefd34 (F : Fun K "_law_refused" "_law_refused" s_law_refused f fd) (B : Blt mg) (T : EsC P w K mg base CB CD CR) (m_Trusted_restore_stamp : CalM P w K mg base (CXG P w) 26 C "restore_stamp" (spRst C CR Ts)) (m_Trusted_restore_shelf : CalM P w K mg base (CXG P w) 26 C "restore_shelf" (spRsh C CR Ts)) :
    FnOk P w K mg base CX0 28 f fd ["trusted", "what", "value"] (spRefd34 C Ts) := by
  refine F.ok sc_law_refused (fun vs H Q E h => ?_) (fun cdv A outer s H vs Q E hr h => ?_)
  · obtain ⟨o, dd, ds, dl, off, st, what, z, v, rfl, _⟩ := h; rfl
  obtain ⟨o, dd, ds, dl, off, st, what, z, v, rfl, hT, hm, hty, hz, hG, res, q⟩ := h
  refine ⟨_, (pss_cons (ps_try_G (i := 3) (n := "e") (out := fun _ _ _ _ => False) rfl rfl sc_law_refused.nd rfl rfl (fun hd => PySem.PassesOwnAt.never) takes0G (fun V held ex tk _ => by_given (pss_one (ps_if (pt_cmpR op_eq (pv 1) pe_str (nomark _)) (pss_one (ps_expr (m_Trusted_restore_stamp.peG hr tk (pv 0) (pa_cons (pv 2) (pa_cons (pe_tup (pa_cons (pe_tup (pa_cons pe_int (pa_cons (pe_tup (pa_cons pe_str pa_nil)) pa_nil))) (pa_cons (pe_tup (pa_cons pe_int (pa_cons (pe_tup (pa_cons pe_str pa_nil)) pa_nil))) pa_nil))) pa_nil))))) (pss_one (ps_expr (m_Trusted_restore_shelf.peG hr tk (pv 0) (pa_cons (pv 2) pa_nil)))))) rfl) (.one (k := (_, _)) (.one ⟨rfl, by decide, .inl T.Refused.g⟩) (fun a oe cls d pn hz hf hot => (by_given (pss_one (ps_ret (pe_xf T.Refused.xf T.Refused.n hz hf (pv 3)))) rfl)) .none))
    (pss_one (ps_ret pe_str))), ?_⟩
  walk_at "wq"
  obtain ⟨dx, rv, ho, _⟩ := hT.ob
  have lim : sizeLine = 16777216 := sizeLine_eq
  refine ite_dec (fun c => ?_) fun c => ?_
  · rw [if_pos c] at res
    refine ⟨dx, _, ho, rfl, by omega, fun p1 h1 => ⟨by omega, fun p2 h2 => ⟨by omega, fun p3 h3 => ⟨by omega, fun p4 h4 => ⟨by omega, fun p5 h5 => ?_⟩⟩⟩⟩⟩
    have a1 := Kp.new (S := []) h1 (.tup [V.str (Str.ofString "k2")])
    have a2 := Kp.new (S := []) h2 (.tup [V.int 1, V.ref p1])
    have a3 := Kp.new (S := []) h3 (.tup [V.str (Str.ofString "k3")])
    have a4 := Kp.new (S := []) h4 (.tup [V.int 1, V.ref p3])
    have a5 := Kp.new (S := []) h5 (.tup [V.ref p2, V.ref p4])
    have aa := a1.trans (a2.trans (a3.trans (a4.trans a5)))
    refine ⟨o, dd, ds, dl, off, st, v, .ref p5, rs34, rfl, hT.kp0 aa, hm, hty _, hz, .tup upd_same (.cons (.tup ((a3.trans (a4.trans a5)).tup _ _ upd_same) (.cons (.int _) (.cons (.tup ((a2.trans (a3.trans (a4.trans a5))).tup _ _ upd_same) (.cons (.str _) .nil)) .nil))) (.cons (.tup (a5.tup _ _ upd_same) (.cons (.int _) (.cons (.tup ((a4.trans a5).tup _ _ upd_same) (.cons (.str _) .nil)) .nil))) .nil)), by decide +kernel, by decide +kernel, hG.kp0 aa, ?_⟩
    rw [res]
    exact fun e H' k g he hx => ⟨true, exm1 T.Refused.em, if_yes rfl fun a hae => ⟨_, rfl, rfl, rfl, e, rfl, _, hx, .str z, rfl, q H' (aa.in0.trans k) g⟩⟩
  · rw [if_neg c] at res
    refine ⟨dx, _, ho, rfl, o, dd, ds, dl, off, st, v, rfl, hT, hm, hty _, hz, hG, ?_⟩
    rw [res]
    exact fun e H' k g he hx => ⟨true, exm1 T.Refused.em, if_yes rfl fun a hae => ⟨_, rfl, rfl, rfl, e, rfl, _, hx, .str z, rfl, q H' k g⟩⟩
theorem ok_loff34 (F : Fun K "_law_offer" "_law_offer" s_law_offer f fd) (B : Blt mg) (T : EsC P w K mg base CB CD CR) (m_Trusted_accept_charter : CalM P w K mg base (CXG P w) 27 C "accept_charter" (spAcc accCh C CO CR Ts)) (m_Trusted_accept_stamp : CalM P w K mg base (CXG P w) 27 C "accept_stamp" (spAcc accSt C CO CR Ts)) (m_Trusted_accept_shelf : CalM P w K mg base (CXG P w) 27 C "accept_shelf" (spAcc accSh C CO CR Ts)) (m_Trusted_accept_list : CalM P w K mg base (CXG P w) 27 C "accept_list" (spAccL C CO CR Ts)) :
    FnOk P w K mg base CX0 29 f fd ["trusted", "what", "sealed"] (spOff34 C CO Ts) := by
  refine F.ok sc_law_offer (fun vs H Q E h => ?_) (fun cdv A outer s H vs Q E hr h => ?_)
  · obtain ⟨o, dd, ds, dl, off, dm, st, made, i, x, rfl, _⟩ := h; rfl
  obtain ⟨o, dd, ds, dl, off, dm, st, made, i, x, rfl, hT, hm, hO, lx, hG, q⟩ := h
  refine ⟨_, (pss_one (ps_try_G (i := 3) (n := "e") (out := fun _ _ _ _ => False) rfl rfl sc_law_offer.nd rfl rfl (fun hd => PySem.PassesOwnAt.never) takes0G (fun V held ex tk _ => by_given (pss_cons (ps_if (pt_cmpR op_eq (pv 1) pe_int (nomark _)) (pss_one (ps_ret (m_Trusted_accept_charter.peG hr tk (pv 0) (pa_cons (pv 2) pa_nil)))) pss_nil)
    (pss_cons (ps_if (pt_cmpR op_eq (pv 1) pe_int (nomark _)) (pss_one (ps_ret (m_Trusted_accept_stamp.peG hr tk (pv 0) (pa_cons (pv 2) pa_nil)))) pss_nil)
    (pss_cons (ps_if (pt_cmpR op_eq (pv 1) pe_int (nomark _)) (pss_one (ps_ret (m_Trusted_accept_shelf.peG hr tk (pv 0) (pa_cons (pv 2) pa_nil)))) pss_nil)
    (pss_one (ps_ret (m_Trusted_accept_list.peG hr tk (pv 0) (pa_cons pe_str (pa_cons (pv 2) (pa_cons (pe_tup (pa_cons pe_int (pa_cons (pe_tup (pa_cons pe_str pa_nil)) pa_nil))) pa_nil))))))))) rfl) (.one (k := (_, _)) (.one ⟨rfl, by decide, .inl T.Refused.g⟩) (fun a oe cls d pn hz hf hot => (by_given (pss_one (ps_ret (pe_xf T.Refused.xf T.Refused.n hz hf (pv 3)))) rfl)) .none))), ?_⟩
  walk_at "wq"
  obtain ⟨dx, rv, ho, _⟩ := hT.ob
  have lim : sizeLine = 16777216 := sizeLine_eq
  have sub : ∀ b ∈ Ts, b ∈ o :: dd :: ds :: dl :: Ts := fun b m => List.mem_cons_of_mem _ (List.mem_cons_of_mem _ (List.mem_cons_of_mem _ (List.mem_cons_of_mem _ m)))
  have key : ∀ (E' : XK) (H2 : Hp), Kp [] H H2 → (∀ e H' z, H' e = some (xdR z) → Q (.str z) H' → E' (.ref CR) (some e) H') → ∀ r, offF made st i (.str x) = r → spRes C CR Ts o dd ds dl off st H2 Q E' r := fun E' H2 K2 hE r hr => by
    have gone : ∀ {b : Addr}, H2 b = none → H b = none := fun h => K2.gone1 (fun b m => absurd m List.not_mem_nil) h
    cases r with
    | ok p =>
      obtain ⟨d, s'⟩ := p
      exact fun u dl' H' k g hd T R => q u dl' H' (K2.in0.trans k) g (hd.imp id gone) (by rw [hr]; exact T) (by rw [hr]; exact R)
    | error z =>
      exact fun e H' k g he hx => hE e H' z hx (q (.str z) dl H' (K2.in0.trans (k.mono sub)) g (.inl rfl) (by rw [hr]; exact (hT.kp0 K2).tabs k (hG.kp0 K2)) (by rw [hr]; exact .str z))
  refine ite_dec (fun c => ?_) fun c => ite_dec (fun c2 => ?_) fun c2 => ite_dec (fun c3 => ?_) fun c3 => ?_
  · exact ⟨dx, _, ho, rfl, o, dd, ds, dl, off, dm, st, made, .str x, rfl, hT, hm, hO, ⟨_, rfl⟩, fun z e => (by cases e; exact lx), hG, key _ H (Kp.refl _ _) (fun e H' z hx hq => ⟨true, exm1 T.Refused.em, if_yes rfl fun a hae => ⟨_, rfl, rfl, rfl, e, rfl, _, hx, .str z, rfl, hq⟩⟩) _ (by unfold offF; rw [if_pos c])⟩
  · exact ⟨dx, _, ho, rfl, o, dd, ds, dl, off, dm, st, made, .str x, rfl, hT, hm, hO, ⟨_, rfl⟩, fun z e => (by cases e; exact lx), hG, key _ H (Kp.refl _ _) (fun e H' z hx hq => ⟨true, exm1 T.Refused.em, if_yes rfl fun a hae => ⟨_, rfl, rfl, rfl, e, rfl, _, hx, .str z, rfl, hq⟩⟩) _ (by unfold offF; rw [if_neg c, if_pos c2])⟩
  · exact ⟨dx, _, ho, rfl, o, dd, ds, dl, off, dm, st, made, .str x, rfl, hT, hm, hO, ⟨_, rfl⟩, fun z e => (by cases e; exact lx), hG, key _ H (Kp.refl _ _) (fun e H' z hx hq => ⟨true, exm1 T.Refused.em, if_yes rfl fun a hae => ⟨_, rfl, rfl, rfl, e, rfl, _, hx, .str z, rfl, hq⟩⟩) _ (by unfold offF; rw [if_neg c, if_neg c2, if_pos c3])⟩
  · refine ⟨dx, _, ho, rfl, by omega, fun p1 h1 => ⟨by omega, fun p2 h2 => ?_⟩⟩
    have a1 := Kp.new (S := []) h1 (.tup [V.str (Str.ofString "k4")])
    have a2 := Kp.new (S := []) h2 (.tup [V.int 1, V.ref p1])
    have aa := a1.trans a2
    exact ⟨o, dd, ds, dl, off, dm, st, made, Str.ofString "list", .str x, .ref p2, role4, rfl, hT.kp0 aa, hm, hO.kp aa List.not_mem_nil List.not_mem_nil, ⟨_, rfl⟩, fun z e => (by cases e; exact lx), .tup upd_same (.cons (.int _) (.cons (.tup (a2.tup _ _ upd_same) (.cons (.str _) .nil)) .nil)), by decide +kernel, by decide +kernel, by decide +kernel, hG.kp0 aa, key _ _ aa (fun e H' z hx hq => ⟨true, exm1 T.Refused.em, if_yes rfl fun a hae => ⟨_, rfl, rfl, rfl, e, rfl, _, hx, .str z, rfl, hq⟩⟩) _ (by unfold offF; rw [if_neg c, if_neg c2, if_neg c3])⟩
theorem ok_ltold34 (F : Fun K "_law_told" "_law_told" s_law_told f fd) (B : Blt mg) (m_Trusted_charter : CalM P w K mg base CX0 1 C "charter" (spTDoc C kC)) (m_Trusted_stamp : CalM P w K mg base CX0 1 C "stamp" (spTDoc C kT)) (m_Trusted_shelf : CalM P w K mg base CX0 1 C "shelf" (spTDoc C kF)) (m_Trusted_sealed : CalM P w K mg base CX0 1 C "sealed" (spTSealed C)) (m_Trusted_roles : CalM P w K mg base CX0 1 C "roles" (spTRoles C)) (m_Trusted_list_of : CalM P w K mg base CX0 1 C "list_of" (spTList C 0)) (m_Trusted_list_role : CalM P w K mg base CX0 1 C "list_role" (spTList C 1)) (m_Trusted_outdated : CalM P w K mg base CX0 3 C "outdated" (spTOut C)) (m_Trusted_is_current : CalM P w K mg base CX0 2 C "is_current" (spTCur C)) :
    FnOk P w K mg base CX0 4 f fd ["trusted"] (spTold34 C) := by
  refine F.ok sc_law_told (fun vs H Q E h => ?_) (fun cdv A outer s H vs Q E hr h => ?_)
  · obtain ⟨o, dd, ds, dl, off, st, rfl, _⟩ := h; rfl
  obtain ⟨o, dd, ds, dl, off, st, rfl, hT, q⟩ := h
  obtain ⟨dx, rv, ho, _⟩ := hT.ob
  have lim : sizeLine = 16777216 := sizeLine_eq
  refine ⟨_, (C8.pss_cut (ps_set (i := 1) sc_law_told.nd rfl (Or.inl rfl) (pe_lst (pa_cons (m_Trusted_charter.pe0 hr (pv 0)) (pa_cons (m_Trusted_stamp.pe0 hr (pv 0)) (pa_cons (m_Trusted_shelf.pe0 hr (pv 0)) (pa_cons (m_Trusted_roles.pe0 hr (pv 0)) (pa_cons (m_Trusted_outdated.pe0 hr (pv 0)) (pa_cons (m_Trusted_is_current.pe0 hr (pv 0)) pa_nil))))))))
    (pss_one (ps_ret (pe_op op_cat (pv 1) (pe_lst (pa_cons (m_Trusted_list_of.pe hr (pv 0) (pa_cons pe_str pa_nil)) (pa_cons (m_Trusted_list_role.pe hr (pv 0) (pa_cons pe_str pa_nil)) (pa_cons (m_Trusted_sealed.pe hr (pv 0) (pa_cons pe_str pa_nil)) (pa_cons (m_Trusted_sealed.pe hr (pv 0) (pa_cons pe_str pa_nil)) pa_nil))))))))), ?_⟩
  walk_at "wq"
  refine ⟨fun σ H' => ∃ (p : Addr) (vs : List V), σ = [some (.ref o), some (.ref p)] ∧ H' p = some (.lst vs) ∧ vs.length = 6 ∧ RqA H' vs ((toldD st).take 6) ∧ Kp [] H H', ?_, fun σ H' ⟨p, vs, hσ, ep, l6, RA, k⟩ => ?_⟩
  · walk_at "wq"
    refine ⟨dx, _, ho, rfl, o, dd, ds, dl, off, st, rfl, hT, fun u1 r1 => ⟨dx, _, ho, rfl, o, dd, ds, dl, off, st, rfl, hT, fun u2 r2 => ⟨dx, _, ho, rfl, o, dd, ds, dl, off, st, rfl, hT, fun u3 r3 => ⟨dx, _, ho, rfl, o, dd, ds, dl, off, st, rfl, hT, fun u4 r4 => ⟨dx, _, ho, rfl, o, dd, ds, dl, off, st, rfl, hT, fun H1 k1 => ?_⟩⟩⟩⟩⟩
    have T1 := hT.kp0 k1
    obtain ⟨dx1, rv1, ho1, _⟩ := T1.ob
    refine ⟨dx1, _, ho1, rfl, o, dd, ds, dl, off, st, rfl, T1, fun H2 k2 => ⟨by omega, fun p hp => ?_⟩⟩
    have k3 := Kp.new (S := []) hp (.lst [u1, u2, u3, u4, V.bl st.outd, V.bl st.curr])
    have kk := (k1.trans k2).trans k3
    exact ⟨.cons (r1.kp0 kk) (.cons (r2.kp0 kk) (.cons (r3.kp0 kk) (.cons (r4.kp0 kk) (.cons (.bl _) (.cons (.bl _) .nil))))), kk⟩
  subst hσ
  walk_at "wq"
  have T1 := hT.kp0 k
  obtain ⟨dx1, rv1, ho1, _⟩ := T1.ob
  refine ⟨dx1, _, ho1, rfl, o, dd, ds, dl, off, st, _, rfl, T1, fun u7 r7 => ⟨dx1, _, ho1, rfl, o, dd, ds, dl, off, st, _, rfl, T1, fun u8 r8 => ⟨dx1, _, ho1, rfl, o, dd, ds, dl, off, st, _, rfl, T1, ⟨dx1, _, ho1, rfl, o, dd, ds, dl, off, st, _, rfl, T1, ⟨by omega, fun p2 hp2 => ?_⟩⟩⟩⟩⟩
  have k3 := Kp.new (S := []) hp2 (.lst [u7, u8, optZ (getT st.txs kT), optZ (getT st.txs kF)])
  refine ⟨p, p2, _, _, rfl, rfl, k3.keep p _ List.not_mem_nil ep, upd_same, (by show vs.length + 4 ≤ sizeLine; omega), fun c hc => ?_⟩
  have k4 := Kp.new (S := []) hc (.lst (vs ++ [u7, u8, optZ (getT st.txs kT), optZ (getT st.txs kF)]))
  have oz : ∀ x : Option Str, ∀ G, Rq G (optZ x) (optZD x) := fun x G => by cases x with | none => exact .non | some y => exact .str y
  have RB : RqA _ [u7, u8, optZ (getT st.txs kT), optZ (getT st.txs kF)] [lstAt st (Str.ofString "list") 0, lstAt st (Str.ofString "list") 1, optZD (getT st.txs kT), optZD (getT st.txs kF)] := .cons (r7.kp0 (k3.trans k4)) (.cons (r8.kp0 (k3.trans k4)) (.cons (oz _ _) (.cons (oz _ _) .nil)))
  exact q _ _ (k.trans (k3.trans k4)) (.lst upd_same ((RA.kp0A (k3.trans k4)).app RB))
theorem ok_lshelf34 (F : Fun K "_law_shelf" "_law_shelf" s_law_shelf f fd) (B : Blt mg) (c_seal : Cal P w K mg base (L2.CX P w) 24 "seal" (spSeal2 CO CK CT K Ts)) (c_write : Cal P w K mg base (L2.CX P w) 24 "write" (spWrite CD Ts)) (c_digest : Cal P w K mg base CX0 1 "digest" spDigest) :
    FnOk P w K mg base CX0 26 f fd ["office", "version", "list_version"] (spShelf34 CO Ts) := by
  refine F.ok sc_law_shelf (fun vs H Q E h => ?_) (fun cdv A outer s H vs Q E hr h => ?_)
  · obtain ⟨o, dm, v, lv, made, rfl, _⟩ := h; rfl
  obtain ⟨o, dm, v, lv, made, rfl, hO, lm, v0, v1, w0, w1, hG, q⟩ := h
  refine ⟨_, (C8.pss_cut (ps_set (i := 3) sc_law_shelf.nd rfl (Or.inl rfl) (c_seal.peL hr (pa_cons (pv 0) (pa_cons (c_write.peL hr (pa_cons (pe_tup (pa_cons pe_str (pa_cons pe_str (pa_cons (pv 2) (pa_cons pe_int (pa_cons (pe_tup pa_nil) (pa_cons (pe_tup pa_nil) pa_nil))))))) pa_nil)) (pa_cons (pe_lst (pa_cons pe_str pa_nil)) pa_nil)))))
    (C8.pss_cut (ps_set (i := 4) sc_law_shelf.nd rfl (Or.inl rfl) (pe_tup (pa_cons pe_str (pa_cons (pv 1) (pa_cons pe_int (pa_cons (pe_tup (pa_cons (pe_tup (pa_cons pe_str (pa_cons (pv 2) (pa_cons (B.len_s (pa_cons (pv 3) pa_nil)) (pa_cons (c_digest.pe hr (pa_cons (pv 3) pa_nil)) pa_nil))))) pa_nil)) pa_nil))))))
    (pss_one (ps_ret (pe_tup (pa_cons (c_seal.peL hr (pa_cons (pv 0) (pa_cons (c_write.peL hr (pa_cons (pv 4) pa_nil)) (pa_cons (pe_lst (pa_cons pe_str pa_nil)) pa_nil)))) (pa_cons (pv 3) pa_nil))))))), ?_⟩
  walk_at "wq"
  refine ⟨fun σ H' => ∃ (T : Str) (made1 : List (Str × Str)), σ = [some (.ref o), some (.int v), some (.int lv), some (.str T), none] ∧ Sld made1 kL T (pgD lv 5) [Str.ofString "k4"] ∧ T.length ≤ 100000 ∧ (∀ p ∈ made, p ∈ made1) ∧ made1.length ≤ made.length + 1 ∧ Ofc CO o dm made1 H' ∧ Kp (dm :: Ts) H H' ∧ Tabs Ts H', ?_, fun σ H1 ⟨T, made1, hσ, sT, lT, m1, l1, O1, kH1, g1⟩ => ?_⟩
  · walk_at "wq"
    have lim : sizeLine = 16777216 := sizeLine_eq
    have pgz : isList (pgD lv 5) = true := is_pg w0 (by omega) (by decide) (by decide)
    have szz : Sz 8 1200 (pgD lv 5) := sz_pg w0 (by omega) (by decide) (by decide)
    refine ⟨by omega, fun u1 h1 => ⟨by omega, fun u2 h2 => ⟨by omega, fun pg h3 => ?_⟩⟩⟩
    have a1 := Kp.new (S := []) h1 (.tup [])
    have a2 := Kp.new (S := []) h2 (.tup [])
    have a3 := Kp.new (S := []) h3 (.tup [V.str (Str.ofString "list"), V.str (Str.ofString "list"), V.int lv, V.int 5, V.ref u1, V.ref u2])
    have aa := a1.trans (a2.trans a3)
    have Rpg : Rq _ (.ref pg) (pgD lv 5) := .tup (upd_same : upd (upd (upd H u1 (.tup [])) u2 (.tup [])) pg (.tup [V.str (Str.ofString "list"), V.str (Str.ofString "list"), V.int lv, V.int 5, V.ref u1, V.ref u2]) pg = _) (.cons (.str _) (.cons (.str _) (.cons (.int _) (.cons (.int _) (.cons (.tup ((a2.trans a3).tup _ _ upd_same) .nil) (.cons (.tup (a3.tup _ _ upd_same) .nil) .nil))))))
    refine ⟨.ref pg, pgD lv 5, rfl, Rpg, okD_sz szz, hG.kp0 aa, fun _ H4 k4 g4 => ⟨by omega, fun pl hpl => ?_⟩, fun no => (by rw [show isDoc (pgD lv 5) = true from isK_doc (k := kL) (by rw [isK_L]; exact pgz)] at no; cases no)⟩
    have a5 := Kp.new (S := []) hpl (.lst [V.str (Str.ofString "k4")])
    have O5 := ((hO.kp aa List.not_mem_nil List.not_mem_nil).tabs k4 (hG.kp0 aa)).kp a5 List.not_mem_nil List.not_mem_nil
    refine seal_one O5 (by omega) upd_same k1_4 (by rw [isK_L]; exact pgz) szz (g4.kp0 a5) fun S made' H6 sl lS ms ml O6 k6 g6 => ?_
    have kk : Kp Ts H _ := aa.in0.trans (k4.trans a5.in0)
    exact ⟨S, rfl, made', sl, lS, ms, ml, O6, (kk.mono fun b m => List.mem_cons_of_mem _ m).trans k6, g6⟩
  subst hσ
  refine ⟨fun σ H' => ∃ (pd : Addr), σ = [some (.ref o), some (.int v), some (.int lv), some (.str T), some (.ref pd)] ∧ Rq H' (.ref pd) (shD v 7 lv T) ∧ Kp [] H1 H', ?_, fun σ H2 ⟨pd, hσ, Rd, k2⟩ => ?_⟩
  · walk_at "wq"
    have lim : sizeLine = 16777216 := sizeLine_eq
    refine ⟨by omega, T, rfl, by omega, ?_⟩
    refine ⟨by omega, fun u1 h1 => ⟨by omega, fun u2 h2 => ⟨by omega, fun pd h3 => ?_⟩⟩⟩
    have a1 := Kp.new (S := []) h1 (.tup [V.str (Str.ofString "list"), V.int lv, V.int ↑T.length, V.str (dgs T)])
    have a2 := Kp.new (S := []) h2 (.tup [V.ref u1])
    have a3 := Kp.new (S := []) h3 (.tup [V.str (Str.ofString "shelf"), V.int v, V.int 7, V.ref u2])
    exact ⟨.tup upd_same (.cons (.str _) (.cons (.int _) (.cons (.int _) (.cons (.tup (a3.tup _ _ upd_same) (.cons (.tup ((a2.trans a3).tup _ _ upd_same) (.cons (.str _) (.cons (.int _) (.cons (.int _) (.cons (.str _) .nil))))) .nil)) .nil)))), a1.trans (a2.trans a3)⟩
  subst hσ
  walk_at "wq"
  have lim : sizeLine = 16777216 := sizeLine_eq
  have shz : isShelf (shD v 7 lv T) = true := is_sh v0 (by omega) (by decide) (by decide) w0 (by omega) lT
  have szz : Sz 8 1200 (shD v 7 lv T) := sz_sh v0 (by omega) (by decide) (by decide) w0 (by omega) lT
  refine ⟨.ref pd, shD v 7 lv T, rfl, Rd, okD_sz szz, g1.kp0 k2, fun _ H4 k4 g4 => ⟨by omega, fun pl hpl => ?_⟩, fun no => (by rw [show isDoc (shD v 7 lv T) = true from isK_doc (k := kF) (by rw [isK_F]; exact shz)] at no; cases no)⟩
  have a5 := Kp.new (S := []) hpl (.lst [V.str (Str.ofString "k3")])
  have O5 := ((O1.kp k2 List.not_mem_nil List.not_mem_nil).tabs k4 (g1.kp0 k2)).kp a5 List.not_mem_nil List.not_mem_nil
  refine seal_one O5 (by omega) upd_same k1_3 (by rw [isK_F]; exact shz) szz (g4.kp0 a5) fun S made' H6 sl lS ms ml O6 k6 g6 => ⟨by omega, fun p hp => ?_⟩
  have a7 := Kp.new (S := []) hp (.tup [V.str S, V.str T])
  have kk : Kp (dm :: Ts) H1 _ := ((k2.in0.trans (k4.trans a5.in0)).mono fun b m => List.mem_cons_of_mem _ m).trans (k6.trans a7.in0)
  exact q p S T made' _ upd_same sl (sld_mono sT ms) lS lT (fun x m => ms x (m1 x m)) (by omega) (O6.kp a7 List.not_mem_nil List.not_mem_nil) (kH1.trans kk) (g6.kp0 a7)
theorem ok_lstamp34 (F : Fun K "_law_stamp" "_law_stamp" s_law_stamp f fd) (B : Blt mg) (c_seal : Cal P w K mg base (L2.CX P w) 24 "seal" (spSeal2 CO CK CT K Ts)) (c_write : Cal P w K mg base (L2.CX P w) 24 "write" (spWrite CD Ts)) (c_digest : Cal P w K mg base CX0 1 "digest" spDigest) :
    FnOk P w K mg base CX0 26 f fd ["office", "version", "shelf_version", "sealed", "key"] (spStamp34 CO Ts) := by
  refine F.ok sc_law_stamp (fun vs H Q E h => ?_) (fun cdv A outer s H vs Q E hr h => ?_)
  · obtain ⟨o, dm, v, sv, F, k, made, rfl, _⟩ := h; rfl
  obtain ⟨o, dm, v, sv, F, k, made, rfl, hO, lm, v0, v1, w0, w1, lF, hk, hG, q⟩ := h
  refine ⟨_, (pss_one (ps_ret (c_seal.peL hr (pa_cons (pv 0) (pa_cons (c_write.peL hr (pa_cons (pe_tup (pa_cons pe_str (pa_cons (pv 1) (pa_cons pe_int (pa_cons (pe_tup (pa_cons (pv 2) (pa_cons (B.len_s (pa_cons (pv 3) pa_nil)) (pa_cons (c_digest.pe hr (pa_cons (pv 3) pa_nil)) pa_nil)))) pa_nil))))) pa_nil)) (pa_cons (pe_lst (pa_cons (pv 4) pa_nil)) pa_nil)))))), ?_⟩
  walk_at "wq"
  have lim : sizeLine = 16777216 := sizeLine_eq
  have tmz : isStamp (tmD v 8 sv F) = true := is_tm v0 (by omega) (by decide) (by decide) w0 (by omega) lF
  have szz : Sz 8 1200 (tmD v 8 sv F) := sz_tm v0 (by omega) (by decide) (by decide) w0 (by omega) lF
  refine ⟨by omega, F, rfl, by omega, ?_⟩
  refine ⟨by omega, fun u1 h1 => ⟨by omega, fun pd h3 => ?_⟩⟩
  have a1 := Kp.new (S := []) h1 (.tup [V.int sv, V.int ↑F.length, V.str (dgs F)])
  have a3 := Kp.new (S := []) h3 (.tup [V.str (Str.ofString "stamp"), V.int v, V.int 8, V.ref u1])
  have aa := a1.trans a3
  have Rd : Rq _ (.ref pd) (tmD v 8 sv F) := .tup (upd_same : upd (upd H u1 (.tup [V.int sv, V.int ↑F.length, V.str (dgs F)])) pd (.tup [V.str (Str.ofString "stamp"), V.int v, V.int 8, V.ref u1]) pd = _) (.cons (.str _) (.cons (.int _) (.cons (.int _) (.cons (.tup (a3.tup _ _ upd_same) (.cons (.int _) (.cons (.int _) (.cons (.str _) .nil)))) .nil))))
  refine ⟨.ref pd, tmD v 8 sv F, rfl, Rd, okD_sz szz, hG.kp0 aa, fun _ H4 k4 g4 => ⟨by omega, fun pl hpl => ?_⟩, fun no => (by rw [show isDoc (tmD v 8 sv F) = true from isK_doc (k := kT) (by rw [isK_T]; exact tmz)] at no; cases no)⟩
  have a5 := Kp.new (S := []) hpl (.lst [V.str k])
  have O5 := ((hO.kp aa List.not_mem_nil List.not_mem_nil).tabs k4 (hG.kp0 aa)).kp a5 List.not_mem_nil List.not_mem_nil
  refine seal_one O5 (by omega) upd_same hk (by rw [isK_T]; exact tmz) szz (g4.kp0 a5) fun S made' H6 sl lS ms ml O6 k6 g6 => ?_
  exact q S made' H6 sl lS ms ml O6 (((aa.in0.trans (k4.trans a5.in0)).mono fun b m => List.mem_cons_of_mem _ m).trans k6) g6
end
/-! the draws of a script -/
abbrev s_law_draws : Stmt := top 95
abbrev N_law_draws : List Str := ["script", "start", "most", "draws", "cell", "number", "mixed", "k"]
theorem sc_law_draws : FnScope N_law_draws ["script", "start", "most"] (defScope s_law_draws) := ⟨rfl, rfl, rfl, by decide +kernel, rfl, by decide +kernel, by decide +kernel⟩
def spDraws (K : PySem.W.Frag) : Sp := fun vs H Q _ => ∃ (a : Addr) (ns : List Int) (st mo : Nat), vs = [.ref a, .int st, .int mo] ∧ SqL K H a (ns.map V.int) ∧ ns.length ≤ 63 ∧
  ∀ (ds : List Int) (p : Addr) (H' : Hp), H p = none → H' p = some (.lst (ds.map V.int)) → (∀ d ∈ ds, 0 ≤ d ∧ d < 10 ^ 18) → ds.length ≤ mo → Kp [] H H' → Q (.ref p) H'
section
variable {P : Program} {w : World} {K : PySem.W.Frag} {mg : Str → Option Value} {base : Heap} {f : Addr} {fd : FuncData}
theorem ok_draws (F : Fun K "_law_draws" "_law_draws" s_law_draws f fd) (B : Blt mg) (habs : mg "abs" = none) : FnOk P w K mg base CX0 1 f fd ["script", "start", "most"] (spDraws K) := by
  refine F.ok sc_law_draws (fun vs H Q E h => ?_) (fun cdv A outer s H vs Q E hr h => ?_)
  · obtain ⟨a, ns, st, mo, rfl, _⟩ := h; rfl
  obtain ⟨a, ns, st, mo, rfl, hS, hl, q⟩ := h
  refine ⟨_, (pss_cons (ps_set (i := 3) sc_law_draws.nd rfl (Or.inl rfl) (pe_lst pa_nil))
    (pss_cons (ps_for PassesOwn.never rfl (pi_list (pe_slice sl_list (pv 0) (po_some (pv 1)) po_none)) (pg_name (i := 4) sc_law_draws.nd rfl (Or.inl rfl)) (pss_cons (ps_set (i := 5) sc_law_draws.nd rfl (Or.inl rfl) (pe_callB call_abs rfl habs (by decide +kernel) (pa_cons (B.int_i (pa_cons (pv 4) pa_nil)) pa_nil)))
    (pss_one (ps_if (pt_cmpR op_lt (pv 5) (pe_op op_pow pe_int pe_int) (nomark _)) (pss_cons (ps_set (i := 6) sc_law_draws.nd rfl (Or.inl rfl) (pe_op op_mod (B.int_i (pa_cons (pe_op op_add (pe_op op_mul (pv 5) pe_int) pe_int) pa_nil)) pe_int))
    (pss_cons (ps_expr (pe_bm PySem.F.plainAttrs_list PySem.F.slot_list_append PySem.F.type_list_append mt_append (pv 3) (pa_cons (pv 5) pa_nil)))
    (pss_cons (ps_expr (pe_bm PySem.F.plainAttrs_list PySem.F.slot_list_append PySem.F.type_list_append mt_append (pv 3) (pa_cons (pe_op op_fdivW (pe_op op_mod (B.int_i (pa_cons (pe_op op_add (pe_op op_add (pe_op op_mul (pv 6) pe_int) (pe_op op_fdivW (pv 5) pe_int)) pe_int) pa_nil)) pe_int) pe_int) pa_nil)))
    (pss_one (ps_expr (pe_bm PySem.F.plainAttrs_list PySem.F.slot_list_append PySem.F.type_list_append mt_append (pv 3) (pa_cons (pe_op op_fdivW (pe_op op_mod (B.int_i (pa_cons (pe_op op_add (pe_op op_add (pe_op op_mul (pv 6) pe_int) (pe_op op_fdivW (pv 5) pe_int)) pe_int) pa_nil)) pe_int) pe_int) pa_nil))))))) (pss_one (ps_for PassesOwn.never rfl (B.range1 (pa_cons pe_int pa_nil)) (pg_name (i := 7) sc_law_draws.nd rfl (Or.inl rfl)) (pss_cons (ps_if (pt_cmpR op_gt (pv 5) pe_int (nomark _)) (pss_one (ps_expr (pe_bm PySem.F.plainAttrs_list PySem.F.slot_list_append PySem.F.type_list_append mt_append (pv 3) (pa_cons (pe_op op_mod (B.int_i (pa_cons (pv 5) pa_nil)) pe_int) pa_nil)))) pss_nil)
    (pss_one (ps_set (i := 5) sc_law_draws.nd rfl (Or.inl rfl) (pe_op op_fdivW (pv 5) pe_int))))))))))
    (pss_one (ps_ret (pe_slice sl_list (pv 3) po_none (po_some (pv 2))))))), ?_⟩
  walk_at "wp"
  refine ⟨by decide, fun D hD => ?_⟩
  have em : cutV (ns.map V.int) (some (st : Int)) none = (ns.drop st).map V.int := by rw [cutV_from, List.map_drop]
  have lm : (ns.drop st).length ≤ ns.length := by rw [List.length_drop]; omega
  generalize ns.drop st = ms at em lm
  have nw := (Kp.new hD (.lst []) : Kp [] _ _)
  refine ⟨_, rfl, _, rfl, st, rfl, a, _, rfl, nw.seqL List.not_mem_nil hS, fun L hL => ⟨L, rfl, ⟨_, SqL.of upd_same⟩, ?_⟩⟩
  have nDL : D ≠ L := ne_of_none upd_same hL
  have nw2 := nw.trans (Kp.new hL (.lst (cutV (ns.map V.int) (some (st : Int)) none)))
  have hL0 : H L = none := by rw [upd_ne nDL.symm] at hL; exact hL
  refine for_list (K := K) (a := L) (xs := ms.map V.int) (fun i σ H' => ∃ (ds : List Int) (o4 o5 o6 o7 : Option V), σ = [some (.ref a), some (.int st), some (.int mo), some (.ref D), o4, o5, o6, o7] ∧ H' D = some (.lst (ds.map V.int)) ∧ H' L = some (.lst (ms.map V.int)) ∧ (∀ d ∈ ds, 0 ≤ d ∧ d < 10 ^ 18) ∧ ds.length ≤ 24 * i ∧ Kp [] H H')
    ⟨[], _, _, _, _, rfl, (by rw [upd_ne nDL]; exact upd_same), (by rw [upd_same, em]), (fun d m => absurd m List.not_mem_nil), Nat.le_refl _, nw2⟩ (fun i σ H' _ ⟨_, _, _, _, _, _, _, e, _⟩ => SqL.of e) (fun i x σ H' hi ⟨ds, o4, o5, o6, o7, hσ, eD, eL, hok, hlen, k⟩ => ?_) (fun σ H' ⟨ds, o4, o5, o6, o7, hσ, eD, eL, hok, hlen, k⟩ => ?_)
  · subst hσ
    rw [List.getElem?_map] at hi
    obtain ⟨z, hz, rfl⟩ := Option.map_eq_some_iff.mp hi
    have li : i < ms.length := (List.getElem?_eq_some_iff.mp hz).1
    walk_at "wp"
    have z0 : 0 ≤ (if z < 0 then -z else z) := by split <;> omega
    generalize (if z < 0 then -z else z) = n at z0
    have lim : sizeLine = 16777216 := sizeLine_eq
    have lit : ∀ {j i : Int}, 0 < j → j < 2 ^ 200 → CDivW i j := fun h0 h1 => two200 h0 h1
    refine ⟨⟨by decide, by decide, by decide⟩, ?_⟩
    have big : (10 : Int) ^ Int.toNat 18 = 1000000000000000000 := by decide
    rw [big]
    split
    · rename_i hb
      have a0 := Int.emod_nonneg (n * 39373 + 23) (show (2147483647 : Int) ≠ 0 by decide)
      have a1 := Int.emod_lt_of_pos (n * 39373 + 23) (show (0 : Int) < 2147483647 by decide)
      generalize (n * 39373 + 23) % 2147483647 = m at a0 a1
      have b0 := Int.emod_nonneg (m * 16807 + n / 6 + 3) (show (2147483399 : Int) ≠ 0 by decide)
      have b1 := Int.emod_lt_of_pos (m * 16807 + n / 6 + 3) (show (0 : Int) < 2147483399 by decide)
      generalize (m * 16807 + n / 6 + 3) % 2147483399 = u at b0 b1
      have c0 := Int.emod_nonneg (m * 69621 + n / 11 + 8) (show (2147483629 : Int) ≠ 0 by decide)
      have c1 := Int.emod_lt_of_pos (m * 69621 + n / 11 + 8) (show (0 : Int) < 2147483629 by decide)
      generalize (m * 69621 + n / 11 + 8) % 2147483629 = v at c0 c1
      have l0 : (ds.map V.int).length ≤ 1512 := by rw [List.length_map]; omega
      have e1 : (upd H' D (.lst (ds.map V.int ++ [V.int n]))) D = some (.lst (ds.map V.int ++ [V.int n])) := upd_same
      refine ⟨.inr ⟨by decide, by decide⟩, by decide, .inl ⟨rfl, _, SqL.of eD⟩, _, eD, by omega, .inl ⟨rfl, _, SqL.of upd_same⟩, .inr ⟨by decide, by decide⟩, lit (by decide) (by decide), by decide, lit (by decide) (by decide), by rw [List.length_append, List.length_singleton]; omega, .inl ⟨rfl, _, SqL.of upd_same⟩, .inr ⟨by decide, by decide⟩, lit (by decide) (by decide), by decide, lit (by decide) (by decide), by rw [List.length_append, List.length_append, List.length_singleton, List.length_singleton]; omega, ds ++ [n, u / 3, v / 7], ?_, ?_, ?_, ?_, ?_⟩
      · simp [List.map_append]
      · rw [upd_ne nDL.symm, upd_ne nDL.symm, upd_ne nDL.symm]; exact eL
      · intro d hd
        rcases List.mem_append.mp hd with hd | hd
        · exact hok d hd
        · simp only [List.mem_cons, List.not_mem_nil, or_false] at hd
          rcases hd with rfl | rfl | rfl <;> omega
      · rw [List.length_append]; simp only [List.length_cons, List.length_nil]; omega
      · exact ((k.upd hD eD).upd hD upd_same).upd hD upd_same
    · refine ⟨24, rfl, by decide, by decide, ?_⟩
      refine for_range (lo := 0) (n := 24) (fun j σ H' => ∃ (ds : List Int) (m : Int) (o4 o6 o7 : Option V), σ = [some (.ref a), some (.int st), some (.int mo), some (.ref D), o4, some (.int m), o6, o7] ∧ 0 ≤ m ∧ H' D = some (.lst (ds.map V.int)) ∧ H' L = some (.lst (ms.map V.int)) ∧ (∀ d ∈ ds, 0 ≤ d ∧ d < 10 ^ 18) ∧ ds.length ≤ 24 * i + j ∧ Kp [] H H')
        ⟨ds, _, _, _, _, rfl, z0, eD, eL, hok, hlen, k⟩ (fun j σ H2 hj ⟨ds, m, o4, o6, o7, hσ, m0, eD, eL, hok, hlen, k⟩ => ?_) (fun σ H2 ⟨ds, m, o4, o6, o7, hσ, m0, eD, eL, hok, hlen, k⟩ => ?_)
      · subst hσ
        walk_at "wp"
        have n0 := Int.emod_nonneg m (show (1000000 : Int) ≠ 0 by decide)
        have n1 := Int.emod_lt_of_pos m (show (0 : Int) < 1000000 by decide)
        have l0 : (ds.map V.int).length ≤ 1512 := by rw [List.length_map]; omega
        split
        · refine ⟨.inl ⟨rfl, _, SqL.of eD⟩, by decide, _, eD, by omega, lit (by decide) (by decide), by omega, ds ++ [m % 1000000], by rw [List.map_append]; rfl, ?_, ?_, ?_, ?_⟩
          · rw [upd_ne nDL.symm]; exact eL
          · intro d hd
            rcases List.mem_append.mp hd with hd | hd
            · exact hok d hd
            · rw [List.mem_singleton.mp hd]; omega
          · rw [List.length_append, List.length_singleton]; omega
          · exact k.upd hD eD
        · exact ⟨lit (by decide) (by decide), by omega, ds, eD, eL, hok, by omega, k⟩
      · subst hσ
        exact ⟨ds, _, _, _, _, rfl, eD, eL, hok, by omega, k⟩
  · subst hσ
    walk_at "wp"
    refine ⟨D, _, rfl, SqL.of eD, fun p hp => ?_⟩
    rw [cutV_to, ← List.map_take]
    have kn := Kp.new (S := []) hp (.lst ((ds.take mo).map V.int))
    refine q (ds.take mo) p _ ?_ upd_same (fun d m => hok d (List.mem_of_mem_take m)) (by rw [List.length_take]; omega) (k.trans kn)
    cases e : H p with
    | none => rfl
    | some u => rw [k.keep p u List.not_mem_nil e] at hp; cases hp
end
/-! law k34 -/
abbrev s_law : Stmt := top 101
abbrev N_law : List Str := ["script", "cell", "office", "roles", "first", "one", "two", "version", "shelf", "text", "stamp", "changed", "draw", "what", "number", "wanted", "sealed", "offer", "other", "key"]
theorem sc_law : FnScope N_law ["script"] (defScope s_law) := ⟨rfl, rfl, rfl, by decide +kernel, rfl, by decide +kernel, by decide +kernel⟩
/-- what a set of the law keeps to -/
structure Iv (n : Nat) (s : Tst) : Prop where
  a : s.docs.length ≤ n
  b : s.txs.length ≤ n
  c : s.lsts.map (·.1) = [] ∨ s.lsts.map (·.1) = [Str.ofString "list"]
  p : ∀ p ∈ s.txs, prn p.2 = true
theorem Iv.sm {n : Nat} {s : Tst} (h : Iv n s) (hn : n ≤ 1000) : s.Sm := by
  have l : s.lsts.length ≤ 1 := by
    rw [← List.length_map (f := (·.1))]
    rcases h.c with e | e <;> rw [e] <;> decide
  refine ⟨by have := h.a; omega, by have := h.b; omega, by omega, ?_⟩
  rcases h.c with e | e <;> rw [e]
  · exact List.nodup_nil
  · simp
theorem DocIn.prn {k x : Str} {d : PyData} (h : DocIn k x d) : SC.prn x = true := by
  obtain ⟨z, ss, t, o, _⟩ := h
  exact o.2.1
theorem docV_str {k x : Str} {y : Str} {d : PyData} (h : docV k (.str y) = some (x, d)) : x = y ∧ DocIn k y d := by
  obtain ⟨e, D⟩ := docV_some h
  cases e
  exact ⟨rfl, D⟩
theorem Iv.keep {n : Nat} {s : Tst} (h : Iv n s) {k x : Str} {d : PyData} (D : DocIn k x d) : Iv (n + 1) (s.keep k d x) :=
  ⟨by have := putA_len s.docs k d; have := h.a; show (putA s.docs k d).length ≤ _; omega, by have := putT_len s.txs k x; have := h.b; show (putT s.txs k x).length ≤ _; omega, h.c, fun p m => by
    rcases putT_mem m with m | rfl
    · exact h.p p m
    · exact D.prn⟩
theorem Iv.up {n m : Nat} {s : Tst} (h : Iv n s) (le : n ≤ m) : Iv m s := ⟨by have := h.a; omega, by have := h.b; omega, h.c, h.p⟩
def gz (z : Str) : Bool := decide (z.length ≤ 100) && prn z
theorem usb_gz {s : Tst} {v : V} {z : Str} (h : usb s v = some z) : gz z = true := by
  have a : gz (Str.ofString "role") = true := by decide +kernel
  have b : gz (Str.ofString "form") = true := by decide +kernel
  cases v with
  | str y =>
    have h : (if s.outd = true then some (Str.ofString "role") else none) = some z := h
    split at h
    · injection h with h; rw [← h]; exact a
    · cases h
  | _ => (injection h with h; rw [← h]; exact b)
theorem sumB_gz {x z : Str} {e : PyData} (h : sumB x e = some z) : gz z = true := by
  have a : gz (Str.ofString "length") = true := by decide +kernel
  have b : gz (Str.ofString "digest") = true := by decide +kernel
  unfold sumB at h
  split at h
  · injection h with h; rw [← h]; exact a
  split at h
  · injection h with h; rw [← h]; exact b
  · cases h
def OffC (n : Nat) (r : Except Str (PyData × Tst)) : Prop := (∃ z, r = .error z ∧ gz z = true) ∨ ∃ d s', r = .ok (d, s') ∧ okD 12 d = true ∧ purD d = true ∧ Iv (n + 1) s'
theorem OffC.r {n : Nat} {z : String} (h : gz (Str.ofString z) = true := by decide +kernel) : OffC n (rsn z) := .inl ⟨_, rfl, h⟩
theorem OffC.k {n : Nat} {s : Tst} (h : Iv n s) {k x : Str} {d : PyData} (D : DocIn k x d) : OffC n (.ok (d, s.keep k d x)) := .inr ⟨d, _, rfl, D.ok.2.1, D.ok.2.2.1, h.keep D⟩
theorem off_cases {n : Nat} {s : Tst} {made : List (Str × Str)} {i : Int} {x : Str} (h : Iv n s) : OffC n (offF made s i (.str x)) := by
  unfold offF
  split
  · unfold accCh
    cases e : docV kC (.str x) with
    | none => exact .r
    | some p =>
      obtain ⟨y, d⟩ := p
      obtain ⟨rfl, D⟩ := docV_str e
      dsimp only
      split
      · exact .r
      split
      · exact .r
      split
      · exact .r
      · exact .k h D
  split
  · unfold accSt
    cases us : usb s (.str x) with
    | some z => exact .inl ⟨z, rfl, usb_gz us⟩
    | none =>
    dsimp only
    cases e : docV kT (.str x) with
    | none => exact .r
    | some p =>
      obtain ⟨y, d⟩ := p
      obtain ⟨rfl, D⟩ := docV_str e
      have h2 : Iv n ({ s with rol := s.pres } : Tst) := ⟨h.a, h.b, h.c, h.p⟩
      dsimp only
      split
      · exact .r
      cases g : getA s.docs kT with
      | none => exact .k h2 D
      | some b =>
        dsimp only
        split
        · exact .r
        · exact .k h2 D
  split
  · unfold accSh
    cases us : usb s (.str x) with
    | some z => exact .inl ⟨z, rfl, usb_gz us⟩
    | none =>
    dsimp only
    cases g : getA s.docs kT with
    | none => exact .r
    | some st =>
    dsimp only
    unfold accS2
    cases sb : sumB x (ixD st 3) with
    | some z => exact .inl ⟨z, rfl, sumB_gz sb⟩
    | none =>
    dsimp only
    cases e : docV kF (.str x) with
    | none => exact .r
    | some p =>
      obtain ⟨y, d⟩ := p
      obtain ⟨rfl, D⟩ := docV_str e
      have h2 : Iv n (s.cutL d) := ⟨h.a, h.b, by
        have sub : ((s.cutL d).lsts.map (·.1)).Sublist (s.lsts.map (·.1)) := (List.filter_sublist).map _
        rcases h.c with c | c
        · rw [c] at sub; exact .inl (List.sublist_nil.mp sub)
        · rw [c] at sub
          cases z : (s.cutL d).lsts.map (·.1) with
          | nil => exact .inl rfl
          | cons w r =>
            rw [z] at sub
            have l := sub.length_le
            cases r with
            | nil => cases List.mem_singleton.mp (sub.mem (List.mem_cons_self)); exact .inr rfl
            | cons _ _ => simp at l, h.p⟩
      dsimp only
      unfold accS3
      split
      · exact .r
      split
      · exact .r
      unfold accS4
      cases gf : getA s.docs kF with
      | none => exact .k h2 D
      | some b =>
        dsimp only
        split
        · exact .r
        · exact .k h2 D
  · unfold accLs
    cases us : usb s (.str x) with
    | some z => exact .inl ⟨z, rfl, usb_gz us⟩
    | none =>
    dsimp only
    split
    · exact .r
    unfold accL2
    split
    · exact .r
    unfold accL3
    cases sb : sumB x (entD ((getA s.docs kF).getD .none) (Str.ofString "list")) with
    | some z => exact .inl ⟨z, rfl, sumB_gz sb⟩
    | none =>
    dsimp only
    cases e : docV kL (.str x) with
    | none => exact .r
    | some p =>
    obtain ⟨y, d⟩ := p
    obtain ⟨rfl, D⟩ := docV_str e
    dsimp only
    unfold accL4
    split
    · exact .r
    split
    · exact .r
    split
    · exact .r
    · refine .inr ⟨d, _, rfl, D.ok.2.1, D.ok.2.2.1, by have := h.a; show s.docs.length ≤ _; omega, by have := h.b; show s.txs.length ≤ _; omega, ?_, h.p⟩
      show (putA s.lsts _ _).map (·.1) = [] ∨ (putA s.lsts _ _).map (·.1) = _
      rcases h.c with c | c
      · have e : s.lsts = [] := List.map_eq_nil_iff.mp c
        rw [e]; exact .inr rfl
      · obtain ⟨p, e, e2⟩ : ∃ p, s.lsts = [p] ∧ p.1 = Str.ofString "list" := by
          cases z : s.lsts with
          | nil => rw [z] at c; cases c
          | cons p r =>
            rw [z, List.map_cons] at c
            injection c with c1 c2
            rw [List.map_eq_nil_iff.mp c2]
            exact ⟨p, rfl, c1⟩
        obtain ⟨n1, y⟩ := p
        have e2 : n1 = Str.ofString "list" := e2
        rw [e]
        right
        generalize Str.ofString "list" = w at e2 ⊢
        subst e2
        simp [putA]
theorem OffC.s {n : Nat} {s : Tst} {r : Except Str (PyData × Tst)} (h : Iv n s) (c : OffC n r) : Iv (n + 1) (resS s r) := by
  rcases c with ⟨z, rfl, _⟩ | ⟨d, s', rfl, _, _, iv⟩
  · exact h.up (by omega)
  · exact iv
theorem OffC.d {n : Nat} {r : Except Str (PyData × Tst)} (c : OffC n r) : okD 13 (resD r) = true := by
  rcases c with ⟨z, rfl, g⟩ | ⟨d, s', rfl, o, _, _⟩
  · unfold gz at g
    rw [Bool.and_eq_true, decide_eq_true_eq] at g
    exact okD_str.mpr ⟨by omega, strOk_prn g.2⟩
  · exact ok_mono 12 13 _ (by decide) o
theorem OffC.p {n : Nat} {r : Except Str (PyData × Tst)} (c : OffC n r) : purD (resD r) = true := by
  rcases c with ⟨z, rfl, g⟩ | ⟨d, s', rfl, _, p, _⟩
  · rfl
  · exact p
theorem Iv.forg {n : Nat} {s : Tst} (h : Iv n s) (hn : 1 ≤ n) : Iv n s.forg := by
  refine ⟨hn, hn, .inl rfl, fun p m => ?_⟩
  cases List.mem_singleton.mp m
  show prn ((getT s.txs kC).getD Str.empty) = true
  cases g : getT s.txs kC with
  | none => rfl
  | some x => exact h.p _ (getT_mem g)
theorem told_ok {n : Nat} {s : Tst} (o : s.Ok) (h : Iv n s) : okD 14 (.list (toldD s)) = true := by
  have dk : ∀ k, okD 13 ((getA s.docs k).getD .none) = true := fun k => by
    cases g : getA s.docs k with
    | none => rfl
    | some d => exact ok_mono 12 13 _ (by decide) (o.ok _ (getA_mem g)).1
  have ls : ∀ z i, i < 3 → okD 13 (lstAt s z i) = true := fun z i hi => by
    unfold lstAt
    cases g : getA s.lsts z with
    | none => rfl
    | some d =>
      have w := o.ls _ (getA_mem g)
      exact ok_mono 12 13 _ (by decide) (ok_ix w.1 w.2.2 hi)
  have tx : ∀ k, okD 13 (optZD (getT s.txs k)) = true := fun k => by
    cases g : getT s.txs k with
    | none => rfl
    | some x =>
      have m := getT_mem g
      have l := o.tx _ m
      exact okD_str.mpr ⟨by show x.length ≤ _; have : x.length ≤ 100000 := l; omega, strOk_prn (h.p _ m)⟩
  refine okD_lst.mpr ⟨by show 10 ≤ 200000; decide, fun d m => ?_⟩
  simp only [toldD, List.mem_cons, List.not_mem_nil, or_false] at m
  rcases m with rfl | rfl | rfl | rfl | rfl | rfl | rfl | rfl | rfl | rfl
  · exact dk kC
  · exact dk kT
  · exact dk kF
  · exact o.rol.1
  · rfl
  · rfl
  · exact ls _ 0 (by decide)
  · exact ls _ 1 (by decide)
  · exact tx kT
  · exact tx kF
/-- the two sets of the law -/
structure S34 (H0 : Hp) (Ts : List Addr) (C CO off dm : Addr) (made : List (Str × Str)) (o1 d1 s1 l1 o2 d2 s2 l2 : Addr) (sA sB : Tst) (H : Hp) : Prop where
  O : Ofc CO off dm made H
  g : Tabs Ts H
  T1 : Trs C o1 d1 s1 l1 off sA H
  T2 : Trs C o2 d2 s2 l2 off sB H
  dj : ∀ x ∈ [o1, d1, s1, l1], x ∉ [o2, d2, s2, l2]
  kh : Kp Ts H0 H
  fr : ∀ x ∈ [dm, o1, d1, s1, l1, o2, d2, s2, l2], H0 x = none
section
variable {H0 : Hp} {Ts : List Addr} {C CO off dm : Addr} {made made' : List (Str × Str)} {o1 d1 s1 l1 o2 d2 s2 l2 : Addr} {sA sB : Tst} {H H' : Hp}
theorem S34.sep (e : S34 H0 Ts C CO off dm made o1 d1 s1 l1 o2 d2 s2 l2 sA sB H) : (off ∉ o1 :: d1 :: s1 :: l1 :: Ts ∧ dm ∉ o1 :: d1 :: s1 :: l1 :: Ts) ∧ (off ∉ o2 :: d2 :: s2 :: l2 :: Ts ∧ dm ∉ o2 :: d2 :: s2 :: l2 :: Ts) ∧ (∀ x ∈ [o1, d1, s1, l1], x ∉ o2 :: d2 :: s2 :: l2 :: Ts) ∧ (∀ x ∈ [o2, d2, s2, l2], x ∉ o1 :: d1 :: s1 :: l1 :: Ts) ∧ (∀ x ∈ [o1, d1, s1, l1, o2, d2, s2, l2], x ∉ dm :: Ts) := by
  obtain ⟨xo, ho⟩ := e.O.ob
  obtain ⟨x1, r1, h1, _⟩ := e.T1.ob
  obtain ⟨x2, r2, h2, _⟩ := e.T2.ob
  obtain ⟨k1, e1, _⟩ := e.T1.d1
  obtain ⟨k3, e3, _⟩ := e.T1.d3
  obtain ⟨m1, f1, _⟩ := e.T2.d1
  obtain ⟨m3, f3, _⟩ := e.T2.d3
  have oo : ∀ {b x : Addr} {rv dd ds dl : V}, H b = some (.ins C x [("_office", .ref off), ("_documents", dd), ("_sealed", ds), ("_roles", rv), ("_lists", dl)]) → off ≠ b := fun hb z => by
    rw [z, hb] at ho
    injection ho with h; injection h with _ _ h; injection h with h _; injection h with h _
    exact absurd h (by decide +kernel)
  have t1 := e.g.ne h1
  have t2 := e.g.ne h2
  have u1 := e.g.ne e1
  have u2 := e.g.ne e.T1.d2
  have u3 := e.g.ne e3
  have w1 := e.g.ne f1
  have w2 := e.g.ne e.T2.d2
  have w3 := e.g.ne f3
  have dj' : ∀ x ∈ [o2, d2, s2, l2], x ∉ [o1, d1, s1, l1] := fun x m1 m2 => e.dj x m2 m1
  have app : ∀ {x a b c d : Addr}, x ∉ [a, b, c, d] → x ∉ Ts → x ∉ a :: b :: c :: d :: Ts := fun h g m => by
    simp only [List.mem_cons, List.not_mem_nil, or_false, not_or] at h m
    rcases m with m | m | m | m | m
    · exact h.1 m
    · exact h.2.1 m
    · exact h.2.2.1 m
    · exact h.2.2.2 m
    · exact g m
  have ts : ∀ x ∈ [o1, d1, s1, l1, o2, d2, s2, l2], x ∉ Ts ∧ x ≠ dm := fun x m => by
    simp only [List.mem_cons, List.not_mem_nil, or_false] at m
    rcases m with rfl | rfl | rfl | rfl | rfl | rfl | rfl | rfl
    · exact ⟨t1, ne_of h1 e.O.dc (by intro z; cases z)⟩
    · exact ⟨u1, ne_of e1 e.O.dc (by intro z; cases z)⟩
    · exact ⟨u2, ne_of e.T1.d2 e.O.dc (by intro z; cases z)⟩
    · exact ⟨u3, ne_of e3 e.O.dc (by intro z; cases z)⟩
    · exact ⟨t2, ne_of h2 e.O.dc (by intro z; cases z)⟩
    · exact ⟨w1, ne_of f1 e.O.dc (by intro z; cases z)⟩
    · exact ⟨w2, ne_of e.T2.d2 e.O.dc (by intro z; cases z)⟩
    · exact ⟨w3, ne_of f3 e.O.dc (by intro z; cases z)⟩
  have dn : ∀ x ∈ [o1, d1, s1, l1, o2, d2, s2, l2], dm ≠ x := fun x m z => (ts x m).2 z.symm
  have g1 : ∀ x ∈ [o1, d1, s1, l1], x ∈ [o1, d1, s1, l1, o2, d2, s2, l2] := fun x m => by
    simp only [List.mem_cons, List.not_mem_nil, or_false] at m ⊢
    rcases m with m | m | m | m
    · exact .inl m
    · exact .inr (.inl m)
    · exact .inr (.inr (.inl m))
    · exact .inr (.inr (.inr (.inl m)))
  have g2 : ∀ x ∈ [o2, d2, s2, l2], x ∈ [o1, d1, s1, l1, o2, d2, s2, l2] := fun x m => List.mem_cons_of_mem _ (List.mem_cons_of_mem _ (List.mem_cons_of_mem _ (List.mem_cons_of_mem _ m)))
  have oT : off ∉ Ts := e.g.ne ho
  have dT : dm ∉ Ts := e.g.ne e.O.dc
  refine ⟨⟨app ?_ oT, app (fun m => dn _ (g1 _ m) rfl) dT⟩, ⟨app ?_ oT, app (fun m => dn _ (g2 _ m) rfl) dT⟩, fun x m => app (e.dj x m) (ts x (g1 x m)).1, fun x m => app (dj' x m) (ts x (g2 x m)).1, fun x m mm => ?_⟩
  · simp only [List.mem_cons, List.not_mem_nil, or_false, not_or]
    exact ⟨oo h1, ne_of ho e1 (by intro z; cases z), ne_of ho e.T1.d2 (by intro z; cases z), ne_of ho e3 (by intro z; cases z)⟩
  · simp only [List.mem_cons, List.not_mem_nil, or_false, not_or]
    exact ⟨oo h2, ne_of ho f1 (by intro z; cases z), ne_of ho e.T2.d2 (by intro z; cases z), ne_of ho f3 (by intro z; cases z)⟩
  · rcases List.mem_cons.mp mm with z | z
    · exact (ts x m).2 z
    · exact (ts x m).1 z
theorem S34.kp0 (e : S34 H0 Ts C CO off dm made o1 d1 s1 l1 o2 d2 s2 l2 sA sB H) (k : Kp [] H H') : S34 H0 Ts C CO off dm made o1 d1 s1 l1 o2 d2 s2 l2 sA sB H' :=
  ⟨e.O.kp k List.not_mem_nil List.not_mem_nil, e.g.kp0 k, e.T1.kp0 k, e.T2.kp0 k, e.dj, e.kh.trans k.in0, e.fr⟩
theorem S34.tabs (e : S34 H0 Ts C CO off dm made o1 d1 s1 l1 o2 d2 s2 l2 sA sB H) (k : Kp Ts H H') (g : Tabs Ts H') : S34 H0 Ts C CO off dm made o1 d1 s1 l1 o2 d2 s2 l2 sA sB H' :=
  ⟨e.O.tabs k e.g, g, e.T1.tabs k e.g, e.T2.tabs k e.g, e.dj, e.kh.trans k, e.fr⟩
theorem S34.seal (e : S34 H0 Ts C CO off dm made o1 d1 s1 l1 o2 d2 s2 l2 sA sB H) (k : Kp (dm :: Ts) H H') (O : Ofc CO off dm made' H') (g : Tabs Ts H') : S34 H0 Ts C CO off dm made' o1 d1 s1 l1 o2 d2 s2 l2 sA sB H' := by
  obtain ⟨_, _, _, _, n⟩ := e.sep
  refine ⟨O, g, e.T1.kp k (n _ (by simp)) (n _ (by simp)) (n _ (by simp)) (n _ (by simp)), e.T2.kp k (n _ (by simp)) (n _ (by simp)) (n _ (by simp)) (n _ (by simp)), e.dj, Kp.drop (e.fr dm (by simp)) ((e.kh.mono fun b m => List.mem_cons_of_mem _ m).trans k), e.fr⟩
theorem kp_dr {a b c d : Addr} {H0 H H' : Hp} (f : ∀ x ∈ [a, b, c, d], H0 x = none) (h : Kp Ts H0 H) (k : Kp (a :: b :: c :: d :: Ts) H H') : Kp Ts H0 H' :=
  Kp.drop (f d (by simp)) (Kp.drop (f c (by simp)) (Kp.drop (f b (by simp)) (Kp.drop (f a (by simp)) ((h.mono fun x m => List.mem_cons_of_mem _ (List.mem_cons_of_mem _ (List.mem_cons_of_mem _ (List.mem_cons_of_mem _ m)))).trans k))))
theorem S34.one {l' : Addr} {s' : Tst} (e : S34 H0 Ts C CO off dm made o1 d1 s1 l1 o2 d2 s2 l2 sA sB H) (k : Kp (o1 :: d1 :: s1 :: l1 :: Ts) H H') (g : Tabs Ts H') (hl : l' = l1 ∨ H l' = none) (T : Trs C o1 d1 s1 l' off s' H') : S34 H0 Ts C CO off dm made o1 d1 s1 l' o2 d2 s2 l2 s' sB H' := by
  obtain ⟨⟨a1, a2⟩, _, _, n, _⟩ := e.sep
  have nl : l' ∉ [o2, d2, s2, l2] := by
    rcases hl with rfl | h
    · exact e.dj _ (by simp)
    · obtain ⟨_, _, h2, _⟩ := e.T2.ob
      obtain ⟨_, f1, _⟩ := e.T2.d1
      obtain ⟨_, f3, _⟩ := e.T2.d3
      simp only [List.mem_cons, List.not_mem_nil, or_false, not_or]
      exact ⟨(ne_of_none h2 h).symm, (ne_of_none f1 h).symm, (ne_of_none e.T2.d2 h).symm, (ne_of_none f3 h).symm⟩
  have fl : H0 l' = none := hl.elim (fun z => z ▸ e.fr l1 (by simp)) fun h => e.kh.gone e.g h
  refine ⟨e.O.kp k a1 a2, g, T, e.T2.kp k (n _ (by simp)) (n _ (by simp)) (n _ (by simp)) (n _ (by simp)), fun x m => ?_, kp_dr (fun x m => e.fr x (by
    simp only [List.mem_cons, List.not_mem_nil, or_false] at m ⊢
    rcases m with m | m | m | m <;> simp [m])) e.kh k, fun x m => ?_⟩
  · simp only [List.mem_cons, List.not_mem_nil, or_false] at m
    rcases m with rfl | rfl | rfl | rfl
    · exact e.dj _ (by simp)
    · exact e.dj _ (by simp)
    · exact e.dj _ (by simp)
    · exact nl
  · by_cases z : x = l'
    · rw [z]; exact fl
    · exact e.fr x (by
        simp only [List.mem_cons, List.not_mem_nil, or_false] at m ⊢
        rcases m with m | m | m | m | m | m | m | m | m <;> simp_all)
theorem S34.two {l' : Addr} {s' : Tst} (e : S34 H0 Ts C CO off dm made o1 d1 s1 l1 o2 d2 s2 l2 sA sB H) (k : Kp (o2 :: d2 :: s2 :: l2 :: Ts) H H') (g : Tabs Ts H') (hl : l' = l2 ∨ H l' = none) (T : Trs C o2 d2 s2 l' off s' H') : S34 H0 Ts C CO off dm made o1 d1 s1 l1 o2 d2 s2 l' sA s' H' := by
  have f : S34 H0 Ts C CO off dm made o2 d2 s2 l2 o1 d1 s1 l1 sB sA H := ⟨e.O, e.g, e.T2, e.T1, fun x m1 m2 => e.dj x m2 m1, e.kh, fun x m => e.fr x (by
    simp only [List.mem_cons, List.not_mem_nil, or_false] at m ⊢
    rcases m with m | m | m | m | m | m | m | m | m <;> simp [m])⟩
  have r := f.one k g hl T
  exact ⟨r.O, r.g, r.T2, r.T1, fun x m1 m2 => r.dj x m2 m1, r.kh, fun x m => r.fr x (by
    simp only [List.mem_cons, List.not_mem_nil, or_false] at m ⊢
    rcases m with m | m | m | m | m | m | m | m | m <;> simp [m])⟩
theorem S34.lst (e : S34 H0 Ts C CO off dm made o1 d1 s1 l1 o2 d2 s2 l2 sA sB H) {p : Addr} {xs : List V} (h : H p = some (.lst xs)) : p ∉ o1 :: d1 :: s1 :: l1 :: Ts ∧ p ∉ o2 :: d2 :: s2 :: l2 :: Ts ∧ p ∉ dm :: Ts ∧ p ∉ Ts := by
  obtain ⟨x1, r1, h1, _⟩ := e.T1.ob
  obtain ⟨x2, r2, h2, _⟩ := e.T2.ob
  obtain ⟨k1, e1, _⟩ := e.T1.d1
  obtain ⟨k3, e3, _⟩ := e.T1.d3
  obtain ⟨m1, f1, _⟩ := e.T2.d1
  obtain ⟨m3, f3, _⟩ := e.T2.d3
  have t := e.g.ne h
  refine ⟨?_, ?_, ?_, t⟩
  · simp only [List.mem_cons, not_or]
    exact ⟨ne_of h h1 (by intro z; cases z), ne_of h e1 (by intro z; cases z), ne_of h e.T1.d2 (by intro z; cases z), ne_of h e3 (by intro z; cases z), t⟩
  · simp only [List.mem_cons, not_or]
    exact ⟨ne_of h h2 (by intro z; cases z), ne_of h f1 (by intro z; cases z), ne_of h e.T2.d2 (by intro z; cases z), ne_of h f3 (by intro z; cases z), t⟩
  · simp only [List.mem_cons, not_or]
    exact ⟨ne_of h e.O.dc (by intro z; cases z), t⟩
end
section
variable {H0 : Hp} {Ts : List Addr} {C CO off dm : Addr} {made made' : List (Str × Str)} {o1 d1 s1 l1 o2 d2 s2 l2 : Addr} {sA sB : Tst} {H H' : Hp}
theorem S34.fg1 {a b c : Addr} {s' : Tst} (e : S34 H0 Ts C CO off dm made o1 d1 s1 l1 o2 d2 s2 l2 sA sB H) (k : Kp [o1] H H') (ha : H a = none) (hb : H b = none) (hc : H c = none) (T : Trs C o1 a b c off s' H') : S34 H0 Ts C CO off dm made o1 a b c o2 d2 s2 l2 s' sB H' := by
  obtain ⟨⟨x1, x2⟩, _, _, n, _⟩ := e.sep
  have sub : ∀ y ∈ [o1], y ∈ o1 :: d1 :: s1 :: l1 :: Ts := fun y m => by rw [List.mem_singleton.mp m]; exact List.mem_cons_self
  obtain ⟨_, _, h1, _⟩ := e.T1.ob
  obtain ⟨_, _, h2, _⟩ := e.T2.ob
  obtain ⟨_, f1, _⟩ := e.T2.d1
  obtain ⟨_, f3, _⟩ := e.T2.d3
  have nw : ∀ {y : Addr}, H y = none → y ∉ [o2, d2, s2, l2] := fun h => by
    simp only [List.mem_cons, List.not_mem_nil, or_false, not_or]
    exact ⟨(ne_of_none h2 h).symm, (ne_of_none f1 h).symm, (ne_of_none e.T2.d2 h).symm, (ne_of_none f3 h).symm⟩
  have g' : Tabs Ts H' := e.g.kp k fun P mP mo => absurd mP (by rw [List.mem_singleton.mp mo]; exact e.g.ne h1)
  have k' := k.mono sub
  refine ⟨e.O.kp k' x1 x2, g', T, e.T2.kp k' (n _ (by simp)) (n _ (by simp)) (n _ (by simp)) (n _ (by simp)), fun x m => ?_, kp_dr (fun x m => e.fr x (by
    simp only [List.mem_cons, List.not_mem_nil, or_false] at m ⊢
    rcases m with m | m | m | m <;> simp [m])) e.kh k', fun x m => ?_⟩
  · simp only [List.mem_cons, List.not_mem_nil, or_false] at m
    rcases m with rfl | rfl | rfl | rfl
    · exact e.dj _ (by simp)
    · exact nw ha
    · exact nw hb
    · exact nw hc
  · simp only [List.mem_cons, List.not_mem_nil, or_false] at m
    have fa := fun {y : Addr} (h : H y = none) => e.kh.gone e.g h
    rcases m with rfl | rfl | rfl | rfl | rfl | rfl | rfl | rfl | rfl
    · exact e.fr _ (by simp)
    · exact e.fr _ (by simp)
    · exact fa ha
    · exact fa hb
    · exact fa hc
    · exact e.fr _ (by simp)
    · exact e.fr _ (by simp)
    · exact e.fr _ (by simp)
    · exact e.fr _ (by simp)
theorem S34.swap (e : S34 H0 Ts C CO off dm made o1 d1 s1 l1 o2 d2 s2 l2 sA sB H) : S34 H0 Ts C CO off dm made o2 d2 s2 l2 o1 d1 s1 l1 sB sA H :=
  ⟨e.O, e.g, e.T2, e.T1, fun x m1 m2 => e.dj x m2 m1, e.kh, fun x m => e.fr x (by
    simp only [List.mem_cons, List.not_mem_nil, or_false] at m ⊢
    rcases m with m | m | m | m | m | m | m | m | m <;> simp [m])⟩
end
def rk (z : String) : PyData := .tuple [.int 1, .tuple [.str (Str.ofString z)]]
def R34 : PyData := .tuple [rk "k1", rk "k2", rk "k3", rk "k4"]
def ch34 : PyData := .tuple [.str kC, .int 1, .int 9, R34]
theorem ic34 : isCharter ch34 = true := by decide +kernel
theorem sz34 : Sz 8 1200 ch34 := sz_mono (sz_charter ic34) (by decide) (by decide)
theorem doc_kind {k j x : Str} {d e : PyData} (h : DocIn k x d) (g : DocIn j x e) : k = j := by
  obtain ⟨z, ss, t, o, _, _, v, rfl, i1⟩ := h
  obtain ⟨z2, ss2, t2, o2, _, _, v2, rfl, i2⟩ := g
  have := opn_uni o o2
  injection this with this
  injection this with ez this
  injection ez with ez
  rw [ez, v] at v2
  injection v2 with v2
  injection v2 with v2
  rw [← v2] at i2
  exact isK_one i1 i2
def R34c : PyData := .tuple [rk "k1", rk "k5", rk "k3", rk "k4"]
theorem ic34n {n : Int} {W : PyData} (hW : W = R34 ∨ W = R34c) (n0 : 1 ≤ n) (n1 : n ≤ 1000) : isCharter (.tuple [.str kC, .int n, .int 9, W]) = true := by
  have w : (tupB 4 4 W && (itD W).all isRole) = true := by
    rcases hW with rfl | rfl <;> decide +kernel
  unfold isCharter
  rw [head_self kC _ (n := 4) rfl]
  show (true && ((decide (1 ≤ n) && decide (n ≤ 1000000000000)) && (true && (tupB 4 4 W && (itD W).all isRole)))) = true
  rw [w, decide_eq_true n0, decide_eq_true (p := n ≤ 1000000000000) (by omega)]; rfl
/-- an offer is made out: behind the tests of a turn -/
structure J34 (H0 : Hp) (Ts : List Addr) (C CO o dm t1 d1 s1 l1 t2 d2 s2 l2 lr lc p : Addr) (ds : List Int) (n : Nat) (s : Tst) (pre mid : L2.St) (σ : L2.St) (H : Hp) : Prop where
  ex : ∃ (oi : Addr) (j : Int) (x T : Str) (made : List (Str × Str)) (o15 o16 o18 o19 : Option V), σ = pre ++ some (.str T) :: (mid ++ [o15, o16, some (.ref oi), o18, o19]) ∧ H oi = some (.tup [.int j, .str x]) ∧ x.length ≤ 100000 ∧ T.length ≤ 100000 ∧ made.length ≤ n ∧ Rq H (.ref lr) R34 ∧ Rq H (.ref lc) R34c ∧ S34 H0 Ts C CO o dm made t1 d1 s1 l1 t2 d2 s2 l2 s s H ∧ H p = some (.lst (ds.map V.int))
def spLaw34 (K : PySem.W.Frag) (Ts : List Addr) : Sp := fun vs H Q _ => ∃ (a : Addr) (ns : List Int), vs = [.ref a] ∧ SqL K H a (ns.map V.int) ∧ Tabs Ts H ∧ ns.length ≤ 63 ∧ ∀ H', Q (.bl true) H'
section
variable {P : Program} {w : World} {K : PySem.W.Frag} {mg : Str → Option Value} {base : Heap} {f : Addr} {fd : FuncData} {C CO CK CT CB CD CR : Addr} {Ts : List Addr}
theorem ok_law34 (F : Fun K "law" "law" s_law f fd) (B : Blt mg) (c_law_cell : Cal P w K mg base CX0 1 "_law_cell" (spCellA K)) (c_law_draws : Cal P w K mg base CX0 1 "_law_draws" (spDraws K)) (c_law_refused : Cal P w K mg base CX0 28 "_law_refused" (spRefd34 C Ts)) (c_law_offer : Cal P w K mg base CX0 29 "_law_offer" (spOff34 C CO Ts)) (c_law_told : Cal P w K mg base CX0 4 "_law_told" (spTold34 C)) (c_law_shelf : Cal P w K mg base CX0 26 "_law_shelf" (spShelf34 CO Ts)) (c_law_stamp : Cal P w K mg base CX0 26 "_law_stamp" (spStamp34 CO Ts))
    (c_seal : Cal P w K mg base (L2.CX P w) 24 "seal" (spSeal2 CO CK CT K Ts)) (c_write : Cal P w K mg base (L2.CX P w) 24 "write" (spWrite CD Ts)) (k_Seals : CalK P w K mg base CX0 1 CO "Seals" (spInit CO)) (k_Trusted : CalK P w K mg base (CXG P w) 27 C "Trusted" (spTInit C CO CR Ts)) (m_Trusted_accept_stamp : CalM P w K mg base (CXG P w) 27 C "accept_stamp" (spAcc accSt C CO CR Ts)) (m_Trusted_accept_shelf : CalM P w K mg base (CXG P w) 27 C "accept_shelf" (spAcc accSh C CO CR Ts))
    (m_Trusted_restore_stamp : CalM P w K mg base (CXG P w) 26 C "restore_stamp" (spRst C CR Ts)) (m_Trusted_restore_shelf : CalM P w K mg base (CXG P w) 26 C "restore_shelf" (spRsh C CR Ts)) (m_Trusted_outdated : CalM P w K mg base CX0 3 C "outdated" (spTOut C)) (m_Trusted_stamp : CalM P w K mg base CX0 1 C "stamp" (spTDoc C kT)) (m_Trusted_shelf : CalM P w K mg base CX0 1 C "shelf" (spTDoc C kF)) (m_Trusted_roles : CalM P w K mg base CX0 1 C "roles" (spTRoles C)) (m_Trusted_forget : CalM P w K mg base CX0 1 C "forget" (spTForg C)) :
    FnOk P w K mg base CX0 30 f fd ["script"] (spLaw34 K Ts) := by
  refine F.ok sc_law (fun vs H Q E h => ?_) (fun cdv A outer s H vs Q E hr h => ?_)
  · obtain ⟨a, ns, rfl, _⟩ := h; rfl
  obtain ⟨a, ns, rfl, hS, hG, hl, q⟩ := h
  refine ⟨_, (pss_cons (ps_set (i := 1) sc_law.nd rfl (Or.inl rfl) (c_law_cell.pe hr (pa_cons (pv 0) (pa_cons pe_int pa_nil))))
    (pss_cons (ps_set (i := 2) sc_law.nd rfl (Or.inl rfl) (k_Seals.pe0 hr))
    (C8.pss_cut (ps_set (i := 3) sc_law.nd rfl (Or.inl rfl) (pe_tup (pa_cons (pe_tup (pa_cons pe_int (pa_cons (pe_tup (pa_cons pe_str pa_nil)) pa_nil))) (pa_cons (pe_tup (pa_cons pe_int (pa_cons (pe_tup (pa_cons pe_str pa_nil)) pa_nil))) (pa_cons (pe_tup (pa_cons pe_int (pa_cons (pe_tup (pa_cons pe_str pa_nil)) pa_nil))) (pa_cons (pe_tup (pa_cons pe_int (pa_cons (pe_tup (pa_cons pe_str pa_nil)) pa_nil))) pa_nil))))))
    (C8.pss_cut (ps_set (i := 4) sc_law.nd rfl (Or.inl rfl) (c_seal.peL hr (pa_cons (pv 2) (pa_cons (c_write.peL hr (pa_cons (pe_tup (pa_cons pe_str (pa_cons pe_int (pa_cons pe_int (pa_cons (pv 3) pa_nil))))) pa_nil)) (pa_cons (pe_lst (pa_cons pe_str pa_nil)) pa_nil)))))
    (C8.pss_cut (ps_set (i := 5) sc_law.nd rfl (Or.inl rfl) (k_Trusted.pex hr passGL (pa_cons (pv 2) (pa_cons (pv 4) pa_nil))))
    (C8.pss_cut (ps_set (i := 6) sc_law.nd rfl (Or.inl rfl) (k_Trusted.pex hr passGL (pa_cons (pv 2) (pa_cons (pv 4) pa_nil))))
    (C8.pss_cut (ps_if (PW.pt (pw_or (pt_cmpR op_ne (c_law_refused.pe hr (pa_cons (pv 6) (pa_cons pe_str (pa_cons (pv 4) pa_nil)))) pe_str (nomark _)) (pw_or1 (pt_cmpR op_ne (c_law_refused.pe hr (pa_cons (pv 6) (pa_cons pe_str (pa_cons (pe_ix ix_lM (pe_lst (pa_cons pe_non (pa_cons pe_str (pa_cons (pv 4) pa_nil)))) (pe_op op_mod (pv 1) pe_int) (fun _ _ => rfl)) pa_nil)))) pe_str (nomark _))))) (pss_one (ps_ret pe_bl)) pss_nil)
    (pss_cons (ps_set (i := 7) sc_law.nd rfl (Or.inl rfl) (pe_op op_add pe_int (pe_op op_mod (pe_op op_fdivW (pv 1) pe_int) pe_int)))
    (pss_cons (ps_asg (c_law_shelf.pe hr (pa_cons (pv 2) (pa_cons (pv 7) (pa_cons (pe_op op_add pe_int (pe_op op_mod (pe_op op_fdivW (pv 1) pe_int) pe_int)) pa_nil)))) (pg_tup rfl (pgs_cons (pg_name (i := 8) sc_law.nd rfl (Or.inl rfl)) (pgs_cons (pg_name (i := 9) sc_law.nd rfl (Or.inl rfl)) pgs_nil))))
    (C8.pss_cut (ps_set (i := 10) sc_law.nd rfl (Or.inl rfl) (c_law_stamp.pe hr (pa_cons (pv 2) (pa_cons pe_int (pa_cons (pv 7) (pa_cons (pv 8) (pa_cons pe_str pa_nil)))))))
    (C8.pss_cut (ps_expr (m_Trusted_accept_stamp.pex hr passGL (pv 5) (pa_cons (pv 10) pa_nil)))
    (C8.pss_cut (ps_if (PW.pt (pw_or (pt_cmpR (op_neD hr.units) (m_Trusted_restore_stamp.pex hr passGL (pv 6) (pa_cons (pv 10) (pa_cons (m_Trusted_roles.pe0 hr (pv 5)) pa_nil))) (m_Trusted_stamp.pe0 hr (pv 5)) (nomark _)) (pw_or1 (pt_cmpR op_ne (c_law_refused.pe hr (pa_cons (pv 6) (pa_cons pe_str (pa_cons (pv 10) pa_nil)))) pe_str (nomark _))))) (pss_one (ps_ret pe_bl)) pss_nil)
    (C8.pss_cut (ps_if (pt_cmpR op_gt (pe_op op_mod (pe_op op_fdivW (pv 1) pe_int) pe_int) pe_int (nomark _)) (C8.pss_cut (ps_expr (m_Trusted_accept_shelf.pex hr passGL (pv 5) (pa_cons (pv 8) pa_nil)))
    (pss_one (ps_if (pt_cmpR (op_neD hr.units) (m_Trusted_restore_shelf.pex hr passGL (pv 6) (pa_cons (pv 8) pa_nil)) (m_Trusted_shelf.pe0 hr (pv 5)) (nomark _)) (pss_one (ps_ret pe_bl)) pss_nil))) pss_nil)
    (C8.pss_cut (ps_if (pt_cmpR (op_neD hr.units) (c_law_told.pe hr (pa_cons (pv 5) pa_nil)) (c_law_told.pe hr (pa_cons (pv 6) pa_nil)) (nomark _)) (pss_one (ps_ret pe_bl)) pss_nil)
    (C8.pss_cut (ps_set (i := 11) sc_law.nd rfl (Or.inl rfl) (pe_tup (pa_cons (pe_ix ix_tM (pv 3) pe_int (fun _ _ => rfl)) (pa_cons (pe_tup (pa_cons pe_int (pa_cons (pe_tup (pa_cons pe_str pa_nil)) pa_nil))) (pa_cons (pe_ix ix_tM (pv 3) pe_int (fun _ _ => rfl)) (pa_cons (pe_ix ix_tM (pv 3) pe_int (fun _ _ => rfl)) pa_nil))))))
    (C8.pss_cut (ps_for PassesOwn.never rfl (pi_list (c_law_draws.pe hr (pa_cons (pv 0) (pa_cons pe_int (pa_cons pe_int pa_nil))))) (pg_name (i := 12) sc_law.nd rfl (Or.inl rfl)) (pss_cons (ps_set (i := 13) sc_law.nd rfl (Or.inl rfl) (pe_op op_mod (pv 12) pe_int))
    (pss_cons (ps_set (i := 14) sc_law.nd rfl (Or.inl rfl) (pe_op op_fdivW (pv 12) pe_int))
    (C8.pss_cut (ps_if (pt_cmpR op_eq (pv 13) pe_int (nomark _)) (pss_cons (ps_set (i := 15) sc_law.nd rfl (Or.inl rfl) (pe_ix ix_lM (pe_lst (pa_cons (pv 3) (pa_cons (pv 11) pa_nil))) (pe_op op_mod (pe_op op_fdivW (pv 14) pe_int) pe_int) (fun _ _ => rfl)))
    (pss_cons (ps_set (i := 16) sc_law.nd rfl (Or.inl rfl) (c_seal.peL hr (pa_cons (pv 2) (pa_cons (c_write.peL hr (pa_cons (pe_tup (pa_cons pe_str (pa_cons (pe_op op_add pe_int (pe_op op_mod (pv 14) pe_int)) (pa_cons pe_int (pa_cons (pv 15) pa_nil))))) pa_nil)) (pa_cons (pe_lst (pa_cons pe_str pa_nil)) pa_nil)))))
    (pss_one (ps_set (i := 17) sc_law.nd rfl (Or.inl rfl) (pe_tup (pa_cons pe_int (pa_cons (pv 16) pa_nil))))))) (pss_one (ps_if (pt_cmpR op_lt (pv 13) pe_int (nomark _)) (pss_cons (ps_asg (c_law_shelf.pe hr (pa_cons (pv 2) (pa_cons (pe_op op_add pe_int (pe_op op_mod (pv 14) pe_int)) (pa_cons (pe_op op_add pe_int (pe_op op_mod (pe_op op_fdivW (pv 14) pe_int) pe_int)) pa_nil)))) (pg_tup rfl (pgs_cons (pg_name (i := 18) sc_law.nd rfl (Or.inl rfl)) (pgs_cons (pg_name (i := 9) sc_law.nd rfl (Or.inl rfl)) pgs_nil))))
    (C8.pss_cut (ps_set (i := 19) sc_law.nd rfl (Or.inl rfl) (pe_ix ix_lM (pe_lst (pa_cons pe_str (pa_cons pe_str (pa_cons pe_str pa_nil)))) (pe_op op_mod (pe_op op_fdivW (pv 14) pe_int) pe_int) (fun _ _ => rfl)))
    (pss_one (ps_set (i := 17) sc_law.nd rfl (Or.inl rfl) (pe_tup (pa_cons pe_int (pa_cons (c_law_stamp.pe hr (pa_cons (pv 2) (pa_cons (pe_op op_add pe_int (pe_op op_mod (pe_op op_fdivW (pv 14) pe_int) pe_int)) (pa_cons (pe_op op_add pe_int (pe_op op_mod (pv 14) pe_int)) (pa_cons (pv 18) (pa_cons (pv 19) pa_nil)))))) pa_nil))))))) (pss_one (ps_if (pt_cmpR op_lt (pv 13) pe_int (nomark _)) (pss_one (ps_set (i := 17) sc_law.nd rfl (Or.inl rfl) (pe_tup (pa_cons pe_int (pa_cons (pe_ix ix_lM (pe_lst (pa_cons (pv 8) (pa_cons (pe_ix ix_tM (c_law_shelf.pe hr (pa_cons (pv 2) (pa_cons (pe_op op_add pe_int (pe_op op_mod (pv 14) pe_int)) (pa_cons (pe_op op_add pe_int (pe_op op_mod (pe_op op_fdivW (pv 14) pe_int) pe_int)) pa_nil)))) pe_int (fun _ _ => rfl)) pa_nil))) (pe_op op_mod (pe_op op_fdivW (pv 14) pe_int) pe_int) (fun _ _ => rfl)) pa_nil))))) (pss_one (ps_set (i := 17) sc_law.nd rfl (Or.inl rfl) (pe_tup (pa_cons pe_int (pa_cons (pe_ix ix_lM (pe_lst (pa_cons (pv 9) (pa_cons (pe_ix ix_tM (c_law_shelf.pe hr (pa_cons (pv 2) (pa_cons (pv 7) (pa_cons (pe_op op_add pe_int (pe_op op_mod (pe_op op_fdivW (pv 1) pe_int) pe_int)) pa_nil)))) pe_int (fun _ _ => rfl)) pa_nil))) (pe_op op_mod (pv 14) pe_int) (fun _ _ => rfl)) pa_nil))))))))))
    (C8.pss_cut (ps_if (PW.pt (pw_or (pt_cmpR (op_neD hr.units) (c_law_offer.pe hr (pa_cons (pv 5) (pa_cons (pe_ix ix_tM (pv 17) pe_int (fun _ _ => rfl)) (pa_cons (pe_ix ix_tM (pv 17) pe_int (fun _ _ => rfl)) pa_nil)))) (c_law_offer.pe hr (pa_cons (pv 6) (pa_cons (pe_ix ix_tM (pv 17) pe_int (fun _ _ => rfl)) (pa_cons (pe_ix ix_tM (pv 17) pe_int (fun _ _ => rfl)) pa_nil)))) (nomark _)) (pw_or1 (pt_cmpR (op_neD hr.units) (c_law_told.pe hr (pa_cons (pv 5) pa_nil)) (c_law_told.pe hr (pa_cons (pv 6) pa_nil)) (nomark _))))) (pss_one (ps_ret pe_bl)) pss_nil)
    (pss_one (ps_if (PW.pt (pw_and (pt_val (m_Trusted_outdated.pe0 hr (pv 5))) (pw_and1 (pt_cmpR op_eq (pe_op op_mod (pv 14) pe_int) pe_int (nomark _))))) (C8.pss_cut (ps_expr (m_Trusted_forget.pe0 hr (pv 5)))
    (pss_one (ps_expr (m_Trusted_forget.pe0 hr (pv 6))))) pss_nil)))))))
    (pss_one (ps_ret (pe_cmpR (op_eqD hr.units) (c_law_told.pe hr (pa_cons (pv 5) pa_nil)) (c_law_told.pe hr (pa_cons (pv 6) pa_nil)) (nomark _)))))))))))))))))))), ?_⟩
  have lim : sizeLine = 16777216 := sizeLine_eq
  walk_at "wq"
  refine ⟨a, ns, 0, rfl, hS, hl, fun ce ce0 => ?_⟩
  intro o dx n1 n2 n3
  refine ⟨o, dx, rfl, upd_same, fun dm H2 hd nm O2 k2 => ⟨rfl, ?_⟩⟩
  have K2 := mk_kp n1 n2 n3 k2
  have g2 := hG.kp0 K2
  have fdm : H dm = none := by
    rw [upd_ne (ne_of_none upd_same hd).symm] at hd
    by_cases e : dm = dx
    · rw [e]; exact n2
    · rw [upd_ne e] at hd; exact hd
  refine ⟨fun σ H3 => ∃ lr : Addr, σ = [some (.ref a), some (.int ce), some (.ref o), some (.ref lr), none, none, none, none, none, none, none, none, none, none, none, none, none, none, none, none] ∧ Rq H3 (.ref lr) R34 ∧ Kp [] H2 H3, ?_, fun σ H3 ⟨lr, hσ, Rl, k3⟩ => ?_⟩
  · walk_at "wq"
    refine ⟨by omega, fun q1 hq1 => ⟨by omega, fun r1 hr1 => ⟨by omega, fun q2 hq2 => ⟨by omega, fun r2 hr2 => ⟨by omega, fun q3 hq3 => ⟨by omega, fun r3 hr3 => ⟨by omega, fun q4 hq4 => ⟨by omega, fun r4 hr4 => ⟨by omega, fun lr hlr => ?_⟩⟩⟩⟩⟩⟩⟩⟩⟩
    have aq1 := Kp.new (S := []) hq1 (.tup [V.str (Str.ofString "k1")])
    have ar1 := Kp.new (S := []) hr1 (.tup [V.int 1, V.ref q1])
    have aq2 := Kp.new (S := []) hq2 (.tup [V.str (Str.ofString "k2")])
    have ar2 := Kp.new (S := []) hr2 (.tup [V.int 1, V.ref q2])
    have aq3 := Kp.new (S := []) hq3 (.tup [V.str (Str.ofString "k3")])
    have ar3 := Kp.new (S := []) hr3 (.tup [V.int 1, V.ref q3])
    have aq4 := Kp.new (S := []) hq4 (.tup [V.str (Str.ofString "k4")])
    have ar4 := Kp.new (S := []) hr4 (.tup [V.int 1, V.ref q4])
    have alr := Kp.new (S := []) hlr (.tup [V.ref r1, V.ref r2, V.ref r3, V.ref r4])
    have aa := aq1.trans (ar1.trans (aq2.trans (ar2.trans (aq3.trans (ar3.trans (aq4.trans (ar4.trans (alr))))))))
    exact ⟨.tup upd_same (.cons (.tup ((aq2.trans (ar2.trans (aq3.trans (ar3.trans (aq4.trans (ar4.trans (alr))))))).tup _ _ upd_same) (.cons (.int _) (.cons (.tup ((ar1.trans (aq2.trans (ar2.trans (aq3.trans (ar3.trans (aq4.trans (ar4.trans (alr)))))))).tup _ _ upd_same) (.cons (.str _) .nil)) .nil))) (.cons (.tup ((aq3.trans (ar3.trans (aq4.trans (ar4.trans (alr))))).tup _ _ upd_same) (.cons (.int _) (.cons (.tup ((ar2.trans (aq3.trans (ar3.trans (aq4.trans (ar4.trans (alr)))))).tup _ _ upd_same) (.cons (.str _) .nil)) .nil))) (.cons (.tup ((aq4.trans (ar4.trans (alr))).tup _ _ upd_same) (.cons (.int _) (.cons (.tup ((ar3.trans (aq4.trans (ar4.trans (alr)))).tup _ _ upd_same) (.cons (.str _) .nil)) .nil))) (.cons (.tup ((alr).tup _ _ upd_same) (.cons (.int _) (.cons (.tup ((ar4.trans (alr)).tup _ _ upd_same) (.cons (.str _) .nil)) .nil))) .nil)))), aa⟩
  subst hσ
  refine ⟨fun σ H4 => ∃ (X : Str) (made : List (Str × Str)), σ = [some (.ref a), some (.int ce), some (.ref o), some (.ref lr), some (.str X), none, none, none, none, none, none, none, none, none, none, none, none, none, none, none] ∧ Sld made kC X ch34 [Str.ofString "k1"] ∧ X.length ≤ 100000 ∧ made.length ≤ 1 ∧ Rq H4 (.ref lr) R34 ∧ Ofc CO o dm made H4 ∧ Kp Ts H H4 ∧ Tabs Ts H4, ?_, fun σ H4 ⟨X, made, hσ, sX, lX, ml, Rl, O4, k4, g4⟩ => ?_⟩
  · walk_at "wq"
    refine ⟨by omega, fun pc hpc => ?_⟩
    have a1 := Kp.new (S := []) hpc (.tup [V.str (Str.ofString "charter"), V.int 1, V.int 9, V.ref lr])
    have Rc : Rq _ (.ref pc) ch34 := .tup (upd_same : upd H3 pc (.tup [V.str (Str.ofString "charter"), V.int 1, V.int 9, V.ref lr]) pc = _) (.cons (.str _) (.cons (.int _) (.cons (.int _) (.cons (Rl.kp0 a1) .nil))))
    have g3 := g2.kp0 (k3.trans a1)
    refine ⟨.ref pc, ch34, rfl, Rc, okD_sz sz34, g3, fun _ H4 k4 g4 => ⟨by omega, fun pl hpl => ?_⟩, fun no => (by rw [show isDoc ch34 = true from isK_doc (k := kC) (by rw [isK_C]; exact ic34)] at no; cases no)⟩
    have a5 := Kp.new (S := []) hpl (.lst [V.str (Str.ofString "k1")])
    have O5 := ((O2.kp (k3.trans a1) List.not_mem_nil List.not_mem_nil).tabs k4 g3).kp a5 List.not_mem_nil List.not_mem_nil
    refine seal_one O5 (by decide) upd_same ⟨1, by decide, by decide, by decide +kernel⟩ (by rw [isK_C]; exact ic34) sz34 (g4.kp0 a5) fun S made' H6 sl lS ms ml O6 k6 g6 => ?_
    have kk : Kp (dm :: Ts) H H6 := ((((K2.trans k3).trans a1).in0.trans (k4.trans a5.in0)).mono fun b m => List.mem_cons_of_mem _ m).trans k6
    exact ⟨S, rfl, made', sl, lS, by simpa using ml, Rl.pure ((a1.in0.trans (k4.trans a5.in0)).mono (fun b m => List.mem_cons_of_mem _ m) |>.trans k6) (by decide +kernel), O6, Kp.drop fdm kk, g6⟩
  subst hσ
  refine ⟨fun σ H5 => ∃ (t1 d1 s1 l1 : Addr), σ = [some (.ref a), some (.int ce), some (.ref o), some (.ref lr), some (.str X), some (.ref t1), none, none, none, none, none, none, none, none, none, none, none, none, none, none] ∧ Trs C t1 d1 s1 l1 o (Tst.one ch34 X) H5 ∧ H4 t1 = none ∧ H4 d1 = none ∧ H4 s1 = none ∧ H4 l1 = none ∧ Kp Ts H4 H5 ∧ Tabs Ts H5, ?_, fun σ H5 ⟨t1, d1, s1, l1, hσ, T1, f1, f2, f3, f4, k5, g5⟩ => ?_⟩
  · walk_at "wq"
    intro x dx n1 n2 n3
    have kN : Kp [] H4 (upd (upd H4 dx (.own x)) x (.ins C dx [])) := (Kp.new n2 _).trans (Kp.new (by rw [upd_ne n3.symm]; exact n1) _)
    have back : ∀ {G : Hp}, Kp (x :: Ts) (upd (upd H4 dx (.own x)) x (.ins C dx [])) G → Kp Ts H4 G := fun k => Kp.drop n1 (kN.in0.trans k)
    have gone : ∀ {b : Addr}, upd (upd H4 dx (.own x)) x (.ins C dx []) b = none → H4 b = none := fun h => kN.gone1 (fun b m => absurd m List.not_mem_nil) h
    have sg : Sgn made X (rlD ch34 0) := sgnF_iff.mp (sX.2 made (fun p m => m) 1 [Str.ofString "k1"] [Str.ofString "k1"] (by simp) (fun z m => m) (fun z m => m) (by decide))
    refine ⟨x, dx, o, dm, made, .str X, rfl, upd_same, O4.kp kN List.not_mem_nil List.not_mem_nil, ⟨_, rfl⟩, fun z e => (by cases e; omega), g4.kp0 kN, fun S' d' e D' sg' a1 a2 a3 G b1 b2 b3 T1 k g => ⟨rfl, ?_⟩, fun nd => absurd sX.1 (nd X ch34 rfl), fun S' d' e D' ns => ?_⟩
    · cases e
      cases doc_uni sX.1 D'
      exact ⟨a1, a2, a3, T1, n1, gone b1, gone b2, gone b3, back k, g⟩
    · cases e
      cases doc_uni sX.1 D'
      exact absurd sg ns
  subst hσ
  refine ⟨fun σ H6 => ∃ (t2 d2 s2 l2 : Addr), σ = [some (.ref a), some (.int ce), some (.ref o), some (.ref lr), some (.str X), some (.ref t1), some (.ref t2), none, none, none, none, none, none, none, none, none, none, none, none, none] ∧ Trs C t2 d2 s2 l2 o (Tst.one ch34 X) H6 ∧ H5 t2 = none ∧ H5 d2 = none ∧ H5 s2 = none ∧ H5 l2 = none ∧ Kp Ts H5 H6 ∧ Tabs Ts H6, ?_, fun σ H6 ⟨t2, d2, s2, l2, hσ, T2, e1, e2, e3, e4, k6, g6⟩ => ?_⟩
  · walk_at "wq"
    intro x dx n1 n2 n3
    have kN : Kp [] H5 (upd (upd H5 dx (.own x)) x (.ins C dx [])) := (Kp.new n2 _).trans (Kp.new (by rw [upd_ne n3.symm]; exact n1) _)
    have back : ∀ {G : Hp}, Kp (x :: Ts) (upd (upd H5 dx (.own x)) x (.ins C dx [])) G → Kp Ts H5 G := fun k => Kp.drop n1 (kN.in0.trans k)
    have gone : ∀ {b : Addr}, upd (upd H5 dx (.own x)) x (.ins C dx []) b = none → H5 b = none := fun h => kN.gone1 (fun b m => absurd m List.not_mem_nil) h
    have sg : Sgn made X (rlD ch34 0) := sgnF_iff.mp (sX.2 made (fun p m => m) 1 [Str.ofString "k1"] [Str.ofString "k1"] (by simp) (fun z m => m) (fun z m => m) (by decide))
    refine ⟨x, dx, o, dm, made, .str X, rfl, upd_same, (O4.tabs k5 g4).kp kN List.not_mem_nil List.not_mem_nil, ⟨_, rfl⟩, fun z e => (by cases e; omega), g5.kp0 kN, fun S' d' e D' sg' a1 a2 a3 G b1 b2 b3 T1 k g => ⟨rfl, ?_⟩, fun nd => absurd sX.1 (nd X ch34 rfl), fun S' d' e D' ns => ?_⟩
    · cases e
      cases doc_uni sX.1 D'
      exact ⟨a1, a2, a3, T1, n1, gone b1, gone b2, gone b3, back k, g⟩
    · cases e
      cases doc_uni sX.1 D'
      exact absurd sg ns
  subst hσ
  have E6 : S34 H Ts C CO o dm made t1 d1 s1 l1 t2 d2 s2 l2 (Tst.one ch34 X) (Tst.one ch34 X) H6 := by
    have O5 := O4.tabs k5 g4
    have T1' := T1.tabs k6 g5
    obtain ⟨_, _, h1, _⟩ := T1.ob
    obtain ⟨_, hd1, _⟩ := T1.d1
    obtain ⟨_, hd3, _⟩ := T1.d3
    have nw : ∀ {y : Addr}, H5 y = none → y ∉ [t1, d1, s1, l1] := fun h => by
      simp only [List.mem_cons, List.not_mem_nil, or_false, not_or]
      exact ⟨(ne_of_none h1 h).symm, (ne_of_none hd1 h).symm, (ne_of_none T1.d2 h).symm, (ne_of_none hd3 h).symm⟩
    have u4 : ∀ {y : Addr}, H4 y = none → H y = none := fun h => k4.gone g4 h
    have u5 : ∀ {y : Addr}, H5 y = none → H y = none := fun h => u4 (k5.gone g5 h)
    refine ⟨O5.tabs k6 g5, g6, T1', T2, fun y m mm => ?_, k4.trans (k5.trans k6), fun y m => ?_⟩
    · simp only [List.mem_cons, List.not_mem_nil, or_false] at mm
      rcases mm with rfl | rfl | rfl | rfl
      · exact nw e1 m
      · exact nw e2 m
      · exact nw e3 m
      · exact nw e4 m
    · simp only [List.mem_cons, List.not_mem_nil, or_false] at m
      rcases m with rfl | rfl | rfl | rfl | rfl | rfl | rfl | rfl | rfl
      · exact fdm
      · exact u4 f1
      · exact u4 f2
      · exact u4 f3
      · exact u4 f4
      · exact u5 e1
      · exact u5 e2
      · exact u5 e3
      · exact u5 e4
  have Rl := Rl.pure (k5.trans k6) (show purD R34 = true by decide +kernel)
  clear O2 K2 g2 fdm k3 O4 k4 g4 T1 f1 f2 f3 f4 k5 g5 T2 e1 e2 e3 e4 k6 g6 k2 hd n1 n2 n3
  have iv1 : Iv 1 (Tst.one ch34 X) := ⟨Nat.le_refl _, Nat.le_refl _, .inl rfl, fun p m => by cases List.mem_singleton.mp m; exact sX.1.prn⟩
  refine ⟨fun σ H7 => σ = [some (.ref a), some (.int ce), some (.ref o), some (.ref lr), some (.str X), some (.ref t1), some (.ref t2), none, none, none, none, none, none, none, none, none, none, none, none, none] ∧ Rq H7 (.ref lr) R34 ∧ S34 H Ts C CO o dm made t1 d1 s1 l1 t2 d2 s2 l2 (Tst.one ch34 X) (Tst.one ch34 X) H7, ?_, fun σ H7 ⟨hσ, Rl, E7⟩ => ?_⟩
  · walk_at "wq"
    have sm1 := iv1.sm (by decide)
    have m1 : (if Str.ofString "shelf" = Str.ofString "stamp" then resSt (Tst.one ch34 X) (.str X) rs34 else resSh (Tst.one ch34 X) (.str X)) = .error (Str.ofString "missing") := by
      rw [if_neg (by decide +kernel)]
      unfold resSh
      rw [one_docs.2.1]; rfl
    refine ⟨t2, d2, s2, l2, o, _, _, _, .str X, rfl, E6.T2, sm1, (fun _ => ⟨_, rfl⟩), fun z e => (by cases e; omega), E6.g, m1, fun H7 k7 g7 => ⟨rfl, if_no (fun h => h rfl) ⟨by omega, fun p hp => ⟨by decide, ?_⟩⟩⟩⟩
    have E7 := E6.tabs k7 g7
    have a8 := Kp.new (S := []) hp (.lst [V.non, V.str (Str.ofString ""), V.str X])
    have E8 := E7.kp0 a8
    have Rl8 := (Rl.pure k7 (show purD R34 = true by decide +kernel)).kp0 a8
    have bad : ∀ v : V, docV kT v = none → (∀ G, ∃ t, tyN G v = some t) → (∀ z, v = .str z → z.length ≤ 10000000) → ∀ (Qq : VK), (∀ H9, Kp Ts _ H9 → Tabs Ts H9 → Qq (.str (Str.ofString "form")) H9) → spRefd34 C Ts [V.ref t2, V.str (Str.ofString "stamp"), v] (upd H7 p (.lst [V.non, V.str (Str.ofString ""), V.str X])) Qq E0 := fun v dn ty sz Qq hq => by
      refine ⟨t2, d2, s2, l2, o, _, _, _, v, rfl, E8.T2, sm1, ty, sz, E8.g, ?_, hq⟩
      rw [if_pos rfl]
      unfold resSt
      rw [dn]; rfl
    have fin : ∀ H9, Kp Ts (upd H7 p (.lst [V.non, V.str (Str.ofString ""), V.str X])) H9 → Tabs Ts H9 → Rq H9 (.ref lr) R34 ∧ S34 H Ts C CO o dm made t1 d1 s1 l1 t2 d2 s2 l2 (Tst.one ch34 X) (Tst.one ch34 X) H9 := fun H9 k9 g9 => ⟨Rl8.pure k9 (by decide +kernel), E8.tabs k9 g9⟩
    have : ce % 3 = 0 ∨ ce % 3 = 1 ∨ ce % 3 = 2 := by omega
    rcases this with e | e | e
    · rw [e]
      exact ⟨_, rfl, bad _ rfl (fun _ => ⟨_, rfl⟩) (fun z h => by cases h) _ fun H9 k9 g9 => ⟨rfl, if_no (fun h => h rfl) (fin H9 k9 g9)⟩⟩
    · rw [e]
      exact ⟨_, rfl, bad _ (by decide +kernel) (fun _ => ⟨_, rfl⟩) (fun z h => by cases h; decide +kernel) _ fun H9 k9 g9 => ⟨rfl, if_no (fun h => h rfl) (fin H9 k9 g9)⟩⟩
    · rw [e]
      exact ⟨_, rfl, bad _ (docV_noneOf fun x d ex D => by cases ex; exact absurd (doc_kind sX.1 D) (by decide +kernel)) (fun _ => ⟨_, rfl⟩) (fun z h => by cases h; omega) _ fun H9 k9 g9 => ⟨rfl, if_no (fun h => h rfl) (fin H9 k9 g9)⟩⟩
  subst hσ
  walk_at "wq"
  refine ⟨two200 (by decide) (by decide), by decide, two200 (by decide) (by decide), by decide, ?_⟩
  have v0 : 2 ≤ 2 + ce / 3 % 5 ∧ 2 + ce / 3 % 5 ≤ 6 := by omega
  have w0 : 2 ≤ 2 + ce / 15 % 3 ∧ 2 + ce / 15 % 3 ≤ 4 := by omega
  generalize hv : 2 + ce / 3 % 5 = v at *
  generalize hw : 2 + ce / 15 % 3 = lv at *
  refine ⟨o, dm, v, lv, made, rfl, E7.O, by omega, by omega, by omega, by omega, by omega, E7.g, fun p S T made2 H8 ep sF sT lS lT ms8 ml8 O8 k8 g8 => ?_⟩
  refine ⟨_, _, rfl, SqT.of ep, rfl, _, _, rfl, _, _, rfl, rfl, ?_⟩
  have E8 := E7.seal k8 O8 g8
  have Rl := Rl.pure k8 (show purD R34 = true by decide +kernel)
  refine ⟨fun σ H9 => ∃ (Z : Str) (made3 : List (Str × Str)), σ = [some (.ref a), some (.int ce), some (.ref o), some (.ref lr), some (.str X), some (.ref t1), some (.ref t2), some (.int v), some (.str S), some (.str T), some (.str Z), none, none, none, none, none, none, none, none, none] ∧ Sld made3 kT Z (tmD 3 8 v S) [Str.ofString "k2"] ∧ Z.length ≤ 100000 ∧ (∀ p ∈ made2, p ∈ made3) ∧ made3.length ≤ 5 ∧ Rq H9 (.ref lr) R34 ∧ S34 H Ts C CO o dm made3 t1 d1 s1 l1 t2 d2 s2 l2 (Tst.one ch34 X) (Tst.one ch34 X) H9, ?_, fun σ H9 ⟨Z, made3, hσ, sZ, lZ, ms9, ml9, Rl, E9⟩ => ?_⟩
  · walk_at "wq"
    exact ⟨o, dm, 3, v, S, _, made2, rfl, E8.O, by omega, by decide, by decide, by omega, by omega, lS, ⟨2, by decide, by decide, by decide +kernel⟩, E8.g, fun Z made3 H9 sZ lZ ms9 ml9 O9 k9 g9 => ⟨Z, rfl, made3, sZ, lZ, ms9, by omega, Rl.pure k9 (by decide +kernel), E8.seal k9 O9 g9⟩⟩
  subst hσ
  have och : (Tst.one ch34 X).ch = ch34 := by unfold Tst.ch; rw [one_docs.1]; rfl
  have sg1 : sgnF made3 Z (rlD (Tst.one ch34 X).ch 1) = true := by
    rw [och]
    exact sZ.2 made3 (fun p m => m) 1 [Str.ofString "k2"] [Str.ofString "k2"] (by simp) (fun z m => m) (fun z m => m) (by decide)
  have rse : (Tst.one ch34 X).pres = .tuple [rk "k2", rk "k3"] := by unfold Tst.pres; rw [och]; rfl
  generalize hsp : tmD 3 8 v S = sp at *
  refine ⟨fun σ HA => ∃ (l1' : Addr), σ = [some (.ref a), some (.int ce), some (.ref o), some (.ref lr), some (.str X), some (.ref t1), some (.ref t2), some (.int v), some (.str S), some (.str T), some (.str Z), none, none, none, none, none, none, none, none, none] ∧ Rq HA (.ref lr) R34 ∧ S34 H Ts C CO o dm made3 t1 d1 s1 l1' t2 d2 s2 l2 (st37a ch34 (Tst.one ch34 X).pres sp X Z) (Tst.one ch34 X) HA, ?_, fun σ HA ⟨l1', hσ, Rl, EA⟩ => ?_⟩
  · walk_at "wq"
    obtain ⟨dx1, rv1, ho1, _⟩ := E9.T1.ob
    refine ⟨dx1, _, ho1, rfl, t1, d1, s1, l1, o, dm, _, made3, .str Z, rfl, E9.T1, iv1.sm (by decide), E9.O, ⟨_, rfl⟩, fun z e => (by cases e; omega), E9.g, ?_⟩
    rw [accSt_one sZ.1 sg1]
    exact fun u dl' HA kA gA hd TA RA => ⟨Rl.pure kA (by decide +kernel), dl', E9.one kA gA hd TA⟩
  subst hσ
  obtain ⟨q1, q2, q3, q4, q5⟩ := st37a_at ch34 (Tst.one ch34 X).pres sp X Z
  have iv2 : Iv 2 (st37a ch34 (Tst.one ch34 X).pres sp X Z) := Iv.keep (n := 1) (s := { Tst.one ch34 X with rol := (Tst.one ch34 X).pres }) ⟨iv1.a, iv1.b, iv1.c, iv1.p⟩ sZ.1
  refine ⟨fun σ HB => ∃ (l2' : Addr), σ = [some (.ref a), some (.int ce), some (.ref o), some (.ref lr), some (.str X), some (.ref t1), some (.ref t2), some (.int v), some (.str S), some (.str T), some (.str Z), none, none, none, none, none, none, none, none, none] ∧ Rq HB (.ref lr) R34 ∧ S34 H Ts C CO o dm made3 t1 d1 s1 l1' t2 d2 s2 l2' (st37a ch34 (Tst.one ch34 X).pres sp X Z) (st37a ch34 (Tst.one ch34 X).pres sp X Z) HB, ?_, fun σ HB ⟨l2', hσ, Rl, EB⟩ => ?_⟩
  · walk_at "wq"
    obtain ⟨x1, _, ho1, _⟩ := EA.T1.ob
    obtain ⟨x2, _, ho2, _⟩ := EA.T2.ob
    have po := pres_ok EA.T2.ok
    refine ⟨x2, _, ho2, rfl, x1, _, ho1, rfl, t1, d1, s1, l1', o, _, rfl, EA.T1, fun ru hru => ⟨t2, d2, s2, l2, o, _, .str Z, ru, (Tst.one ch34 X).pres, rfl, EA.T2, iv1.sm (by decide), ⟨_, rfl⟩, fun z e => (by cases e; omega), hru, po.1, po.2, EA.g, ?_⟩⟩
    have er : resSt (Tst.one ch34 X) (.str Z) (Tst.one ch34 X).pres = .ok (sp, st37a ch34 (Tst.one ch34 X).pres sp X Z) := by
      unfold resSt; rw [docV_of sZ.1]; rfl
    rw [er]
    intro u dl' HB kB gB hd TB RB
    have EB := EA.two kB gB hd TB
    have osp := sZ.1.ok.2.1
    obtain ⟨y1, _, hp1, _⟩ := EB.T1.ob
    refine ⟨y1, _, hp1, rfl, t1, d1, s1, l1', o, _, rfl, EB.T1, fun y hy => ?_⟩
    rw [q2] at hy
    refine ⟨sp, sp, RB.dp, Rq.dp hy, ok_shaped osp (by decide), ok_shaped osp (by decide), _, rfl, if_no (by rw [okD_eqv osp]; decide) ?_⟩
    have m2 : (if Str.ofString "shelf" = Str.ofString "stamp" then resSt (st37a ch34 (Tst.one ch34 X).pres sp X Z) (.str Z) rs34 else resSh (st37a ch34 (Tst.one ch34 X).pres sp X Z) (.str Z)) = .error (Str.ofString "form") := by
      rw [if_neg (by decide +kernel)]
      unfold resSh
      rw [q2, docV_noneOf fun x d ex D => by cases ex; exact absurd (doc_kind sZ.1 D) (by decide +kernel)]; rfl
    exact ⟨t2, d2, s2, dl', o, _, _, _, .str Z, rfl, EB.T2, iv2.sm (by decide), (fun _ => ⟨_, rfl⟩), fun z e => (by cases e; omega), EB.g, m2, fun HC kC gC => ⟨rfl, if_no (fun h => h rfl) ⟨(Rl.pure kB (by decide +kernel)).pure kC (by decide +kernel), dl', EB.tabs kC gC⟩⟩⟩
  subst hσ
  refine ⟨fun σ HC => ∃ (a1 a2 : Addr) (s : Tst), σ = [some (.ref a), some (.int ce), some (.ref o), some (.ref lr), some (.str X), some (.ref t1), some (.ref t2), some (.int v), some (.str S), some (.str T), some (.str Z), none, none, none, none, none, none, none, none, none] ∧ Iv 3 s ∧ Rq HC (.ref lr) R34 ∧ S34 H Ts C CO o dm made3 t1 d1 s1 a1 t2 d2 s2 a2 s s HC, ?_, fun σ HC ⟨a1, a2, s, hσ, iv, Rl, EC⟩ => ?_⟩
  · walk_at "wq"
    refine ⟨two200 (by decide) (by decide), by decide, ite_dec (fun c => ?_) fun c => ⟨l1', l2', _, iv2.up (by decide), Rl, EB⟩⟩
    have pe := rse
    have po := (pres_ok (s := Tst.one ch34 X) (one_ok sX.1)).1
    have sg2 : sgnF made3 S (rlD ch34 2) = true := sF.2 made3 ms9 1 [Str.ofString "k3"] [Str.ofString "k3"] (by simp) (fun z m => m) (fun z m => m) (by decide)
    have ea : accSh made3 (st37a ch34 (Tst.one ch34 X).pres sp X Z) (.str S) = .ok (shD v 7 lv T, st37 ch34 (Tst.one ch34 X).pres sp (shD v 7 lv T) X Z S) := by
      rw [← hsp]
      exact accSh_st sF.1 sg2 pe po
    obtain ⟨r1, r2, r3, r4, r5⟩ := st37_at ch34 (Tst.one ch34 X).pres sp (shD v 7 lv T) X Z S
    have iv3 : Iv 3 (st37 ch34 (Tst.one ch34 X).pres sp (shD v 7 lv T) X Z S) := Iv.keep (n := 2) (s := st37a ch34 (Tst.one ch34 X).pres sp X Z) iv2 sF.1
    refine ⟨fun σ HC => ∃ (b1 : Addr), σ = [some (.ref a), some (.int ce), some (.ref o), some (.ref lr), some (.str X), some (.ref t1), some (.ref t2), some (.int v), some (.str S), some (.str T), some (.str Z), none, none, none, none, none, none, none, none, none] ∧ Rq HC (.ref lr) R34 ∧ S34 H Ts C CO o dm made3 t1 d1 s1 b1 t2 d2 s2 l2' (st37 ch34 (Tst.one ch34 X).pres sp (shD v 7 lv T) X Z S) (st37a ch34 (Tst.one ch34 X).pres sp X Z) HC, ?_, fun σ HC ⟨b1, hσ, Rl, EC⟩ => ?_⟩
    · walk_at "wq"
      obtain ⟨dx1, rv1, ho1, _⟩ := EB.T1.ob
      refine ⟨dx1, _, ho1, rfl, t1, d1, s1, l1', o, dm, _, made3, .str S, rfl, EB.T1, iv2.sm (by decide), EB.O, ⟨_, rfl⟩, fun z e => (by cases e; omega), EB.g, ?_⟩
      rw [ea]
      exact fun u dl' HC kC gC hd TC RC => ⟨Rl.pure kC (by decide +kernel), dl', EB.one kC gC hd TC⟩
    subst hσ
    walk_at "wq"
    obtain ⟨x2, _, ho2, _⟩ := EC.T2.ob
    have er : resSh (st37a ch34 (Tst.one ch34 X).pres sp X Z) (.str S) = .ok (shD v 7 lv T, st37 ch34 (Tst.one ch34 X).pres sp (shD v 7 lv T) X Z S) := by
      unfold resSh; rw [q2, docV_of sF.1]; rfl
    refine ⟨x2, _, ho2, rfl, t2, d2, s2, l2', o, _, .str S, rfl, EC.T2, iv2.sm (by decide), ⟨_, rfl⟩, fun z e => (by cases e; omega), EC.g, ?_⟩
    rw [er]
    intro u dl' HD kD gD hd TD RD
    have ED := EC.two kD gD hd TD
    have osh := sF.1.ok.2.1
    obtain ⟨y1, _, hp1, _⟩ := ED.T1.ob
    refine ⟨y1, _, hp1, rfl, t1, d1, s1, b1, o, _, rfl, ED.T1, fun y hy => ?_⟩
    rw [r3] at hy
    exact ⟨_, _, RD.dp, Rq.dp hy, ok_shaped osh (by decide), ok_shaped osh (by decide), _, rfl, if_no (by show ¬ (!(shD v 7 lv T).eqv (shD v 7 lv T)) = true; rw [okD_eqv osh]; decide) ⟨b1, dl', _, iv3, Rl.pure kD (by decide +kernel), ED⟩⟩
  subst hσ
  refine ⟨fun σ HD => σ = [some (.ref a), some (.int ce), some (.ref o), some (.ref lr), some (.str X), some (.ref t1), some (.ref t2), some (.int v), some (.str S), some (.str T), some (.str Z), none, none, none, none, none, none, none, none, none] ∧ Rq HD (.ref lr) R34 ∧ S34 H Ts C CO o dm made3 t1 d1 s1 a1 t2 d2 s2 a2 s s HD, ?_, fun σ HD ⟨hσ, Rl, ED⟩ => ?_⟩
  · walk_at "wq"
    refine ⟨t1, d1, s1, a1, o, s, rfl, EC.T1, fun u H1 k1 R1 => ⟨t2, d2, s2, a2, o, s, rfl, EC.T2.kp0 k1, fun u2 H2 k2 R2 => ?_⟩⟩
    have ot := told_ok EC.T1.ok iv
    exact ⟨_, _, (R1.kp0 k2).dp, R2.dp, ok_shaped ot (by decide), ok_shaped ot (by decide), _, rfl, if_no (by rw [okD_eqv ot]; decide) ⟨Rl.kp0 (k1.trans k2), EC.kp0 (k1.trans k2)⟩⟩
  subst hσ
  refine ⟨fun σ HE => ∃ (lc : Addr), σ = [some (.ref a), some (.int ce), some (.ref o), some (.ref lr), some (.str X), some (.ref t1), some (.ref t2), some (.int v), some (.str S), some (.str T), some (.str Z), some (.ref lc), none, none, none, none, none, none, none, none] ∧ Rq HE (.ref lr) R34 ∧ Rq HE (.ref lc) R34c ∧ S34 H Ts C CO o dm made3 t1 d1 s1 a1 t2 d2 s2 a2 s s HE, ?_, fun σ HE ⟨lc, hσ, Rl, Rc, EE⟩ => ?_⟩
  · walk_at "wq"
    obtain ⟨_, xs, e', ep, lx, rx, x0, hx0, rx0⟩ := Rl.part (a := 4) (b := 4) rfl (i := 0) (by omega)
    cases e'
    obtain ⟨_, xs2, e', ep2, _, _, x2, hx2, rx2⟩ := Rl.part (a := 4) (b := 4) rfl (i := 2) (by omega)
    cases e'
    obtain ⟨_, xs3, e', ep3, _, _, x3, hx3, rx3⟩ := Rl.part (a := 4) (b := 4) rfl (i := 3) (by omega)
    cases e'
    rw [ep] at ep2 ep3
    cases ep2
    cases ep3
    refine ⟨xs, ep, x0, hx0, by omega, fun p5 h5 => ⟨by omega, fun p6 h6 => ?_⟩⟩
    have b5 := Kp.new (S := []) h5 (.tup [V.str (Str.ofString "k5")])
    have b6 := Kp.new (S := []) h6 (.tup [V.int 1, V.ref p5])
    have ep6 := (b5.trans b6).tup _ _ ep
    refine ⟨xs, ep6, x2, hx2, xs, ep6, x3, hx3, by omega, fun lc hlc => ?_⟩
    have b7 := Kp.new (S := []) hlc (.tup [x0, V.ref p6, x2, x3])
    have bb := b5.trans (b6.trans b7)
    have y0 : Rq HD x0 (rk "k1") := rx0
    have y2 : Rq HD x2 (rk "k3") := rx2
    have y3 : Rq HD x3 (rk "k4") := rx3
    exact ⟨Rl.kp0 bb, .tup upd_same (.cons (y0.kp0 bb) (.cons (.tup (b7.tup _ _ upd_same) (.cons (.int _) (.cons (.tup ((b6.trans b7).tup _ _ upd_same) (.cons (.str _) .nil)) .nil))) (.cons (y2.kp0 bb) (.cons (y3.kp0 bb) .nil)))), ED.kp0 bb⟩
  subst hσ
  have pR : purD R34 = true := by decide +kernel
  have pC : purD R34c = true := by decide +kernel
  refine ⟨fun σ HZ => ∃ (d1 s1 l1 d2 s2 l2 : Addr) (s : Tst) (made : List (Str × Str)) (o9 o12 o13 o14 o15 o16 o17 o18 o19 : Option V), σ = [some (.ref a), some (.int ce), some (.ref o), some (.ref lr), some (.str X), some (.ref t1), some (.ref t2), some (.int v), some (.str S), o9, some (.str Z), some (.ref lc), o12, o13, o14, o15, o16, o17, o18, o19] ∧ Iv 100 s ∧ S34 H Ts C CO o dm made t1 d1 s1 l1 t2 d2 s2 l2 s s HZ, ?_, fun σ HZ ⟨d1, s1, l1, d2, s2, l2, s, made, o9, o12, o13, o14, o15, o16, o17, o18, o19, hσ, iv, EZ⟩ => ?_⟩
  · refine ⟨_, rfl, a, ns, 1, 20, rfl, Kp.seqs EE.kh hG hS, hl, fun ds p HF fp ep dok dl kF => ⟨p, rfl, ⟨_, SqL.of ep⟩, ?_⟩⟩
    refine for_list (K := K) (a := p) (xs := ds.map V.int) (fun i σ H' => ∃ (d1 s1 l1 d2 s2 l2 : Addr) (s : Tst) (made : List (Str × Str)) (T : Str) (o12 o13 o14 o15 o16 o17 o18 o19 : Option V), σ = [some (.ref a), some (.int ce), some (.ref o), some (.ref lr), some (.str X), some (.ref t1), some (.ref t2), some (.int v), some (.str S), some (.str T), some (.str Z), some (.ref lc), o12, o13, o14, o15, o16, o17, o18, o19] ∧ Iv (3 + i) s ∧ made.length ≤ 5 + 3 * i ∧ T.length ≤ 100000 ∧ Rq H' (.ref lr) R34 ∧ Rq H' (.ref lc) R34c ∧ S34 H Ts C CO o dm made t1 d1 s1 l1 t2 d2 s2 l2 s s H' ∧ H' p = some (.lst (ds.map V.int)))
      ⟨d1, s1, a1, d2, s2, a2, s, made3, T, none, none, none, none, none, none, none, none, rfl, iv, ml9, lT, Rl.kp0 kF, Rc.kp0 kF, EE.kp0 kF, ep⟩ (fun i σ H' _ ⟨_, _, _, _, _, _, _, _, _, _, _, _, _, _, _, _, _, _, _, _, _, _, _, _, e⟩ => SqL.of e) (fun i y σ H' hy ⟨d1, s1, l1, d2, s2, l2, s, made, T, o12, o13, o14, o15, o16, o17, o18, o19, hσ, iv, ml, lT, Rl, Rc, E1, ep⟩ => ?_) (fun σ H' ⟨d1, s1, l1, d2, s2, l2, s, made, T, o12, o13, o14, o15, o16, o17, o18, o19, hσ, iv, ml, lT, Rl, Rc, E1, ep⟩ => ⟨d1, s1, l1, d2, s2, l2, s, made, _, o12, o13, o14, o15, o16, o17, o18, o19, hσ, iv.up (by rw [List.length_map]; omega), E1⟩)
    subst hσ
    rw [List.getElem?_map] at hy
    obtain ⟨d, hd, rfl⟩ := Option.map_eq_some_iff.mp hy
    have hi := (List.getElem?_eq_some_iff.mp hd).1
    obtain ⟨d0, dm1⟩ := dok d (List.mem_of_getElem? hd)
    walk_at "wq"
    refine ⟨by decide, two200 (by decide) (by decide), ?_⟩
    generalize hm : d / 7 = num
    have n0 : 0 ≤ num := by omega
    refine ⟨J34 H Ts C CO o dm t1 d1 s1 l1 t2 d2 s2 l2 lr lc p ds (made.length + 3) s [some (.ref a), some (.int ce), some (.ref o), some (.ref lr), some (.str X), some (.ref t1), some (.ref t2), some (.int v), some (.str S)] [some (.str Z), some (.ref lc), some (.int d), some (.int (d % 7)), some (.int num)], ?_, fun σ H2 ⟨⟨oi, j, x, T, made, o15, o16, o18, o19, hσ, eo, lx, lT, ml2, Rl, Rc, E2, ep⟩⟩ => ?_⟩
    · walk_at "wq"
      refine ite_dec (fun c => ?_) fun c => ite_dec (fun c => ?_) fun c => ite_dec (fun c => ?_) fun c => ?_
      · refine ⟨by omega, fun pL hpL => ⟨two200 (by decide) (by decide), by decide, ?_⟩⟩
        have aL := Kp.new (S := []) hpL (.lst [V.ref lr, V.ref lc])
        obtain ⟨W, hW, wv, ex, RW⟩ : ∃ W, (W = R34 ∨ W = R34c) ∧ ∃ wv, atI [V.ref lr, V.ref lc] (num / 3 % 2) = some wv ∧ Rq H' wv W := by
          have : num / 3 % 2 = 0 ∨ num / 3 % 2 = 1 := by omega
          rcases this with e | e
          · rw [e]; exact ⟨R34, .inl rfl, _, rfl, Rl⟩
          · rw [e]; exact ⟨R34c, .inr rfl, _, rfl, Rc⟩
        refine ⟨wv, ex, by decide, by omega, fun pc hpc => ?_⟩
        have a1 := Kp.new (S := []) hpc (.tup [V.str (Str.ofString "charter"), V.int (1 + num % 3), V.int 9, wv])
        have k0 := aL.trans a1
        have ic : isCharter (.tuple [.str kC, .int (1 + num % 3), .int 9, W]) = true := ic34n hW (by omega) (by omega)
        have sz : Sz 8 1200 (.tuple [.str kC, .int (1 + num % 3), .int 9, W]) := sz_mono (sz_charter ic) (by decide) (by decide)
        have Rd : Rq _ (.ref pc) (.tuple [.str kC, .int (1 + num % 3), .int 9, W]) := .tup (upd_same : upd (upd H' pL (.lst [V.ref lr, V.ref lc])) pc (.tup [V.str (Str.ofString "charter"), V.int (1 + num % 3), V.int 9, wv]) pc = _) (.cons (.str _) (.cons (.int _) (.cons (.int _) (.cons (RW.kp0 k0) .nil))))
        have E0 := E1.kp0 k0
        refine ⟨.ref pc, _, rfl, Rd, okD_sz sz, E0.g, fun _ H4 k4 g4 => ⟨by omega, fun pl hpl => ?_⟩, fun no => (by rw [isK_doc (k := kC) (by rw [isK_C]; exact ic)] at no; cases no)⟩
        have a5 := Kp.new (S := []) hpl (.lst [V.str (Str.ofString "k1")])
        have E5 := (E0.tabs k4 g4).kp0 a5
        refine seal_one E5.O (by omega) upd_same ⟨1, by decide, by decide, by decide +kernel⟩ (by rw [isK_C]; exact ic) sz E5.g fun S' made' H6 sl lS ms ml6 O6 k6 g6 => ⟨by omega, fun oi hoi => ?_⟩
        have a7 := Kp.new (S := []) hoi (.tup [V.int 0, V.str S'])
        have KK : Kp (dm :: Ts) H' _ := ((k0.in0.trans (k4.trans a5.in0)).mono fun b m => List.mem_cons_of_mem _ m).trans (k6.trans a7.in0)
        exact ⟨⟨oi, 0, S', T, made', _, _, _, _, rfl, upd_same, lS, lT, by omega, Rl.pure KK pR, Rc.pure KK pC, (E5.seal k6 O6 g6).kp0 a7, KK.keep p _ (E1.lst ep).2.2.1 ep⟩⟩
      · refine ⟨by decide, two200 (by decide) (by decide), by decide, o, dm, _, _, made, rfl, E1.O, by omega, by omega, by omega, by omega, by omega, E1.g, fun pp S' T' made' H4 ep' sF' sT' lS' lT' ms ml4 O4 k4 g4 => ?_⟩
        refine ⟨_, _, rfl, SqT.of ep', rfl, _, _, rfl, _, _, rfl, rfl, ?_⟩
        have E4 := E1.seal k4 O4 g4
        refine ⟨fun σ H5 => ∃ ky : Str, σ = [some (.ref a), some (.int ce), some (.ref o), some (.ref lr), some (.str X), some (.ref t1), some (.ref t2), some (.int v), some (.str S), some (.str T'), some (.str Z), some (.ref lc), some (.int d), some (.int (d % 7)), some (.int num), o15, o16, o17, some (.str S'), some (.str ky)] ∧ k1 ky ∧ Kp [] H4 H5, ?_, fun σ H5 ⟨ky, hσ, hk, k5⟩ => ?_⟩
        · walk_at "wq"
          refine ⟨by omega, fun pl hpl => ⟨two200 (by decide) (by decide), by decide, ?_⟩⟩
          have a5 := Kp.new (S := []) hpl (.lst [V.str (Str.ofString "k2"), V.str (Str.ofString "k2"), V.str (Str.ofString "k5")])
          have : num / 128 % 3 = 0 ∨ num / 128 % 3 = 1 ∨ num / 128 % 3 = 2 := by omega
          rcases this with e | e | e
          · rw [e]; exact ⟨_, rfl, _, rfl, ⟨2, by decide, by decide, by decide +kernel⟩, a5⟩
          · rw [e]; exact ⟨_, rfl, _, rfl, ⟨2, by decide, by decide, by decide +kernel⟩, a5⟩
          · rw [e]; exact ⟨_, rfl, _, rfl, ⟨5, by decide, by decide, by decide +kernel⟩, a5⟩
        subst hσ
        have E5 := E4.kp0 k5
        walk_at "wq"
        refine ⟨two200 (by decide) (by decide), by decide, by decide, o, dm, _, _, S', ky, made', rfl, E5.O, by omega, by omega, by omega, by omega, by omega, lS', hk, E5.g, fun Z' made2 H6 sZ' lZ' ms' ml6 O6 k6 g6 => ⟨by omega, fun oi hoi => ?_⟩⟩
        have a7 := Kp.new (S := []) hoi (.tup [V.int 1, V.str Z'])
        have KK : Kp (dm :: Ts) H' _ := k4.trans (k5.in0.trans (k6.trans a7.in0))
        exact ⟨⟨oi, 1, Z', T', made2, _, _, _, _, rfl, upd_same, lZ', lT', by omega, Rl.pure KK pR, Rc.pure KK pC, (E5.seal k6 O6 g6).kp0 a7, KK.keep p _ (E1.lst ep).2.2.1 ep⟩⟩
      · refine ⟨by decide, two200 (by decide) (by decide), by decide, o, dm, _, _, made, rfl, E1.O, by omega, by omega, by omega, by omega, by omega, E1.g, fun pp S' T' made' H4 ep' sF' sT' lS' lT' ms ml4 O4 k4 g4 => ?_⟩
        refine ⟨pp, rfl, _, ep', _, rfl, by omega, fun pl hpl => ⟨two200 (by decide) (by decide), by decide, ?_⟩⟩
        have a5 := Kp.new (S := []) hpl (.lst [V.str S, V.str S'])
        obtain ⟨y, ey, ly⟩ : ∃ y : Str, atI [V.str S, V.str S'] (num / 32 % 2) = some (.str y) ∧ y.length ≤ 100000 := by
          have : num / 32 % 2 = 0 ∨ num / 32 % 2 = 1 := by omega
          rcases this with e | e
          · rw [e]; exact ⟨_, rfl, lS⟩
          · rw [e]; exact ⟨_, rfl, lS'⟩
        refine ⟨_, ey, by omega, fun oi hoi => ?_⟩
        have a7 := Kp.new (S := []) hoi (.tup [V.int 2, V.str y])
        have KK : Kp (dm :: Ts) H' _ := k4.trans (a5.trans a7).in0
        exact ⟨⟨oi, 2, y, T, made', _, _, _, _, rfl, upd_same, ly, lT, by omega, Rl.pure KK pR, Rc.pure KK pC, (E1.seal k4 O4 g4).kp0 (a5.trans a7), KK.keep p _ (E1.lst ep).2.2.1 ep⟩⟩
      · refine ⟨two200 (by decide) (by decide), by decide, o, dm, v, _, made, rfl, E1.O, by omega, by omega, by omega, by omega, by omega, E1.g, fun pp S' T' made' H4 ep' sF' sT' lS' lT' ms ml4 O4 k4 g4 => ?_⟩
        refine ⟨pp, rfl, _, ep', _, rfl, by omega, fun pl hpl => ⟨by decide, ?_⟩⟩
        have a5 := Kp.new (S := []) hpl (.lst [V.str T, V.str T'])
        obtain ⟨y, ey, ly⟩ : ∃ y : Str, atI [V.str T, V.str T'] (num % 2) = some (.str y) ∧ y.length ≤ 100000 := by
          have : num % 2 = 0 ∨ num % 2 = 1 := by omega
          rcases this with e | e
          · rw [e]; exact ⟨_, rfl, lT⟩
          · rw [e]; exact ⟨_, rfl, lT'⟩
        refine ⟨_, ey, by omega, fun oi hoi => ?_⟩
        have a7 := Kp.new (S := []) hoi (.tup [V.int 3, V.str y])
        have KK : Kp (dm :: Ts) H' _ := k4.trans (a5.trans a7).in0
        exact ⟨⟨oi, 3, y, T, made', _, _, _, _, rfl, upd_same, ly, lT, by omega, Rl.pure KK pR, Rc.pure KK pC, (E1.seal k4 O4 g4).kp0 (a5.trans a7), KK.keep p _ (E1.lst ep).2.2.1 ep⟩⟩
    have hσ : σ = [some (.ref a), some (.int ce), some (.ref o), some (.ref lr), some (.str X), some (.ref t1), some (.ref t2), some (.int v), some (.str S), some (.str T), some (.str Z), some (.ref lc), some (.int d), some (.int (d % 7)), some (.int num), o15, o16, some (.ref oi), o18, o19] := hσ
    subst hσ
    refine ⟨fun σ H3 => ∃ (l1' l2' : Addr) (s' : Tst), σ = [some (.ref a), some (.int ce), some (.ref o), some (.ref lr), some (.str X), some (.ref t1), some (.ref t2), some (.int v), some (.str S), some (.str T), some (.str Z), some (.ref lc), some (.int d), some (.int (d % 7)), some (.int num), o15, o16, some (.ref oi), o18, o19] ∧ Iv (4 + i) s' ∧ Rq H3 (.ref lr) R34 ∧ Rq H3 (.ref lc) R34c ∧ S34 H Ts C CO o dm made t1 d1 s1 l1' t2 d2 s2 l2' s' s' H3 ∧ H3 p = some (.lst (ds.map V.int)), ?_, fun σ H3 ⟨l1', l2', s', hσ, iv3, Rl, Rc, E3, ep⟩ => ?_⟩
    · walk_at "wq"
      refine ⟨_, eo, _, rfl, _, eo, _, rfl, t1, d1, s1, l1, o, dm, s, made, j, x, rfl, E2.T1, iv.sm (by omega), E2.O, by omega, E2.g, fun u1 l1' H4 k4 g4 hd4 T4 R4 => ?_⟩
      have E4 := E2.one k4 g4 hd4 T4
      have eo4 := k4.tup _ _ eo
      have ep4 := k4.keep p _ (E2.lst ep).1 ep
      refine ⟨_, eo4, _, rfl, _, eo4, _, rfl, t2, d2, s2, l2, o, dm, s, made, j, x, rfl, E4.T2, iv.sm (by omega), E4.O, by omega, E4.g, fun u2 l2' H5 k5 g5 hd5 T5 R5 => ?_⟩
      have E5 := E4.two k5 g5 hd5 T5
      have ep5 := k5.keep p _ (E4.lst ep4).2.1 ep4
      have oc := off_cases (made := made) (i := j) (x := x) iv
      have od := oc.d
      have ot := told_ok E5.T1.ok (oc.s iv)
      refine ⟨_, _, (R4.pure k5 oc.p).dp, R5.dp, ok_shaped od (by decide), ok_shaped od (by decide), _, rfl, if_no (by rw [okD_eqv od]; decide) ⟨t1, d1, s1, l1', o, _, rfl, E5.T1, fun v1 H6 k6 r6 => ⟨t2, d2, s2, l2', o, _, rfl, E5.T2.kp0 k6, fun v2 H7 k7 r7 => ?_⟩⟩⟩
      have k67 := k6.trans k7
      exact ⟨_, _, (r6.kp0 k7).dp, r7.dp, ok_shaped ot (by decide), ok_shaped ot (by decide), _, rfl, if_no (by rw [okD_eqv ot]; decide) ⟨l1', l2', _, (oc.s iv).up (by omega), ((Rl.pure k4 pR).pure k5 pR).kp0 k67, ((Rc.pure k4 pC).pure k5 pC).kp0 k67, E5.kp0 k67, k67.keep p _ List.not_mem_nil ep5⟩⟩
    subst hσ
    walk_at "wq"
    obtain ⟨x1, _, ho1, _⟩ := E3.T1.ob
    refine ⟨x1, _, ho1, rfl, t1, d1, s1, l1', o, s', rfl, E3.T1, fun H4 k4 => ?_⟩
    have E4 := E3.kp0 k4
    have ep4 := k4.keep p _ List.not_mem_nil ep
    have Rl4 := Rl.kp0 k4
    have Rc4 := Rc.kp0 k4
    refine ⟨_, rfl, ite_dec (fun c => ⟨by decide, ite_dec (fun c2 => ?_) fun c2 => ?_⟩) fun c => ?_⟩
    · refine ⟨fun σ H5 => ∃ (a1 b1 c1 : Addr), σ = [some (.ref a), some (.int ce), some (.ref o), some (.ref lr), some (.str X), some (.ref t1), some (.ref t2), some (.int v), some (.str S), some (.str T), some (.str Z), some (.ref lc), some (.int d), some (.int (d % 7)), some (.int num), o15, o16, some (.ref oi), o18, o19] ∧ Rq H5 (.ref lr) R34 ∧ Rq H5 (.ref lc) R34c ∧ S34 H Ts C CO o dm made t1 a1 b1 c1 t2 d2 s2 l2' s'.forg s' H5 ∧ H5 p = some (.lst (ds.map V.int)), ?_, fun σ H5 ⟨a1, b1, c1, hσ, Rl5, Rc5, E5, ep5⟩ => ?_⟩
      · walk_at "wq"
        obtain ⟨x1, _, ho1, _⟩ := E4.T1.ob
        refine ⟨x1, _, ho1, rfl, t1, d1, s1, l1', o, s', rfl, E4.T1, fun a1 b1 c1 H5 f1 f2 f3 k5 T5 => ?_⟩
        have np : p ∉ [t1] := fun m => (E4.lst ep4).1 (by rw [List.mem_singleton.mp m]; exact List.mem_cons_self)
        exact ⟨Rl4.pure k5 pR, Rc4.pure k5 pC, a1, b1, c1, E4.fg1 k5 f1 f2 f3 T5, k5.keep p _ np ep4⟩
      subst hσ
      walk_at "wq"
      obtain ⟨x2, _, ho2, _⟩ := E5.T2.ob
      refine ⟨x2, _, ho2, rfl, t2, d2, s2, l2', o, s', rfl, E5.T2, fun a2 b2 c2 H6 f1 f2 f3 k6 T6 => ?_⟩
      have np : p ∉ [t2] := fun m => (E5.lst ep5).2.1 (by rw [List.mem_singleton.mp m]; exact List.mem_cons_self)
      exact ⟨a1, b1, c1, a2, b2, c2, s'.forg, (iv3.forg (by omega)).up (by omega), made, by omega, lT, Rl5.pure k6 pR, Rc5.pure k6 pC, (E5.swap.fg1 k6 f1 f2 f3 T6).swap, k6.keep p _ np ep5⟩
    · exact ⟨d1, s1, l1', d2, s2, l2', s', iv3.up (by omega), made, by omega, lT, Rl4, Rc4, E4, ep4⟩
    · exact ⟨d1, s1, l1', d2, s2, l2', s', iv3.up (by omega), made, by omega, lT, Rl4, Rc4, E4, ep4⟩
  subst hσ
  walk_at "wq"
  refine ⟨t1, d1, s1, l1, o, s, rfl, EZ.T1, fun u H1 k1 R1 => ⟨t2, d2, s2, l2, o, s, rfl, EZ.T2.kp0 k1, fun u2 H2 k2 R2 => ?_⟩⟩
  have ot := told_ok EZ.T1.ok iv
  exact ⟨_, _, (R1.kp0 k2).dp, R2.dp, ok_shaped ot (by decide), ok_shaped ot (by decide), by rw [okD_eqv ot]; exact q _⟩
end
/-! errors that keep a reason, made where an error is handled or where none is -/
abbrev s_Refused___init : Stmt := inClass (top 11) 0
abbrev N_Refused___init : List Str := ["self", "reason"]
theorem sc_Refused___init : FnScope N_Refused___init ["self", "reason"] (defScope s_Refused___init) := ⟨rfl, rfl, rfl, by decide +kernel, rfl, by decide +kernel, by decide +kernel⟩
section
variable {P : Program} {w : World} {K : PySem.W.Frag} {mg : Str → Option Value} {base : Heap} {f : Addr} {fd : FuncData}
theorem ok_rin_Refused (F : Fun K "__init__" "Refused.__init__" s_Refused___init f fd) : FnOk P w K mg base CX0 1 f fd ["self", "reason"] (spRin K) := by
  refine F.ok sc_Refused___init (fun vs H Q E h => ?_) (fun cdv A outer s H vs Q E hr h => ?_)
  · obtain ⟨a, C, z, rfl, _⟩ := h; rfl
  obtain ⟨a, C, z, rfl, ha, T, hno, q⟩ := h
  exact ⟨_, pss_one (ps_ost (pv 0) (pv 1)), _, rfl, _, rfl, a, C, rfl, T, hno, .inl ⟨ha, q⟩⟩
theorem okh_rin_Refused (F : Fun K "__init__" "Refused.__init__" s_Refused___init f fd) : FnG P w K mg base 1 f fd ["self", "reason"] (spRin K) := by
  refine fn_handled F sc_Refused___init (fun vs H Q E h => ?_) (fun cdv A outer s H vs Q E p hr h => ?_)
  · obtain ⟨a, C, z, rfl, _⟩ := h; rfl
  obtain ⟨a, C, z, rfl, ha, T, hno, q⟩ := h
  exact ⟨_, pss_one (ps_ost (pv 0) (pv 1)), _, rfl, _, rfl, a, C, rfl, T, hno, .inl ⟨ha, q⟩⟩
end
open PySem.Spec PyProof.Rows in
theorem all_mk {l : PySem.W.OpenLaw} {q : Program} {lo : List Str} {mean : ExcName → Option Value} {w : World} {K : PySem.W.Frag} {h : Heap} {mg mb : Str → Option Value} {fa : Addr} (T : Top q lo mean mg mb h) (X : K.In h) (G : h.Ns mainGlobals mg) (hfa : mg "law" = some (.ref fa))
    {C_Seals : Addr} (aC_Seals : PySem.W.nsIn K mainGlobals "Seals" = some (some (.ref C_Seals)))
    (pg_Seals : PySem.W.plainGet K C_Seals Str.empty = true)
    (hd_Seals : PySem.W.hasDictIn K C_Seals = true)
    (po_Seals : PySem.W.plainOver K C_Seals = true)
    (sa_Seals : PySem.W.findIn K (.ref C_Seals) "__setattr__" = some (some (.builtin "object.__setattr__")))
    (mk_Seals : PySem.W.makesIn K C_Seals = true)
    (kc_Seals : PySem.W.keepIn K (.ref C_Seals) = true)
    (na_marks_Seals : PySem.W.findIn K (.ref C_Seals) "_marks" = some none)
    {C_Trusted : Addr} (aC_Trusted : PySem.W.nsIn K mainGlobals "Trusted" = some (some (.ref C_Trusted)))
    (pg_Trusted : PySem.W.plainGet K C_Trusted Str.empty = true)
    (hd_Trusted : PySem.W.hasDictIn K C_Trusted = true)
    (po_Trusted : PySem.W.plainOver K C_Trusted = true)
    (sa_Trusted : PySem.W.findIn K (.ref C_Trusted) "__setattr__" = some (some (.builtin "object.__setattr__")))
    (mk_Trusted : PySem.W.makesIn K C_Trusted = true)
    (kc_Trusted : PySem.W.keepIn K (.ref C_Trusted) = true)
    (na_office_Trusted : PySem.W.findIn K (.ref C_Trusted) "_office" = some none)
    (na_documents_Trusted : PySem.W.findIn K (.ref C_Trusted) "_documents" = some none)
    (na_sealed_Trusted : PySem.W.findIn K (.ref C_Trusted) "_sealed" = some none)
    (na_roles_Trusted : PySem.W.findIn K (.ref C_Trusted) "_roles" = some none)
    (na_lists_Trusted : PySem.W.findIn K (.ref C_Trusted) "_lists" = some none)
    {oc0 kV0 doc0 pm0 cd0 ct0 : Value} {od0 an0 : Option Addr} {sl0 : Array (Option Value)} {f0 : Addr}
    (a0 : PySem.W.nsIn K mainGlobals "digest" = some (some (.ref f0)))
    (l0 : K.lookup f0 = some ⟨oc0, od0, .func (PySem.W.fnOf "digest" "digest" (defArgs s_digest) (defBody s_digest) (defScope s_digest) .none kV0 doc0 pm0 an0 cd0 ct0), sl0⟩) (cc0 : PySem.W.codeIn K cd0 "digest" = true) (k0 : PySem.W.keepIn K (.ref f0) = true)
    {oc1 kV1 doc1 pm1 cd1 ct1 : Value} {od1 an1 : Option Addr} {sl1 : Array (Option Value)} {f1 : Addr}
    (a1 : PySem.W.nsIn K mainGlobals "is_list_name" = some (some (.ref f1)))
    (l1 : K.lookup f1 = some ⟨oc1, od1, .func (PySem.W.fnOf "is_list_name" "is_list_name" (defArgs s_is_list_name) (defBody s_is_list_name) (defScope s_is_list_name) .none kV1 doc1 pm1 an1 cd1 ct1), sl1⟩) (cc1 : PySem.W.codeIn K cd1 "is_list_name" = true) (k1 : PySem.W.keepIn K (.ref f1) = true)
    {oc2 kV2 doc2 pm2 cd2 ct2 : Value} {od2 an2 : Option Addr} {sl2 : Array (Option Value)} {f2 : Addr}
    (a2 : PySem.W.nsIn K mainGlobals "is_key" = some (some (.ref f2)))
    (l2 : K.lookup f2 = some ⟨oc2, od2, .func (PySem.W.fnOf "is_key" "is_key" (defArgs s_is_key) (defBody s_is_key) (defScope s_is_key) .none kV2 doc2 pm2 an2 cd2 ct2), sl2⟩) (cc2 : PySem.W.codeIn K cd2 "is_key" = true) (k2 : PySem.W.keepIn K (.ref f2) = true)
    {oc3 kV3 doc3 pm3 cd3 ct3 : Value} {od3 an3 : Option Addr} {sl3 : Array (Option Value)} {f3 : Addr}
    (a3 : PySem.W.nsIn K mainGlobals "is_path" = some (some (.ref f3)))
    (l3 : K.lookup f3 = some ⟨oc3, od3, .func (PySem.W.fnOf "is_path" "is_path" (defArgs s_is_path) (defBody s_is_path) (defScope s_is_path) .none kV3 doc3 pm3 an3 cd3 ct3), sl3⟩) (cc3 : PySem.W.codeIn K cd3 "is_path" = true) (k3 : PySem.W.keepIn K (.ref f3) = true)
    {oc4 kV4 doc4 pm4 cd4 ct4 : Value} {od4 an4 : Option Addr} {sl4 : Array (Option Value)} {f4 : Addr}
    (a4 : PySem.W.nsIn K mainGlobals "is_pattern" = some (some (.ref f4)))
    (l4 : K.lookup f4 = some ⟨oc4, od4, .func (PySem.W.fnOf "is_pattern" "is_pattern" (defArgs s_is_pattern) (defBody s_is_pattern) (defScope s_is_pattern) .none kV4 doc4 pm4 an4 cd4 ct4), sl4⟩) (cc4 : PySem.W.codeIn K cd4 "is_pattern" = true) (k4 : PySem.W.keepIn K (.ref f4) = true)
    {oc5 kV5 doc5 pm5 cd5 ct5 : Value} {od5 an5 : Option Addr} {sl5 : Array (Option Value)} {f5 : Addr}
    (a5 : PySem.W.nsIn K mainGlobals "ascends" = some (some (.ref f5)))
    (l5 : K.lookup f5 = some ⟨oc5, od5, .func (PySem.W.fnOf "ascends" "ascends" (defArgs s_ascends) (defBody s_ascends) (defScope s_ascends) .none kV5 doc5 pm5 an5 cd5 ct5), sl5⟩) (cc5 : PySem.W.codeIn K cd5 "ascends" = true) (k5 : PySem.W.keepIn K (.ref f5) = true)
    {oc6 kV6 doc6 pm6 ct6 : Value} {od6 an6 : Option Addr} {sl6 : Array (Option Value)} {c6 Pt6 f6 : Addr}
    (a6 : PySem.W.nsIn K mainGlobals "_consists_of" = some (some (.ref f6)))
    (l6 : K.lookup f6 = some ⟨oc6, od6, .func (PySem.W.fnOf "_consists_of" "_consists_of" (defArgs s_consists_of) (defBody s_consists_of) (defScope s_consists_of) .none kV6 doc6 pm6 an6 (.ref c6) ct6), sl6⟩) (cc6 : PySem.W.codeIn K (.ref c6) "_consists_of" = true) (k6 : PySem.W.keepIn K (.ref f6) = true)
    {oc7 kV7 doc7 pm7 ct7 : Value} {od7 an7 : Option Addr} {sl7 : Array (Option Value)} {c7 Pt7 f7 : Addr}
    (a7 : PySem.W.nsIn K mainGlobals "_has_parts_of" = some (some (.ref f7)))
    (l7 : K.lookup f7 = some ⟨oc7, od7, .func (PySem.W.fnOf "_has_parts_of" "_has_parts_of" (defArgs s_has_parts_of) (defBody s_has_parts_of) (defScope s_has_parts_of) .none kV7 doc7 pm7 an7 (.ref c7) ct7), sl7⟩) (cc7 : PySem.W.codeIn K (.ref c7) "_has_parts_of" = true) (k7 : PySem.W.keepIn K (.ref f7) = true)
    {oc8 kV8 doc8 pm8 ct8 : Value} {od8 an8 : Option Addr} {sl8 : Array (Option Value)} {c8 Pt8 f8 : Addr}
    (a8 : PySem.W.nsIn K mainGlobals "is_printable" = some (some (.ref f8)))
    (l8 : K.lookup f8 = some ⟨oc8, od8, .func (PySem.W.fnOf "is_printable" "is_printable" (defArgs s_is_printable) (defBody s_is_printable) (defScope s_is_printable) .none kV8 doc8 pm8 an8 (.ref c8) ct8), sl8⟩) (cc8 : PySem.W.codeIn K (.ref c8) "is_printable" = true) (k8 : PySem.W.keepIn K (.ref f8) = true)
    {oc9 kV9 doc9 pm9 cd9 ct9 : Value} {od9 an9 : Option Addr} {sl9 : Array (Option Value)} {f9 : Addr}
    (a9 : PySem.W.nsIn K mainGlobals "is_integer" = some (some (.ref f9)))
    (l9 : K.lookup f9 = some ⟨oc9, od9, .func (PySem.W.fnOf "is_integer" "is_integer" (defArgs s_is_integer) (defBody s_is_integer) (defScope s_is_integer) .none kV9 doc9 pm9 an9 cd9 ct9), sl9⟩) (cc9 : PySem.W.codeIn K cd9 "is_integer" = true) (k9 : PySem.W.keepIn K (.ref f9) = true)
    {oc10 kV10 doc10 pm10 cd10 ct10 : Value} {od10 an10 : Option Addr} {sl10 : Array (Option Value)} {f10 : Addr}
    (a10 : PySem.W.nsIn K mainGlobals "encode" = some (some (.ref f10)))
    (l10 : K.lookup f10 = some ⟨oc10, od10, .func (PySem.W.fnOf "encode" "encode" (defArgs s_encode) (defBody s_encode) (defScope s_encode) .none kV10 doc10 pm10 an10 cd10 ct10), sl10⟩) (cc10 : PySem.W.codeIn K cd10 "encode" = true) (k10 : PySem.W.keepIn K (.ref f10) = true)
    {oc11 kV11 doc11 pm11 cd11 ct11 : Value} {od11 an11 : Option Addr} {sl11 : Array (Option Value)} {f11 : Addr}
    (a11 : PySem.W.nsIn K mainGlobals "decode" = some (some (.ref f11)))
    (l11 : K.lookup f11 = some ⟨oc11, od11, .func (PySem.W.fnOf "decode" "decode" (defArgs s_decode) (defBody s_decode) (defScope s_decode) .none kV11 doc11 pm11 an11 cd11 ct11), sl11⟩) (cc11 : PySem.W.codeIn K cd11 "decode" = true) (k11 : PySem.W.keepIn K (.ref f11) = true)
    {oc12 kV12 doc12 pm12 cd12 ct12 : Value} {od12 an12 : Option Addr} {sl12 : Array (Option Value)} {f12 : Addr}
    (a12 : PySem.W.nsIn K mainGlobals "_text_of" = some (some (.ref f12)))
    (l12 : K.lookup f12 = some ⟨oc12, od12, .func (PySem.W.fnOf "_text_of" "_text_of" (defArgs s_text_of) (defBody s_text_of) (defScope s_text_of) .none kV12 doc12 pm12 an12 cd12 ct12), sl12⟩) (cc12 : PySem.W.codeIn K cd12 "_text_of" = true) (k12 : PySem.W.keepIn K (.ref f12) = true)
    {oc13 kV13 doc13 pm13 cd13 ct13 : Value} {od13 an13 : Option Addr} {sl13 : Array (Option Value)} {f13 : Addr}
    (a13 : PySem.W.nsIn K mainGlobals "_tuple_text" = some (some (.ref f13)))
    (l13 : K.lookup f13 = some ⟨oc13, od13, .func (PySem.W.fnOf "_tuple_text" "_tuple_text" (defArgs s_tuple_text) (defBody s_tuple_text) (defScope s_tuple_text) .none kV13 doc13 pm13 an13 cd13 ct13), sl13⟩) (cc13 : PySem.W.codeIn K cd13 "_tuple_text" = true) (k13 : PySem.W.keepIn K (.ref f13) = true)
    {oc14 kV14 doc14 pm14 cd14 ct14 : Value} {od14 an14 : Option Addr} {sl14 : Array (Option Value)} {f14 : Addr}
    (a14 : PySem.W.nsIn K mainGlobals "_greatest_integer" = some (some (.ref f14)))
    (l14 : K.lookup f14 = some ⟨oc14, od14, .func (PySem.W.fnOf "_greatest_integer" "_greatest_integer" (defArgs s_greatest_integer) (defBody s_greatest_integer) (defScope s_greatest_integer) .none kV14 doc14 pm14 an14 cd14 ct14), sl14⟩) (cc14 : PySem.W.codeIn K cd14 "_greatest_integer" = true) (k14 : PySem.W.keepIn K (.ref f14) = true)
    {oc15 kV15 doc15 pm15 cd15 ct15 : Value} {od15 an15 : Option Addr} {sl15 : Array (Option Value)} {f15 : Addr}
    (a15 : PySem.W.nsIn K mainGlobals "_value_at" = some (some (.ref f15)))
    (l15 : K.lookup f15 = some ⟨oc15, od15, .func (PySem.W.fnOf "_value_at" "_value_at" (defArgs s_value_at) (defBody s_value_at) (defScope s_value_at) .none kV15 doc15 pm15 an15 cd15 ct15), sl15⟩) (cc15 : PySem.W.codeIn K cd15 "_value_at" = true) (k15 : PySem.W.keepIn K (.ref f15) = true)
    {oc16 kV16 doc16 pm16 cd16 ct16 : Value} {od16 an16 : Option Addr} {sl16 : Array (Option Value)} {f16 : Addr}
    (a16 : PySem.W.nsIn K mainGlobals "_tuple_at" = some (some (.ref f16)))
    (l16 : K.lookup f16 = some ⟨oc16, od16, .func (PySem.W.fnOf "_tuple_at" "_tuple_at" (defArgs s_tuple_at) (defBody s_tuple_at) (defScope s_tuple_at) .none kV16 doc16 pm16 an16 cd16 ct16), sl16⟩) (cc16 : PySem.W.codeIn K cd16 "_tuple_at" = true) (k16 : PySem.W.keepIn K (.ref f16) = true)
    {oc17 kV17 doc17 pm17 cd17 ct17 : Value} {od17 an17 : Option Addr} {sl17 : Array (Option Value)} {f17 : Addr}
    (a17 : PySem.W.nsIn K mainGlobals "_string_at" = some (some (.ref f17)))
    (l17 : K.lookup f17 = some ⟨oc17, od17, .func (PySem.W.fnOf "_string_at" "_string_at" (defArgs s_string_at) (defBody s_string_at) (defScope s_string_at) .none kV17 doc17 pm17 an17 cd17 ct17), sl17⟩) (cc17 : PySem.W.codeIn K cd17 "_string_at" = true) (k17 : PySem.W.keepIn K (.ref f17) = true)
    {oc18 kV18 doc18 pm18 cd18 ct18 : Value} {od18 an18 : Option Addr} {sl18 : Array (Option Value)} {f18 : Addr}
    (a18 : PySem.W.nsIn K mainGlobals "_end_of_digits" = some (some (.ref f18)))
    (l18 : K.lookup f18 = some ⟨oc18, od18, .func (PySem.W.fnOf "_end_of_digits" "_end_of_digits" (defArgs s_end_of_digits) (defBody s_end_of_digits) (defScope s_end_of_digits) .none kV18 doc18 pm18 an18 cd18 ct18), sl18⟩) (cc18 : PySem.W.codeIn K cd18 "_end_of_digits" = true) (k18 : PySem.W.keepIn K (.ref f18) = true)
    {oc19 kV19 doc19 pm19 cd19 ct19 : Value} {od19 an19 : Option Addr} {sl19 : Array (Option Value)} {f19 : Addr}
    (a19 : PySem.W.nsIn K mainGlobals "_number_of" = some (some (.ref f19)))
    (l19 : K.lookup f19 = some ⟨oc19, od19, .func (PySem.W.fnOf "_number_of" "_number_of" (defArgs s_number_of) (defBody s_number_of) (defScope s_number_of) .none kV19 doc19 pm19 an19 cd19 ct19), sl19⟩) (cc19 : PySem.W.codeIn K cd19 "_number_of" = true) (k19 : PySem.W.keepIn K (.ref f19) = true)
    {oc20 kV20 doc20 pm20 ct20 : Value} {od20 an20 : Option Addr} {sl20 : Array (Option Value)} {c20 Pt20 f20 : Addr}
    (a20 : PySem.W.nsIn K mainGlobals "is_role" = some (some (.ref f20)))
    (l20 : K.lookup f20 = some ⟨oc20, od20, .func (PySem.W.fnOf "is_role" "is_role" (defArgs s_is_role) (defBody s_is_role) (defScope s_is_role) .none kV20 doc20 pm20 an20 (.ref c20) ct20), sl20⟩) (cc20 : PySem.W.codeIn K (.ref c20) "is_role" = true) (k20 : PySem.W.keepIn K (.ref f20) = true)
    {oc21 kV21 doc21 pm21 ct21 : Value} {od21 an21 : Option Addr} {sl21 : Array (Option Value)} {c21 Pt21 f21 : Addr}
    (a21 : PySem.W.nsIn K mainGlobals "is_digest" = some (some (.ref f21)))
    (l21 : K.lookup f21 = some ⟨oc21, od21, .func (PySem.W.fnOf "is_digest" "is_digest" (defArgs s_is_digest) (defBody s_is_digest) (defScope s_is_digest) .none kV21 doc21 pm21 an21 (.ref c21) ct21), sl21⟩) (cc21 : PySem.W.codeIn K (.ref c21) "is_digest" = true) (k21 : PySem.W.keepIn K (.ref f21) = true)
    {oc22 kV22 doc22 pm22 ct22 : Value} {od22 an22 : Option Addr} {sl22 : Array (Option Value)} {c22 Pt22 f22 : Addr}
    (a22 : PySem.W.nsIn K mainGlobals "is_grant" = some (some (.ref f22)))
    (l22 : K.lookup f22 = some ⟨oc22, od22, .func (PySem.W.fnOf "is_grant" "is_grant" (defArgs s_is_grant) (defBody s_is_grant) (defScope s_is_grant) .none kV22 doc22 pm22 an22 (.ref c22) ct22), sl22⟩) (cc22 : PySem.W.codeIn K (.ref c22) "is_grant" = true) (k22 : PySem.W.keepIn K (.ref f22) = true)
    {oc23 kV23 doc23 pm23 ct23 : Value} {od23 an23 : Option Addr} {sl23 : Array (Option Value)} {c23 Pt23 f23 : Addr}
    (a23 : PySem.W.nsIn K mainGlobals "is_charter" = some (some (.ref f23)))
    (l23 : K.lookup f23 = some ⟨oc23, od23, .func (PySem.W.fnOf "is_charter" "is_charter" (defArgs s_is_charter) (defBody s_is_charter) (defScope s_is_charter) .none kV23 doc23 pm23 an23 (.ref c23) ct23), sl23⟩) (cc23 : PySem.W.codeIn K (.ref c23) "is_charter" = true) (k23 : PySem.W.keepIn K (.ref f23) = true)
    {oc24 kV24 doc24 pm24 cd24 ct24 : Value} {od24 an24 : Option Addr} {sl24 : Array (Option Value)} {f24 : Addr}
    (a24 : PySem.W.nsIn K mainGlobals "is_stamp" = some (some (.ref f24)))
    (l24 : K.lookup f24 = some ⟨oc24, od24, .func (PySem.W.fnOf "is_stamp" "is_stamp" (defArgs s_is_stamp) (defBody s_is_stamp) (defScope s_is_stamp) .none kV24 doc24 pm24 an24 cd24 ct24), sl24⟩) (cc24 : PySem.W.codeIn K cd24 "is_stamp" = true) (k24 : PySem.W.keepIn K (.ref f24) = true)
    {oc25 kV25 doc25 pm25 ct25 : Value} {od25 an25 : Option Addr} {sl25 : Array (Option Value)} {c25 Pt25 f25 : Addr}
    (a25 : PySem.W.nsIn K mainGlobals "is_shelf" = some (some (.ref f25)))
    (l25 : K.lookup f25 = some ⟨oc25, od25, .func (PySem.W.fnOf "is_shelf" "is_shelf" (defArgs s_is_shelf) (defBody s_is_shelf) (defScope s_is_shelf) .none kV25 doc25 pm25 an25 (.ref c25) ct25), sl25⟩) (cc25 : PySem.W.codeIn K (.ref c25) "is_shelf" = true) (k25 : PySem.W.keepIn K (.ref f25) = true)
    {oc26 kV26 doc26 pm26 ct26 : Value} {od26 an26 : Option Addr} {sl26 : Array (Option Value)} {c26 Pt26 f26 : Addr}
    (a26 : PySem.W.nsIn K mainGlobals "is_list" = some (some (.ref f26)))
    (l26 : K.lookup f26 = some ⟨oc26, od26, .func (PySem.W.fnOf "is_list" "is_list" (defArgs s_is_list) (defBody s_is_list) (defScope s_is_list) .none kV26 doc26 pm26 an26 (.ref c26) ct26), sl26⟩) (cc26 : PySem.W.codeIn K (.ref c26) "is_list" = true) (k26 : PySem.W.keepIn K (.ref f26) = true)
    {oc27 kV27 doc27 pm27 cd27 ct27 : Value} {od27 an27 : Option Addr} {sl27 : Array (Option Value)} {f27 : Addr}
    (a27 : PySem.W.nsIn K mainGlobals "is_amount" = some (some (.ref f27)))
    (l27 : K.lookup f27 = some ⟨oc27, od27, .func (PySem.W.fnOf "is_amount" "is_amount" (defArgs s_is_amount) (defBody s_is_amount) (defScope s_is_amount) .none kV27 doc27 pm27 an27 cd27 ct27), sl27⟩) (cc27 : PySem.W.codeIn K cd27 "is_amount" = true) (k27 : PySem.W.keepIn K (.ref f27) = true)
    {oc28 kV28 doc28 pm28 cd28 ct28 : Value} {od28 an28 : Option Addr} {sl28 : Array (Option Value)} {f28 : Addr}
    (a28 : PySem.W.nsIn K mainGlobals "read" = some (some (.ref f28)))
    (l28 : K.lookup f28 = some ⟨oc28, od28, .func (PySem.W.fnOf "read" "read" (defArgs s_read) (defBody s_read) (defScope s_read) .none kV28 doc28 pm28 an28 cd28 ct28), sl28⟩) (cc28 : PySem.W.codeIn K cd28 "read" = true) (k28 : PySem.W.keepIn K (.ref f28) = true)
    {oc29 kV29 doc29 pm29 cd29 ct29 : Value} {od29 an29 : Option Addr} {sl29 : Array (Option Value)} {f29 : Addr}
    (a29 : PySem.W.nsIn K mainGlobals "write" = some (some (.ref f29)))
    (l29 : K.lookup f29 = some ⟨oc29, od29, .func (PySem.W.fnOf "write" "write" (defArgs s_write) (defBody s_write) (defScope s_write) .none kV29 doc29 pm29 an29 cd29 ct29), sl29⟩) (cc29 : PySem.W.codeIn K cd29 "write" = true) (k29 : PySem.W.keepIn K (.ref f29) = true)
    {oc30 kV30 doc30 pm30 cd30 ct30 : Value} {od30 an30 : Option Addr} {sl30 : Array (Option Value)} {f30 : Addr}
    (a30 : PySem.W.nsIn K mainGlobals "entry_of" = some (some (.ref f30)))
    (l30 : K.lookup f30 = some ⟨oc30, od30, .func (PySem.W.fnOf "entry_of" "entry_of" (defArgs s_entry_of) (defBody s_entry_of) (defScope s_entry_of) .none kV30 doc30 pm30 an30 cd30 ct30), sl30⟩) (cc30 : PySem.W.codeIn K cd30 "entry_of" = true) (k30 : PySem.W.keepIn K (.ref f30) = true)
    {oc31 kV31 doc31 pm31 cd31 ct31 : Value} {od31 an31 : Option Addr} {sl31 : Array (Option Value)} {f31 : Addr}
    (a31 : PySem.W.nsIn K mainGlobals "_is_tuple_of" = some (some (.ref f31)))
    (l31 : K.lookup f31 = some ⟨oc31, od31, .func (PySem.W.fnOf "_is_tuple_of" "_is_tuple_of" (defArgs s_is_tuple_of) (defBody s_is_tuple_of) (defScope s_is_tuple_of) .none kV31 doc31 pm31 an31 cd31 ct31), sl31⟩) (cc31 : PySem.W.codeIn K cd31 "_is_tuple_of" = true) (k31 : PySem.W.keepIn K (.ref f31) = true)
    {oc32 kV32 doc32 pm32 cd32 ct32 : Value} {od32 an32 : Option Addr} {sl32 : Array (Option Value)} {f32 : Addr}
    (a32 : PySem.W.nsIn K mainGlobals "_is_tuple_within" = some (some (.ref f32)))
    (l32 : K.lookup f32 = some ⟨oc32, od32, .func (PySem.W.fnOf "_is_tuple_within" "_is_tuple_within" (defArgs s_is_tuple_within) (defBody s_is_tuple_within) (defScope s_is_tuple_within) .none kV32 doc32 pm32 an32 cd32 ct32), sl32⟩) (cc32 : PySem.W.codeIn K cd32 "_is_tuple_within" = true) (k32 : PySem.W.keepIn K (.ref f32) = true)
    {oc33 kV33 doc33 pm33 cd33 ct33 : Value} {od33 an33 : Option Addr} {sl33 : Array (Option Value)} {f33 : Addr}
    (a33 : PySem.W.nsIn K mainGlobals "_is_headed" = some (some (.ref f33)))
    (l33 : K.lookup f33 = some ⟨oc33, od33, .func (PySem.W.fnOf "_is_headed" "_is_headed" (defArgs s_is_headed) (defBody s_is_headed) (defScope s_is_headed) .none kV33 doc33 pm33 an33 cd33 ct33), sl33⟩) (cc33 : PySem.W.codeIn K cd33 "_is_headed" = true) (k33 : PySem.W.keepIn K (.ref f33) = true)
    {oc34 kV34 doc34 pm34 cd34 ct34 : Value} {od34 an34 : Option Addr} {sl34 : Array (Option Value)} {f34 : Addr}
    (a34 : PySem.W.nsIn K mainGlobals "_is_version" = some (some (.ref f34)))
    (l34 : K.lookup f34 = some ⟨oc34, od34, .func (PySem.W.fnOf "_is_version" "_is_version" (defArgs s_is_version) (defBody s_is_version) (defScope s_is_version) .none kV34 doc34 pm34 an34 cd34 ct34), sl34⟩) (cc34 : PySem.W.codeIn K cd34 "_is_version" = true) (k34 : PySem.W.keepIn K (.ref f34) = true)
    {oc35 kV35 doc35 pm35 cd35 ct35 : Value} {od35 an35 : Option Addr} {sl35 : Array (Option Value)} {f35 : Addr}
    (a35 : PySem.W.nsIn K mainGlobals "_is_entry" = some (some (.ref f35)))
    (l35 : K.lookup f35 = some ⟨oc35, od35, .func (PySem.W.fnOf "_is_entry" "_is_entry" (defArgs s_is_entry) (defBody s_is_entry) (defScope s_is_entry) .none kV35 doc35 pm35 an35 cd35 ct35), sl35⟩) (cc35 : PySem.W.codeIn K cd35 "_is_entry" = true) (k35 : PySem.W.keepIn K (.ref f35) = true)
    {oc36 kV36 doc36 pm36 cd36 ct36 : Value} {od36 an36 : Option Addr} {sl36 : Array (Option Value)} {f36 : Addr}
    (a36 : PySem.W.nsIn K mainGlobals "_is_named_entry" = some (some (.ref f36)))
    (l36 : K.lookup f36 = some ⟨oc36, od36, .func (PySem.W.fnOf "_is_named_entry" "_is_named_entry" (defArgs s_is_named_entry) (defBody s_is_named_entry) (defScope s_is_named_entry) .none kV36 doc36 pm36 an36 cd36 ct36), sl36⟩) (cc36 : PySem.W.codeIn K cd36 "_is_named_entry" = true) (k36 : PySem.W.keepIn K (.ref f36) = true)
    {oc37 kV37 doc37 pm37 cd37 ct37 : Value} {od37 an37 : Option Addr} {sl37 : Array (Option Value)} {f37 : Addr}
    (a37 : PySem.W.nsIn K mainGlobals "_is_good" = some (some (.ref f37)))
    (l37 : K.lookup f37 = some ⟨oc37, od37, .func (PySem.W.fnOf "_is_good" "_is_good" (defArgs s_is_good) (defBody s_is_good) (defScope s_is_good) .none kV37 doc37 pm37 an37 cd37 ct37), sl37⟩) (cc37 : PySem.W.codeIn K cd37 "_is_good" = true) (k37 : PySem.W.keepIn K (.ref f37) = true)
    {oc38 kV38 doc38 pm38 cd38 ct38 : Value} {od38 an38 : Option Addr} {sl38 : Array (Option Value)} {f38 : Addr}
    (a38 : PySem.W.nsIn K mainGlobals "_is_document" = some (some (.ref f38)))
    (l38 : K.lookup f38 = some ⟨oc38, od38, .func (PySem.W.fnOf "_is_document" "_is_document" (defArgs s_is_document) (defBody s_is_document) (defScope s_is_document) .none kV38 doc38 pm38 an38 cd38 ct38), sl38⟩) (cc38 : PySem.W.codeIn K cd38 "_is_document" = true) (k38 : PySem.W.keepIn K (.ref f38) = true)
    {oc39 kV39 doc39 pm39 cd39 ct39 : Value} {od39 an39 : Option Addr} {sl39 : Array (Option Value)} {f39 : Addr}
    (a39 : PySem.W.nsIn K mainGlobals "_require_document" = some (some (.ref f39)))
    (l39 : K.lookup f39 = some ⟨oc39, od39, .func (PySem.W.fnOf "_require_document" "_require_document" (defArgs s_require_document) (defBody s_require_document) (defScope s_require_document) .none kV39 doc39 pm39 an39 cd39 ct39), sl39⟩) (cc39 : PySem.W.codeIn K cd39 "_require_document" = true) (k39 : PySem.W.keepIn K (.ref f39) = true)
    {oc40 kV40 doc40 pm40 cd40 ct40 : Value} {od40 an40 : Option Addr} {sl40 : Array (Option Value)} {f40 : Addr}
    (a40 : PySem.W.nsIn K mainGlobals "_behind_name" = some (some (.ref f40)))
    (l40 : K.lookup f40 = some ⟨oc40, od40, .func (PySem.W.fnOf "_behind_name" "_behind_name" (defArgs s_behind_name) (defBody s_behind_name) (defScope s_behind_name) .none kV40 doc40 pm40 an40 cd40 ct40), sl40⟩) (cc40 : PySem.W.codeIn K cd40 "_behind_name" = true) (k40 : PySem.W.keepIn K (.ref f40) = true)
    {oc41 kV41 doc41 pm41 cd41 ct41 : Value} {od41 an41 : Option Addr} {sl41 : Array (Option Value)} {f41 : Addr}
    (a41 : PySem.W.nsIn K mainGlobals "seal" = some (some (.ref f41)))
    (l41 : K.lookup f41 = some ⟨oc41, od41, .func (PySem.W.fnOf "seal" "seal" (defArgs s_seal) (defBody s_seal) (defScope s_seal) .none kV41 doc41 pm41 an41 cd41 ct41), sl41⟩) (cc41 : PySem.W.codeIn K cd41 "seal" = true) (k41 : PySem.W.keepIn K (.ref f41) = true)
    {oc42 kV42 doc42 pm42 cd42 ct42 : Value} {od42 an42 : Option Addr} {sl42 : Array (Option Value)} {f42 : Addr}
    (a42 : PySem.W.nsIn K mainGlobals "opened" = some (some (.ref f42)))
    (l42 : K.lookup f42 = some ⟨oc42, od42, .func (PySem.W.fnOf "opened" "opened" (defArgs s_opened) (defBody s_opened) (defScope s_opened) .none kV42 doc42 pm42 an42 cd42 ct42), sl42⟩) (cc42 : PySem.W.codeIn K cd42 "opened" = true) (k42 : PySem.W.keepIn K (.ref f42) = true)
    {oc43 kV43 doc43 pm43 ct43 : Value} {od43 an43 : Option Addr} {sl43 : Array (Option Value)} {c43 Pt43 f43 : Addr}
    (a43 : PySem.W.nsIn K mainGlobals "support" = some (some (.ref f43)))
    (l43 : K.lookup f43 = some ⟨oc43, od43, .func (PySem.W.fnOf "support" "support" (defArgs s_support) (defBody s_support) (defScope s_support) .none kV43 doc43 pm43 an43 (.ref c43) ct43), sl43⟩) (cc43 : PySem.W.codeIn K (.ref c43) "support" = true) (k43 : PySem.W.keepIn K (.ref f43) = true)
    {oc44 kV44 doc44 pm44 ct44 : Value} {od44 an44 : Option Addr} {sl44 : Array (Option Value)} {c44 Pt44 f44 : Addr}
    (a44 : PySem.W.nsIn K mainGlobals "_different_keys" = some (some (.ref f44)))
    (l44 : K.lookup f44 = some ⟨oc44, od44, .func (PySem.W.fnOf "_different_keys" "_different_keys" (defArgs s_different_keys) (defBody s_different_keys) (defScope s_different_keys) .none kV44 doc44 pm44 an44 (.ref c44) ct44), sl44⟩) (cc44 : PySem.W.codeIn K (.ref c44) "_different_keys" = true) (k44 : PySem.W.keepIn K (.ref f44) = true)
    {oc45 kV45 doc45 pm45 ct45 : Value} {od45 an45 : Option Addr} {sl45 : Array (Option Value)} {c45 Pt45 f45 : Addr}
    (a45 : PySem.W.nsIn K mainGlobals "_is_content" = some (some (.ref f45)))
    (l45 : K.lookup f45 = some ⟨oc45, od45, .func (PySem.W.fnOf "_is_content" "_is_content" (defArgs s_is_content) (defBody s_is_content) (defScope s_is_content) .none kV45 doc45 pm45 an45 (.ref c45) ct45), sl45⟩) (cc45 : PySem.W.codeIn K (.ref c45) "_is_content" = true) (k45 : PySem.W.keepIn K (.ref f45) = true)
    {oc46 kV46 doc46 pm46 cd46 ct46 : Value} {od46 an46 : Option Addr} {sl46 : Array (Option Value)} {f46 : Addr}
    (a46 : PySem.W.nsIn K mainGlobals "_is_seal" = some (some (.ref f46)))
    (l46 : K.lookup f46 = some ⟨oc46, od46, .func (PySem.W.fnOf "_is_seal" "_is_seal" (defArgs s_is_seal) (defBody s_is_seal) (defScope s_is_seal) .none kV46 doc46 pm46 an46 cd46 ct46), sl46⟩) (cc46 : PySem.W.codeIn K cd46 "_is_seal" = true) (k46 : PySem.W.keepIn K (.ref f46) = true)
    {oc47 kV47 doc47 pm47 cd47 ct47 : Value} {od47 an47 : Option Addr} {sl47 : Array (Option Value)} {f47 : Addr}
    (a47 : PySem.W.findIn K (.ref C_Trusted) "__init__" = some (some (.ref f47))) (i47 : PySem.W.isFn K (.ref f47) = true)
    (l47 : K.lookup f47 = some ⟨oc47, od47, .func (PySem.W.fnOf "__init__" "Trusted.__init__" (defArgs s_Trusted___init) (defBody s_Trusted___init) (defScope s_Trusted___init) .none kV47 doc47 pm47 an47 cd47 ct47), sl47⟩) (cc47 : PySem.W.codeIn K cd47 "Trusted.__init__" = true) (k47 : PySem.W.keepIn K (.ref f47) = true)
    {oc48 kV48 doc48 pm48 cd48 ct48 : Value} {od48 an48 : Option Addr} {sl48 : Array (Option Value)} {f48 : Addr}
    (a48 : PySem.W.findIn K (.ref C_Trusted) "accept_charter" = some (some (.ref f48))) (i48 : PySem.W.isFn K (.ref f48) = true)
    (l48 : K.lookup f48 = some ⟨oc48, od48, .func (PySem.W.fnOf "accept_charter" "Trusted.accept_charter" (defArgs s_Trusted_accept_charter) (defBody s_Trusted_accept_charter) (defScope s_Trusted_accept_charter) .none kV48 doc48 pm48 an48 cd48 ct48), sl48⟩) (cc48 : PySem.W.codeIn K cd48 "Trusted.accept_charter" = true) (k48 : PySem.W.keepIn K (.ref f48) = true)
    {oc49 kV49 doc49 pm49 cd49 ct49 : Value} {od49 an49 : Option Addr} {sl49 : Array (Option Value)} {f49 : Addr}
    (a49 : PySem.W.findIn K (.ref C_Trusted) "accept_stamp" = some (some (.ref f49))) (i49 : PySem.W.isFn K (.ref f49) = true)
    (l49 : K.lookup f49 = some ⟨oc49, od49, .func (PySem.W.fnOf "accept_stamp" "Trusted.accept_stamp" (defArgs s_Trusted_accept_stamp) (defBody s_Trusted_accept_stamp) (defScope s_Trusted_accept_stamp) .none kV49 doc49 pm49 an49 cd49 ct49), sl49⟩) (cc49 : PySem.W.codeIn K cd49 "Trusted.accept_stamp" = true) (k49 : PySem.W.keepIn K (.ref f49) = true)
    {oc50 kV50 doc50 pm50 cd50 ct50 : Value} {od50 an50 : Option Addr} {sl50 : Array (Option Value)} {f50 : Addr}
    (a50 : PySem.W.findIn K (.ref C_Trusted) "accept_shelf" = some (some (.ref f50))) (i50 : PySem.W.isFn K (.ref f50) = true)
    (l50 : K.lookup f50 = some ⟨oc50, od50, .func (PySem.W.fnOf "accept_shelf" "Trusted.accept_shelf" (defArgs s_Trusted_accept_shelf) (defBody s_Trusted_accept_shelf) (defScope s_Trusted_accept_shelf) .none kV50 doc50 pm50 an50 cd50 ct50), sl50⟩) (cc50 : PySem.W.codeIn K cd50 "Trusted.accept_shelf" = true) (k50 : PySem.W.keepIn K (.ref f50) = true)
    {oc51 kV51 doc51 pm51 cd51 ct51 : Value} {od51 an51 : Option Addr} {sl51 : Array (Option Value)} {f51 : Addr}
    (a51 : PySem.W.findIn K (.ref C_Trusted) "accept_list" = some (some (.ref f51))) (i51 : PySem.W.isFn K (.ref f51) = true)
    (l51 : K.lookup f51 = some ⟨oc51, od51, .func (PySem.W.fnOf "accept_list" "Trusted.accept_list" (defArgs s_Trusted_accept_list) (defBody s_Trusted_accept_list) (defScope s_Trusted_accept_list) .none kV51 doc51 pm51 an51 cd51 ct51), sl51⟩) (cc51 : PySem.W.codeIn K cd51 "Trusted.accept_list" = true) (k51 : PySem.W.keepIn K (.ref f51) = true)
    {oc52 kV52 doc52 pm52 cd52 ct52 : Value} {od52 an52 : Option Addr} {sl52 : Array (Option Value)} {f52 : Addr}
    (a52 : PySem.W.findIn K (.ref C_Trusted) "restore_stamp" = some (some (.ref f52))) (i52 : PySem.W.isFn K (.ref f52) = true)
    (l52 : K.lookup f52 = some ⟨oc52, od52, .func (PySem.W.fnOf "restore_stamp" "Trusted.restore_stamp" (defArgs s_Trusted_restore_stamp) (defBody s_Trusted_restore_stamp) (defScope s_Trusted_restore_stamp) .none kV52 doc52 pm52 an52 cd52 ct52), sl52⟩) (cc52 : PySem.W.codeIn K cd52 "Trusted.restore_stamp" = true) (k52 : PySem.W.keepIn K (.ref f52) = true)
    {oc53 kV53 doc53 pm53 cd53 ct53 : Value} {od53 an53 : Option Addr} {sl53 : Array (Option Value)} {f53 : Addr}
    (a53 : PySem.W.findIn K (.ref C_Trusted) "restore_shelf" = some (some (.ref f53))) (i53 : PySem.W.isFn K (.ref f53) = true)
    (l53 : K.lookup f53 = some ⟨oc53, od53, .func (PySem.W.fnOf "restore_shelf" "Trusted.restore_shelf" (defArgs s_Trusted_restore_shelf) (defBody s_Trusted_restore_shelf) (defScope s_Trusted_restore_shelf) .none kV53 doc53 pm53 an53 cd53 ct53), sl53⟩) (cc53 : PySem.W.codeIn K cd53 "Trusted.restore_shelf" = true) (k53 : PySem.W.keepIn K (.ref f53) = true)
    {oc54 kV54 doc54 pm54 cd54 ct54 : Value} {od54 an54 : Option Addr} {sl54 : Array (Option Value)} {f54 : Addr}
    (a54 : PySem.W.findIn K (.ref C_Trusted) "outdated" = some (some (.ref f54))) (i54 : PySem.W.isFn K (.ref f54) = true)
    (l54 : K.lookup f54 = some ⟨oc54, od54, .func (PySem.W.fnOf "outdated" "Trusted.outdated" (defArgs s_Trusted_outdated) (defBody s_Trusted_outdated) (defScope s_Trusted_outdated) .none kV54 doc54 pm54 an54 cd54 ct54), sl54⟩) (cc54 : PySem.W.codeIn K cd54 "Trusted.outdated" = true) (k54 : PySem.W.keepIn K (.ref f54) = true)
    {oc55 kV55 doc55 pm55 cd55 ct55 : Value} {od55 an55 : Option Addr} {sl55 : Array (Option Value)} {f55 : Addr}
    (a55 : PySem.W.findIn K (.ref C_Trusted) "forget" = some (some (.ref f55))) (i55 : PySem.W.isFn K (.ref f55) = true)
    (l55 : K.lookup f55 = some ⟨oc55, od55, .func (PySem.W.fnOf "forget" "Trusted.forget" (defArgs s_Trusted_forget) (defBody s_Trusted_forget) (defScope s_Trusted_forget) .none kV55 doc55 pm55 an55 cd55 ct55), sl55⟩) (cc55 : PySem.W.codeIn K cd55 "Trusted.forget" = true) (k55 : PySem.W.keepIn K (.ref f55) = true)
    {oc56 kV56 doc56 pm56 cd56 ct56 : Value} {od56 an56 : Option Addr} {sl56 : Array (Option Value)} {f56 : Addr}
    (a56 : PySem.W.findIn K (.ref C_Trusted) "is_current" = some (some (.ref f56))) (i56 : PySem.W.isFn K (.ref f56) = true)
    (l56 : K.lookup f56 = some ⟨oc56, od56, .func (PySem.W.fnOf "is_current" "Trusted.is_current" (defArgs s_Trusted_is_current) (defBody s_Trusted_is_current) (defScope s_Trusted_is_current) .none kV56 doc56 pm56 an56 cd56 ct56), sl56⟩) (cc56 : PySem.W.codeIn K cd56 "Trusted.is_current" = true) (k56 : PySem.W.keepIn K (.ref f56) = true)
    {oc57 kV57 doc57 pm57 cd57 ct57 : Value} {od57 an57 : Option Addr} {sl57 : Array (Option Value)} {f57 : Addr}
    (a57 : PySem.W.findIn K (.ref C_Trusted) "charter" = some (some (.ref f57))) (i57 : PySem.W.isFn K (.ref f57) = true)
    (l57 : K.lookup f57 = some ⟨oc57, od57, .func (PySem.W.fnOf "charter" "Trusted.charter" (defArgs s_Trusted_charter) (defBody s_Trusted_charter) (defScope s_Trusted_charter) .none kV57 doc57 pm57 an57 cd57 ct57), sl57⟩) (cc57 : PySem.W.codeIn K cd57 "Trusted.charter" = true) (k57 : PySem.W.keepIn K (.ref f57) = true)
    {oc58 kV58 doc58 pm58 cd58 ct58 : Value} {od58 an58 : Option Addr} {sl58 : Array (Option Value)} {f58 : Addr}
    (a58 : PySem.W.findIn K (.ref C_Trusted) "stamp" = some (some (.ref f58))) (i58 : PySem.W.isFn K (.ref f58) = true)
    (l58 : K.lookup f58 = some ⟨oc58, od58, .func (PySem.W.fnOf "stamp" "Trusted.stamp" (defArgs s_Trusted_stamp) (defBody s_Trusted_stamp) (defScope s_Trusted_stamp) .none kV58 doc58 pm58 an58 cd58 ct58), sl58⟩) (cc58 : PySem.W.codeIn K cd58 "Trusted.stamp" = true) (k58 : PySem.W.keepIn K (.ref f58) = true)
    {oc59 kV59 doc59 pm59 cd59 ct59 : Value} {od59 an59 : Option Addr} {sl59 : Array (Option Value)} {f59 : Addr}
    (a59 : PySem.W.findIn K (.ref C_Trusted) "shelf" = some (some (.ref f59))) (i59 : PySem.W.isFn K (.ref f59) = true)
    (l59 : K.lookup f59 = some ⟨oc59, od59, .func (PySem.W.fnOf "shelf" "Trusted.shelf" (defArgs s_Trusted_shelf) (defBody s_Trusted_shelf) (defScope s_Trusted_shelf) .none kV59 doc59 pm59 an59 cd59 ct59), sl59⟩) (cc59 : PySem.W.codeIn K cd59 "Trusted.shelf" = true) (k59 : PySem.W.keepIn K (.ref f59) = true)
    {oc60 kV60 doc60 pm60 cd60 ct60 : Value} {od60 an60 : Option Addr} {sl60 : Array (Option Value)} {f60 : Addr}
    (a60 : PySem.W.findIn K (.ref C_Trusted) "list_of" = some (some (.ref f60))) (i60 : PySem.W.isFn K (.ref f60) = true)
    (l60 : K.lookup f60 = some ⟨oc60, od60, .func (PySem.W.fnOf "list_of" "Trusted.list_of" (defArgs s_Trusted_list_of) (defBody s_Trusted_list_of) (defScope s_Trusted_list_of) .none kV60 doc60 pm60 an60 cd60 ct60), sl60⟩) (cc60 : PySem.W.codeIn K cd60 "Trusted.list_of" = true) (k60 : PySem.W.keepIn K (.ref f60) = true)
    {oc61 kV61 doc61 pm61 cd61 ct61 : Value} {od61 an61 : Option Addr} {sl61 : Array (Option Value)} {f61 : Addr}
    (a61 : PySem.W.findIn K (.ref C_Trusted) "list_role" = some (some (.ref f61))) (i61 : PySem.W.isFn K (.ref f61) = true)
    (l61 : K.lookup f61 = some ⟨oc61, od61, .func (PySem.W.fnOf "list_role" "Trusted.list_role" (defArgs s_Trusted_list_role) (defBody s_Trusted_list_role) (defScope s_Trusted_list_role) .none kV61 doc61 pm61 an61 cd61 ct61), sl61⟩) (cc61 : PySem.W.codeIn K cd61 "Trusted.list_role" = true) (k61 : PySem.W.keepIn K (.ref f61) = true)
    {oc62 kV62 doc62 pm62 cd62 ct62 : Value} {od62 an62 : Option Addr} {sl62 : Array (Option Value)} {f62 : Addr}
    (a62 : PySem.W.findIn K (.ref C_Trusted) "sealed" = some (some (.ref f62))) (i62 : PySem.W.isFn K (.ref f62) = true)
    (l62 : K.lookup f62 = some ⟨oc62, od62, .func (PySem.W.fnOf "sealed" "Trusted.sealed" (defArgs s_Trusted_sealed) (defBody s_Trusted_sealed) (defScope s_Trusted_sealed) .none kV62 doc62 pm62 an62 cd62 ct62), sl62⟩) (cc62 : PySem.W.codeIn K cd62 "Trusted.sealed" = true) (k62 : PySem.W.keepIn K (.ref f62) = true)
    {oc63 kV63 doc63 pm63 cd63 ct63 : Value} {od63 an63 : Option Addr} {sl63 : Array (Option Value)} {f63 : Addr}
    (a63 : PySem.W.findIn K (.ref C_Trusted) "roles" = some (some (.ref f63))) (i63 : PySem.W.isFn K (.ref f63) = true)
    (l63 : K.lookup f63 = some ⟨oc63, od63, .func (PySem.W.fnOf "roles" "Trusted.roles" (defArgs s_Trusted_roles) (defBody s_Trusted_roles) (defScope s_Trusted_roles) .none kV63 doc63 pm63 an63 cd63 ct63), sl63⟩) (cc63 : PySem.W.codeIn K cd63 "Trusted.roles" = true) (k63 : PySem.W.keepIn K (.ref f63) = true)
    {oc64 kV64 doc64 pm64 cd64 ct64 : Value} {od64 an64 : Option Addr} {sl64 : Array (Option Value)} {f64 : Addr}
    (a64 : PySem.W.findIn K (.ref C_Trusted) "_present_roles" = some (some (.ref f64))) (i64 : PySem.W.isFn K (.ref f64) = true)
    (l64 : K.lookup f64 = some ⟨oc64, od64, .func (PySem.W.fnOf "_present_roles" "Trusted._present_roles" (defArgs s_Trusted__present_roles) (defBody s_Trusted__present_roles) (defScope s_Trusted__present_roles) .none kV64 doc64 pm64 an64 cd64 ct64), sl64⟩) (cc64 : PySem.W.codeIn K cd64 "Trusted._present_roles" = true) (k64 : PySem.W.keepIn K (.ref f64) = true)
    {oc65 kV65 doc65 pm65 cd65 ct65 : Value} {od65 an65 : Option Addr} {sl65 : Array (Option Value)} {f65 : Addr}
    (a65 : PySem.W.findIn K (.ref C_Trusted) "_require_usable" = some (some (.ref f65))) (i65 : PySem.W.isFn K (.ref f65) = true)
    (l65 : K.lookup f65 = some ⟨oc65, od65, .func (PySem.W.fnOf "_require_usable" "Trusted._require_usable" (defArgs s_Trusted__require_usable) (defBody s_Trusted__require_usable) (defScope s_Trusted__require_usable) .none kV65 doc65 pm65 an65 cd65 ct65), sl65⟩) (cc65 : PySem.W.codeIn K cd65 "Trusted._require_usable" = true) (k65 : PySem.W.keepIn K (.ref f65) = true)
    {oc66 kV66 doc66 pm66 cd66 ct66 : Value} {od66 an66 : Option Addr} {sl66 : Array (Option Value)} {f66 : Addr}
    (a66 : PySem.W.findIn K (.ref C_Trusted) "_keep" = some (some (.ref f66))) (i66 : PySem.W.isFn K (.ref f66) = true)
    (l66 : K.lookup f66 = some ⟨oc66, od66, .func (PySem.W.fnOf "_keep" "Trusted._keep" (defArgs s_Trusted__keep) (defBody s_Trusted__keep) (defScope s_Trusted__keep) .none kV66 doc66 pm66 an66 cd66 ct66), sl66⟩) (cc66 : PySem.W.codeIn K cd66 "Trusted._keep" = true) (k66 : PySem.W.keepIn K (.ref f66) = true)
    {oc67 kV67 doc67 pm67 cd67 ct67 : Value} {od67 an67 : Option Addr} {sl67 : Array (Option Value)} {f67 : Addr}
    (a67 : PySem.W.nsIn K mainGlobals "role_of" = some (some (.ref f67)))
    (l67 : K.lookup f67 = some ⟨oc67, od67, .func (PySem.W.fnOf "role_of" "role_of" (defArgs s_role_of) (defBody s_role_of) (defScope s_role_of) .none kV67 doc67 pm67 an67 cd67 ct67), sl67⟩) (cc67 : PySem.W.codeIn K cd67 "role_of" = true) (k67 : PySem.W.keepIn K (.ref f67) = true)
    {oc68 kV68 doc68 pm68 cd68 ct68 : Value} {od68 an68 : Option Addr} {sl68 : Array (Option Value)} {f68 : Addr}
    (a68 : PySem.W.nsIn K mainGlobals "_document_in" = some (some (.ref f68)))
    (l68 : K.lookup f68 = some ⟨oc68, od68, .func (PySem.W.fnOf "_document_in" "_document_in" (defArgs s_document_in) (defBody s_document_in) (defScope s_document_in) .none kV68 doc68 pm68 an68 cd68 ct68), sl68⟩) (cc68 : PySem.W.codeIn K cd68 "_document_in" = true) (k68 : PySem.W.keepIn K (.ref f68) = true)
    {oc69 kV69 doc69 pm69 cd69 ct69 : Value} {od69 an69 : Option Addr} {sl69 : Array (Option Value)} {f69 : Addr}
    (a69 : PySem.W.nsIn K mainGlobals "_require_signed" = some (some (.ref f69)))
    (l69 : K.lookup f69 = some ⟨oc69, od69, .func (PySem.W.fnOf "_require_signed" "_require_signed" (defArgs s_require_signed) (defBody s_require_signed) (defScope s_require_signed) .none kV69 doc69 pm69 an69 cd69 ct69), sl69⟩) (cc69 : PySem.W.codeIn K cd69 "_require_signed" = true) (k69 : PySem.W.keepIn K (.ref f69) = true)
    {oc70 kV70 doc70 pm70 cd70 ct70 : Value} {od70 an70 : Option Addr} {sl70 : Array (Option Value)} {f70 : Addr}
    (a70 : PySem.W.nsIn K mainGlobals "_require_sum" = some (some (.ref f70)))
    (l70 : K.lookup f70 = some ⟨oc70, od70, .func (PySem.W.fnOf "_require_sum" "_require_sum" (defArgs s_require_sum) (defBody s_require_sum) (defScope s_require_sum) .none kV70 doc70 pm70 an70 cd70 ct70), sl70⟩) (cc70 : PySem.W.codeIn K cd70 "_require_sum" = true) (k70 : PySem.W.keepIn K (.ref f70) = true)
    {oc71 kV71 doc71 pm71 cd71 ct71 : Value} {od71 an71 : Option Addr} {sl71 : Array (Option Value)} {f71 : Addr}
    (a71 : PySem.W.nsIn K mainGlobals "_steps_back" = some (some (.ref f71)))
    (l71 : K.lookup f71 = some ⟨oc71, od71, .func (PySem.W.fnOf "_steps_back" "_steps_back" (defArgs s_steps_back) (defBody s_steps_back) (defScope s_steps_back) .none kV71 doc71 pm71 an71 cd71 ct71), sl71⟩) (cc71 : PySem.W.codeIn K cd71 "_steps_back" = true) (k71 : PySem.W.keepIn K (.ref f71) = true)
    {oc72 kV72 doc72 pm72 cd72 ct72 : Value} {od72 an72 : Option Addr} {sl72 : Array (Option Value)} {f72 : Addr}
    (a72 : PySem.W.nsIn K mainGlobals "_loses" = some (some (.ref f72)))
    (l72 : K.lookup f72 = some ⟨oc72, od72, .func (PySem.W.fnOf "_loses" "_loses" (defArgs s_loses) (defBody s_loses) (defScope s_loses) .none kV72 doc72 pm72 an72 cd72 ct72), sl72⟩) (cc72 : PySem.W.codeIn K cd72 "_loses" = true) (k72 : PySem.W.keepIn K (.ref f72) = true)
    {oc73 kV73 doc73 pm73 cd73 ct73 : Value} {od73 an73 : Option Addr} {sl73 : Array (Option Value)} {f73 : Addr}
    (a73 : PySem.W.findIn K (.ref C_Seals) "__init__" = some (some (.ref f73))) (i73 : PySem.W.isFn K (.ref f73) = true)
    (l73 : K.lookup f73 = some ⟨oc73, od73, .func (PySem.W.fnOf "__init__" "Seals.__init__" (defArgs s_Seals___init) (defBody s_Seals___init) (defScope s_Seals___init) .none kV73 doc73 pm73 an73 cd73 ct73), sl73⟩) (cc73 : PySem.W.codeIn K cd73 "Seals.__init__" = true) (k73 : PySem.W.keepIn K (.ref f73) = true)
    {oc74 kV74 doc74 pm74 cd74 ct74 : Value} {od74 an74 : Option Addr} {sl74 : Array (Option Value)} {f74 : Addr}
    (a74 : PySem.W.findIn K (.ref C_Seals) "make" = some (some (.ref f74))) (i74 : PySem.W.isFn K (.ref f74) = true)
    (l74 : K.lookup f74 = some ⟨oc74, od74, .func (PySem.W.fnOf "make" "Seals.make" (defArgs s_Seals_make) (defBody s_Seals_make) (defScope s_Seals_make) .none kV74 doc74 pm74 an74 cd74 ct74), sl74⟩) (cc74 : PySem.W.codeIn K cd74 "Seals.make" = true) (k74 : PySem.W.keepIn K (.ref f74) = true)
    {oc75 kV75 doc75 pm75 cd75 ct75 : Value} {od75 an75 : Option Addr} {sl75 : Array (Option Value)} {f75 : Addr}
    (a75 : PySem.W.findIn K (.ref C_Seals) "holds" = some (some (.ref f75))) (i75 : PySem.W.isFn K (.ref f75) = true)
    (l75 : K.lookup f75 = some ⟨oc75, od75, .func (PySem.W.fnOf "holds" "Seals.holds" (defArgs s_Seals_holds) (defBody s_Seals_holds) (defScope s_Seals_holds) .none kV75 doc75 pm75 an75 cd75 ct75), sl75⟩) (cc75 : PySem.W.codeIn K cd75 "Seals.holds" = true) (k75 : PySem.W.keepIn K (.ref f75) = true)
    {oc76 kV76 doc76 pm76 cd76 ct76 : Value} {od76 an76 : Option Addr} {sl76 : Array (Option Value)} {f76 : Addr}
    (a76 : PySem.W.nsIn K mainGlobals "_law_cell" = some (some (.ref f76)))
    (l76 : K.lookup f76 = some ⟨oc76, od76, .func (PySem.W.fnOf "_law_cell" "_law_cell" (defArgs s_law_cell) (defBody s_law_cell) (defScope s_law_cell) .none kV76 doc76 pm76 an76 cd76 ct76), sl76⟩) (cc76 : PySem.W.codeIn K cd76 "_law_cell" = true) (k76 : PySem.W.keepIn K (.ref f76) = true)
    {oc77 kV77 doc77 pm77 cd77 ct77 : Value} {od77 an77 : Option Addr} {sl77 : Array (Option Value)} {f77 : Addr}
    (a77 : PySem.W.nsIn K mainGlobals "_law_draws" = some (some (.ref f77)))
    (l77 : K.lookup f77 = some ⟨oc77, od77, .func (PySem.W.fnOf "_law_draws" "_law_draws" (defArgs s_law_draws) (defBody s_law_draws) (defScope s_law_draws) .none kV77 doc77 pm77 an77 cd77 ct77), sl77⟩) (cc77 : PySem.W.codeIn K cd77 "_law_draws" = true) (k77 : PySem.W.keepIn K (.ref f77) = true)
    {oc78 kV78 doc78 pm78 cd78 ct78 : Value} {od78 an78 : Option Addr} {sl78 : Array (Option Value)} {f78 : Addr}
    (a78 : PySem.W.nsIn K mainGlobals "_law_refused" = some (some (.ref f78)))
    (l78 : K.lookup f78 = some ⟨oc78, od78, .func (PySem.W.fnOf "_law_refused" "_law_refused" (defArgs s_law_refused) (defBody s_law_refused) (defScope s_law_refused) .none kV78 doc78 pm78 an78 cd78 ct78), sl78⟩) (cc78 : PySem.W.codeIn K cd78 "_law_refused" = true) (k78 : PySem.W.keepIn K (.ref f78) = true)
    {oc79 kV79 doc79 pm79 cd79 ct79 : Value} {od79 an79 : Option Addr} {sl79 : Array (Option Value)} {f79 : Addr}
    (a79 : PySem.W.nsIn K mainGlobals "_law_offer" = some (some (.ref f79)))
    (l79 : K.lookup f79 = some ⟨oc79, od79, .func (PySem.W.fnOf "_law_offer" "_law_offer" (defArgs s_law_offer) (defBody s_law_offer) (defScope s_law_offer) .none kV79 doc79 pm79 an79 cd79 ct79), sl79⟩) (cc79 : PySem.W.codeIn K cd79 "_law_offer" = true) (k79 : PySem.W.keepIn K (.ref f79) = true)
    {oc80 kV80 doc80 pm80 cd80 ct80 : Value} {od80 an80 : Option Addr} {sl80 : Array (Option Value)} {f80 : Addr}
    (a80 : PySem.W.nsIn K mainGlobals "_law_told" = some (some (.ref f80)))
    (l80 : K.lookup f80 = some ⟨oc80, od80, .func (PySem.W.fnOf "_law_told" "_law_told" (defArgs s_law_told) (defBody s_law_told) (defScope s_law_told) .none kV80 doc80 pm80 an80 cd80 ct80), sl80⟩) (cc80 : PySem.W.codeIn K cd80 "_law_told" = true) (k80 : PySem.W.keepIn K (.ref f80) = true)
    {oc81 kV81 doc81 pm81 cd81 ct81 : Value} {od81 an81 : Option Addr} {sl81 : Array (Option Value)} {f81 : Addr}
    (a81 : PySem.W.nsIn K mainGlobals "_law_shelf" = some (some (.ref f81)))
    (l81 : K.lookup f81 = some ⟨oc81, od81, .func (PySem.W.fnOf "_law_shelf" "_law_shelf" (defArgs s_law_shelf) (defBody s_law_shelf) (defScope s_law_shelf) .none kV81 doc81 pm81 an81 cd81 ct81), sl81⟩) (cc81 : PySem.W.codeIn K cd81 "_law_shelf" = true) (k81 : PySem.W.keepIn K (.ref f81) = true)
    {oc82 kV82 doc82 pm82 cd82 ct82 : Value} {od82 an82 : Option Addr} {sl82 : Array (Option Value)} {f82 : Addr}
    (a82 : PySem.W.nsIn K mainGlobals "_law_stamp" = some (some (.ref f82)))
    (l82 : K.lookup f82 = some ⟨oc82, od82, .func (PySem.W.fnOf "_law_stamp" "_law_stamp" (defArgs s_law_stamp) (defBody s_law_stamp) (defScope s_law_stamp) .none kV82 doc82 pm82 an82 cd82 ct82), sl82⟩) (cc82 : PySem.W.codeIn K cd82 "_law_stamp" = true) (k82 : PySem.W.keepIn K (.ref f82) = true)
    {oc83 kV83 doc83 pm83 cd83 ct83 : Value} {od83 an83 : Option Addr} {sl83 : Array (Option Value)} {f83 : Addr}
    (a83 : PySem.W.nsIn K mainGlobals "law" = some (some (.ref f83)))
    (l83 : K.lookup f83 = some ⟨oc83, od83, .func (PySem.W.fnOf "law" "law" (defArgs s_law) (defBody s_law) (defScope s_law) .none kV83 doc83 pm83 an83 cd83 ct83), sl83⟩) (cc83 : PySem.W.codeIn K cd83 "law" = true) (k83 : PySem.W.keepIn K (.ref f83) = true)
    (z_len : PySem.W.nsIn K mainGlobals "len" = some none)
    (z_int : PySem.W.nsIn K mainGlobals "int" = some none)
    (z_str : PySem.W.nsIn K mainGlobals "str" = some none)
    (z_bool : PySem.W.nsIn K mainGlobals "bool" = some none)
    (z_list : PySem.W.nsIn K mainGlobals "list" = some none)
    (z_tuple : PySem.W.nsIn K mainGlobals "tuple" = some none)
    (z_range : PySem.W.nsIn K mainGlobals "range" = some none)
    (z_isinstance : PySem.W.nsIn K mainGlobals "isinstance" = some none)
    (z_ord : PySem.W.nsIn K mainGlobals "ord" = some none)
    (z_all : PySem.W.nsIn K mainGlobals "all" = some none)
    {t_FACTOR : Tok} (v_FACTOR : PySem.W.nsIn K mainGlobals "_FACTOR" = some (some (.int 65599 t_FACTOR)))
    {t_DIVISOR : Tok} (v_DIVISOR : PySem.W.nsIn K mainGlobals "_DIVISOR" = some (some (.int 2361183241434822606617 t_DIVISOR)))
    {t_LETTERS : Tok} (v_LETTERS : PySem.W.nsIn K mainGlobals "_LETTERS" = some (some (.str "abcdefghijklmnopqrstuvwxyz" t_LETTERS)))
    {t_DIGITS : Tok} (v_DIGITS : PySem.W.nsIn K mainGlobals "_DIGITS" = some (some (.str "0123456789" t_DIGITS)))
    {t_PART_MARKS : Tok} (v_PART_MARKS : PySem.W.nsIn K mainGlobals "_PART_MARKS" = some (some (.str "abcdefghijklmnopqrstuvwxyz0123456789_-." t_PART_MARKS)))
    {t_MOST_NAME : Tok} (v_MOST_NAME : PySem.W.nsIn K mainGlobals "_MOST_NAME" = some (some (.int 12 t_MOST_NAME)))
    {t_MOST_PARTS : Tok} (v_MOST_PARTS : PySem.W.nsIn K mainGlobals "_MOST_PARTS" = some (some (.int 6 t_MOST_PARTS)))
    {t_MOST_PATH : Tok} (v_MOST_PATH : PySem.W.nsIn K mainGlobals "MOST_PATH" = some (some (.int 60 t_MOST_PATH)))
    {t_MOST_KEYS : Tok} (v_MOST_KEYS : PySem.W.nsIn K mainGlobals "MOST_KEYS" = some (some (.int 16 t_MOST_KEYS)))
    {t_MOST_NUMBER : Tok} (v_MOST_NUMBER : PySem.W.nsIn K mainGlobals "MOST_NUMBER" = some (some (.int 1000000000000 t_MOST_NUMBER)))
    {t_DIGEST_LENGTH : Tok} (v_DIGEST_LENGTH : PySem.W.nsIn K mainGlobals "DIGEST_LENGTH" = some (some (.int 18 t_DIGEST_LENGTH)))
    {t_DIGEST_MARKS : Tok} (v_DIGEST_MARKS : PySem.W.nsIn K mainGlobals "_DIGEST_MARKS" = some (some (.str "0123456789abcdef" t_DIGEST_MARKS)))
    {t_MOST_PATTERNS : Tok} (v_MOST_PATTERNS : PySem.W.nsIn K mainGlobals "_MOST_PATTERNS" = some (some (.int 8 t_MOST_PATTERNS)))
    {t_MOST_GOODS : Tok} (v_MOST_GOODS : PySem.W.nsIn K mainGlobals "MOST_GOODS" = some (some (.int 64 t_MOST_GOODS)))
    {t_MOST_LISTS : Tok} (v_MOST_LISTS : PySem.W.nsIn K mainGlobals "MOST_LISTS" = some (some (.int 32 t_MOST_LISTS)))
    {t_TOP_LIST : Tok} (v_TOP_LIST : PySem.W.nsIn K mainGlobals "TOP_LIST" = some (some (.str "list" t_TOP_LIST)))
    {t_ROLES : Tok} (v_ROLES : PySem.W.nsIn K mainGlobals "_ROLES" = some (some (.int 4 t_ROLES)))
    {t_BARRED_CODE : Tok} (v_BARRED_CODE : PySem.W.nsIn K mainGlobals "_BARRED_CODE" = some (some (.int 37 t_BARRED_CODE)))
    {t_MOST_DIGITS : Tok} (v_MOST_DIGITS : PySem.W.nsIn K mainGlobals "MOST_DIGITS" = some (some (.int 20 t_MOST_DIGITS)))
    {t_MOST_DEPTH : Tok} (v_MOST_DEPTH : PySem.W.nsIn K mainGlobals "MOST_DEPTH" = some (some (.int 8 t_MOST_DEPTH)))
    {t_MOST_TEXT : Tok} (v_MOST_TEXT : PySem.W.nsIn K mainGlobals "MOST_TEXT" = some (some (.int 100000 t_MOST_TEXT)))
    {t_MOST_SEALS : Tok} (v_MOST_SEALS : PySem.W.nsIn K mainGlobals "MOST_SEALS" = some (some (.int 32 t_MOST_SEALS)))
    {t_MOST_MARK : Tok} (v_MOST_MARK : PySem.W.nsIn K mainGlobals "_MOST_MARK" = some (some (.int 40 t_MOST_MARK)))
    {C_BadText : Addr} (g_BadText : PySem.W.nsIn K mainGlobals "BadText" = some (some (.ref C_BadText))) (e_BadText : PySem.W.excIn K C_BadText [.type "ValueError", .type "Exception", .type "BaseException", .type "object"] "ValueError.__new__" = true) (ke_BadText : PySem.W.keepIn K (.ref C_BadText) = true) (be_BadText : PySem.W.subIn K (.ref C_BadText) (.type "BaseException") = some true) (te_BadText : PySem.W.typeIn K (.ref C_BadText) = some (.type "type")) (ie_BadText : PySem.W.isClsIn K C_BadText = true) (se_BadText : PySem.W.subIn K (.ref C_BadText) (.ref C_BadText) = some true)
    {C_BadDocument : Addr} (g_BadDocument : PySem.W.nsIn K mainGlobals "BadDocument" = some (some (.ref C_BadDocument))) (e_BadDocument : PySem.W.excIn K C_BadDocument [.type "ValueError", .type "Exception", .type "BaseException", .type "object"] "ValueError.__new__" = true) (ke_BadDocument : PySem.W.keepIn K (.ref C_BadDocument) = true) (be_BadDocument : PySem.W.subIn K (.ref C_BadDocument) (.type "BaseException") = some true) (te_BadDocument : PySem.W.typeIn K (.ref C_BadDocument) = some (.type "type")) (ie_BadDocument : PySem.W.isClsIn K C_BadDocument = true) (se_BadDocument : PySem.W.subIn K (.ref C_BadDocument) (.ref C_BadDocument) = some true)
    {C_BadKey : Addr} (g_BadKey : PySem.W.nsIn K mainGlobals "BadKey" = some (some (.ref C_BadKey))) (e_BadKey : PySem.W.excIn K C_BadKey [.type "ValueError", .type "Exception", .type "BaseException", .type "object"] "ValueError.__new__" = true) (ke_BadKey : PySem.W.keepIn K (.ref C_BadKey) = true) (be_BadKey : PySem.W.subIn K (.ref C_BadKey) (.type "BaseException") = some true) (te_BadKey : PySem.W.typeIn K (.ref C_BadKey) = some (.type "type")) (ie_BadKey : PySem.W.isClsIn K C_BadKey = true) (se_BadKey : PySem.W.subIn K (.ref C_BadKey) (.ref C_BadKey) = some true)
    {C_Refused fi_Refused : Addr} {oc_Refused kV_Refused doc_Refused pm_Refused cd_Refused ct_Refused : Value} {od_Refused an_Refused : Option Addr} {sl_Refused : Array (Option Value)} (g_Refused : PySem.W.nsIn K mainGlobals "Refused" = some (some (.ref C_Refused))) (ai_Refused : PySem.W.findIn K (.ref C_Refused) "__init__" = some (some (.ref fi_Refused))) (li_Refused : K.lookup fi_Refused = some ⟨oc_Refused, od_Refused, .func (PySem.W.fnOf "__init__" "Refused.__init__" (defArgs s_Refused___init) (defBody s_Refused___init) (defScope s_Refused___init) .none kV_Refused doc_Refused pm_Refused an_Refused cd_Refused ct_Refused), sl_Refused⟩) (ci_Refused : PySem.W.codeIn K cd_Refused "Refused.__init__" = true) (ki_Refused : PySem.W.keepIn K (.ref fi_Refused) = true) (ti_Refused : PySem.W.typeIn K (.ref fi_Refused) = some (.type "function")) (oo_Refused : OexC K C_Refused) (nn_Refused : PySem.W.findIn K (.ref C_Refused) "reason" = some none) (xf_Refused : xfB K C_Refused = true) (em_Refused : PySem.W.exmOne K (.ref C_Refused) (.ref C_Refused) = some true)
    (xkb1 : PySem.W.exmOne K (.ref C_BadText) (.ref C_BadDocument) = some false) (xkb2 : PySem.W.exmOne K (.ref C_BadDocument) (.ref C_BadText) = some false)
    (z_sorted : PySem.W.nsIn K mainGlobals "sorted" = some none) (z_set : PySem.W.nsIn K mainGlobals "set" = some none) (z_sum : PySem.W.nsIn K mainGlobals "sum" = some none) (z_abs : PySem.W.nsIn K mainGlobals "abs" = some none)
    {R_RN : Addr} {o_RN : Obj} {its_RN : Array Value} {n_RN : Nat} (g_RN : PySem.W.nsIn K mainGlobals "_ROLE_NAMES" = some (some (.ref R_RN))) (lo_RN : K.lookup R_RN = some o_RN) (cl_RN : o_RN.cls = .type "tuple") (di_RN : o_RN.dict = none) (da_RN : o_RN.data = .seq its_RN n_RN) (sz_RN : its_RN.size ≤ sizeLine) (va_RN : Vals (rnm.map V.str) its_RN.toList)
    {dd6 : DefRec} {cK6 : Value} {dc6 : Option Addr} {vs6 : Array Value} {sc6 : Array (Option Value)} (t1_6 : K.lookup c6 = some ⟨cK6, dc6, .fields vs6, sc6⟩) (u1_6 : vs6[11]? = some (.ref Pt6)) (n1_6 : K.lookup Pt6 = none) (r1_6 : (recsOf q).find? (fun e : DefRec => e.name == PySem.Str.ofString "_consists_of") = some dd6)
    {dd7 : DefRec} {cK7 : Value} {dc7 : Option Addr} {vs7 : Array Value} {sc7 : Array (Option Value)} (t1_7 : K.lookup c7 = some ⟨cK7, dc7, .fields vs7, sc7⟩) (u1_7 : vs7[11]? = some (.ref Pt7)) (n1_7 : K.lookup Pt7 = none) (r1_7 : (recsOf q).find? (fun e : DefRec => e.name == PySem.Str.ofString "_has_parts_of") = some dd7)
    {dd8 : DefRec} {cK8 : Value} {dc8 : Option Addr} {vs8 : Array Value} {sc8 : Array (Option Value)} (t1_8 : K.lookup c8 = some ⟨cK8, dc8, .fields vs8, sc8⟩) (u1_8 : vs8[11]? = some (.ref Pt8)) (n1_8 : K.lookup Pt8 = none) (r1_8 : (recsOf q).find? (fun e : DefRec => e.name == PySem.Str.ofString "is_printable") = some dd8)
    {dd20 : DefRec} {cK20 : Value} {dc20 : Option Addr} {vs20 : Array Value} {sc20 : Array (Option Value)} (t1_20 : K.lookup c20 = some ⟨cK20, dc20, .fields vs20, sc20⟩) (u1_20 : vs20[11]? = some (.ref Pt20)) (n1_20 : K.lookup Pt20 = none) (r1_20 : (recsOf q).find? (fun e : DefRec => e.name == PySem.Str.ofString "is_role") = some dd20)
    {dd21 : DefRec} {cK21 : Value} {dc21 : Option Addr} {vs21 : Array Value} {sc21 : Array (Option Value)} (t1_21 : K.lookup c21 = some ⟨cK21, dc21, .fields vs21, sc21⟩) (u1_21 : vs21[11]? = some (.ref Pt21)) (n1_21 : K.lookup Pt21 = none) (r1_21 : (recsOf q).find? (fun e : DefRec => e.name == PySem.Str.ofString "is_digest") = some dd21)
    {dd22 : DefRec} {cK22 : Value} {dc22 : Option Addr} {vs22 : Array Value} {sc22 : Array (Option Value)} (t1_22 : K.lookup c22 = some ⟨cK22, dc22, .fields vs22, sc22⟩) (u1_22 : vs22[11]? = some (.ref Pt22)) (n1_22 : K.lookup Pt22 = none) (r1_22 : (recsOf q).find? (fun e : DefRec => e.name == PySem.Str.ofString "is_grant") = some dd22)
    {dd23 : DefRec} {cK23 : Value} {dc23 : Option Addr} {vs23 : Array Value} {sc23 : Array (Option Value)} (t1_23 : K.lookup c23 = some ⟨cK23, dc23, .fields vs23, sc23⟩) (u1_23 : vs23[11]? = some (.ref Pt23)) (n1_23 : K.lookup Pt23 = none) (r1_23 : (recsOf q).find? (fun e : DefRec => e.name == PySem.Str.ofString "is_charter") = some dd23)
    {dd25 : DefRec} {cK25 : Value} {dc25 : Option Addr} {vs25 : Array Value} {sc25 : Array (Option Value)} (t1_25 : K.lookup c25 = some ⟨cK25, dc25, .fields vs25, sc25⟩) (u1_25 : vs25[11]? = some (.ref Pt25)) (n1_25 : K.lookup Pt25 = none) (r1_25 : (recsOf q).find? (fun e : DefRec => e.name == PySem.Str.ofString "is_shelf") = some dd25)
    {dd26 : DefRec} {cK26 : Value} {dc26 : Option Addr} {vs26 : Array Value} {sc26 : Array (Option Value)} (t1_26 : K.lookup c26 = some ⟨cK26, dc26, .fields vs26, sc26⟩) (u1_26 : vs26[11]? = some (.ref Pt26)) (n1_26 : K.lookup Pt26 = none) (r1_26 : (recsOf q).find? (fun e : DefRec => e.name == PySem.Str.ofString "is_list") = some dd26)
    {dd43 : DefRec} {cK43 : Value} {dc43 : Option Addr} {vs43 : Array Value} {sc43 : Array (Option Value)} (t1_43 : K.lookup c43 = some ⟨cK43, dc43, .fields vs43, sc43⟩) (u1_43 : vs43[11]? = some (.ref Pt43)) (n1_43 : K.lookup Pt43 = none) (r1_43 : (recsOf q).find? (fun e : DefRec => e.name == PySem.Str.ofString "support") = some dd43)
    {dd45 : DefRec} {cK45 : Value} {dc45 : Option Addr} {vs45 : Array Value} {sc45 : Array (Option Value)} (t1_45 : K.lookup c45 = some ⟨cK45, dc45, .fields vs45, sc45⟩) (u1_45 : vs45[11]? = some (.ref Pt45)) (n1_45 : K.lookup Pt45 = none) (r1_45 : (recsOf q).find? (fun e : DefRec => e.name == PySem.Str.ofString "_is_content") = some dd45)
    {dd44 : DefRec} {cK44 : Value} {dc44 : Option Addr} {vs44 : Array Value} {sc44 : Array (Option Value)} (t1_44 : K.lookup c44 = some ⟨cK44, dc44, .fields vs44, sc44⟩) (u1_44 : vs44[11]? = some (.ref Pt44)) (n1_44 : K.lookup Pt44 = none) (r1_44 : (recsOf q).find? (fun e : DefRec => e.name == PySem.Str.ofString "_different_keys") = some dd44) :
    LamX.LawAtS l w K CX0 30 63 "script" mg fa h := by
  have e := hfa.symm.trans (PySem.W.mg_of X G a83)
  cases e
  have F0 := fun_mk (st := s_digest) l0 cc0 k0
  have b0 := F0.binds (ps := ["text"]) fun _ _ _ _ _ _ us hl => match us, hl with | [_], _ => rfl
  have F1 := fun_mk (st := s_is_list_name) l1 cc1 k1
  have b1 := F1.binds (ps := ["value"]) fun _ _ _ _ _ _ us hl => match us, hl with | [_], _ => rfl
  have F2 := fun_mk (st := s_is_key) l2 cc2 k2
  have b2 := F2.binds (ps := ["value"]) fun _ _ _ _ _ _ us hl => match us, hl with | [_], _ => rfl
  have F3 := fun_mk (st := s_is_path) l3 cc3 k3
  have b3 := F3.binds (ps := ["value"]) fun _ _ _ _ _ _ us hl => match us, hl with | [_], _ => rfl
  have F4 := fun_mk (st := s_is_pattern) l4 cc4 k4
  have b4 := F4.binds (ps := ["value"]) fun _ _ _ _ _ _ us hl => match us, hl with | [_], _ => rfl
  have F5 := fun_mk (st := s_ascends) l5 cc5 k5
  have b5 := F5.binds (ps := ["names"]) fun _ _ _ _ _ _ us hl => match us, hl with | [_], _ => rfl
  have F6 := fun_mk (st := s_consists_of) l6 cc6 k6
  have b6 := F6.binds (ps := ["text", "marks"]) fun _ _ _ _ _ _ us hl => match us, hl with | [_, _], _ => rfl
  have F7 := fun_mk (st := s_has_parts_of) l7 cc7 k7
  have b7 := F7.binds (ps := ["value", "marks"]) fun _ _ _ _ _ _ us hl => match us, hl with | [_, _], _ => rfl
  have F8 := fun_mk (st := s_is_printable) l8 cc8 k8
  have b8 := F8.binds (ps := ["value"]) fun _ _ _ _ _ _ us hl => match us, hl with | [_], _ => rfl
  have F9 := fun_mk (st := s_is_integer) l9 cc9 k9
  have b9 := F9.binds (ps := ["value", "least", "greatest"]) fun _ _ _ _ _ _ us hl => match us, hl with | [_, _, _], _ => rfl
  have F10 := fun_mk (st := s_encode) l10 cc10 k10
  have b10 := F10.binds (ps := ["value"]) fun _ _ _ _ _ _ us hl => match us, hl with | [_], _ => rfl
  have F11 := fun_mk (st := s_decode) l11 cc11 k11
  have b11 := F11.binds (ps := ["text"]) fun _ _ _ _ _ _ us hl => match us, hl with | [_], _ => rfl
  have F12 := fun_mk (st := s_text_of) l12 cc12 k12
  have b12 := F12.binds (ps := ["value", "levels"]) fun _ _ _ _ _ _ us hl => match us, hl with | [_, _], _ => rfl
  have F13 := fun_mk (st := s_tuple_text) l13 cc13 k13
  have b13 := F13.binds (ps := ["parts", "levels"]) fun _ _ _ _ _ _ us hl => match us, hl with | [_, _], _ => rfl
  have F14 := fun_mk (st := s_greatest_integer) l14 cc14 k14
  have b14 := F14.binds (ps := []) fun _ _ _ _ _ _ us hl => match us, hl with | [], _ => rfl
  have F15 := fun_mk (st := s_value_at) l15 cc15 k15
  have b15 := F15.binds (ps := ["text", "start", "levels"]) fun _ _ _ _ _ _ us hl => match us, hl with | [_, _, _], _ => rfl
  have F16 := fun_mk (st := s_tuple_at) l16 cc16 k16
  have b16 := F16.binds (ps := ["text", "start", "levels"]) fun _ _ _ _ _ _ us hl => match us, hl with | [_, _, _], _ => rfl
  have F17 := fun_mk (st := s_string_at) l17 cc17 k17
  have b17 := F17.binds (ps := ["text", "start", "length"]) fun _ _ _ _ _ _ us hl => match us, hl with | [_, _, _], _ => rfl
  have F18 := fun_mk (st := s_end_of_digits) l18 cc18 k18
  have b18 := F18.binds (ps := ["text", "start"]) fun _ _ _ _ _ _ us hl => match us, hl with | [_, _], _ => rfl
  have F19 := fun_mk (st := s_number_of) l19 cc19 k19
  have b19 := F19.binds (ps := ["digits"]) fun _ _ _ _ _ _ us hl => match us, hl with | [_], _ => rfl
  have F20 := fun_mk (st := s_is_role) l20 cc20 k20
  have b20 := F20.binds (ps := ["value"]) fun _ _ _ _ _ _ us hl => match us, hl with | [_], _ => rfl
  have F21 := fun_mk (st := s_is_digest) l21 cc21 k21
  have b21 := F21.binds (ps := ["value"]) fun _ _ _ _ _ _ us hl => match us, hl with | [_], _ => rfl
  have F22 := fun_mk (st := s_is_grant) l22 cc22 k22
  have b22 := F22.binds (ps := ["value"]) fun _ _ _ _ _ _ us hl => match us, hl with | [_], _ => rfl
  have F23 := fun_mk (st := s_is_charter) l23 cc23 k23
  have b23 := F23.binds (ps := ["value"]) fun _ _ _ _ _ _ us hl => match us, hl with | [_], _ => rfl
  have F24 := fun_mk (st := s_is_stamp) l24 cc24 k24
  have b24 := F24.binds (ps := ["value"]) fun _ _ _ _ _ _ us hl => match us, hl with | [_], _ => rfl
  have F25 := fun_mk (st := s_is_shelf) l25 cc25 k25
  have b25 := F25.binds (ps := ["value"]) fun _ _ _ _ _ _ us hl => match us, hl with | [_], _ => rfl
  have F26 := fun_mk (st := s_is_list) l26 cc26 k26
  have b26 := F26.binds (ps := ["value"]) fun _ _ _ _ _ _ us hl => match us, hl with | [_], _ => rfl
  have F27 := fun_mk (st := s_is_amount) l27 cc27 k27
  have b27 := F27.binds (ps := ["value"]) fun _ _ _ _ _ _ us hl => match us, hl with | [_], _ => rfl
  have F28 := fun_mk (st := s_read) l28 cc28 k28
  have b28 := F28.binds (ps := ["kind", "text"]) fun _ _ _ _ _ _ us hl => match us, hl with | [_, _], _ => rfl
  have F29 := fun_mk (st := s_write) l29 cc29 k29
  have b29 := F29.binds (ps := ["document"]) fun _ _ _ _ _ _ us hl => match us, hl with | [_], _ => rfl
  have F30 := fun_mk (st := s_entry_of) l30 cc30 k30
  have b30 := F30.binds (ps := ["document", "name"]) fun _ _ _ _ _ _ us hl => match us, hl with | [_, _], _ => rfl
  have F31 := fun_mk (st := s_is_tuple_of) l31 cc31 k31
  have b31 := F31.binds (ps := ["value", "many"]) fun _ _ _ _ _ _ us hl => match us, hl with | [_, _], _ => rfl
  have F32 := fun_mk (st := s_is_tuple_within) l32 cc32 k32
  have b32 := F32.binds (ps := ["value", "least", "most"]) fun _ _ _ _ _ _ us hl => match us, hl with | [_, _, _], _ => rfl
  have F33 := fun_mk (st := s_is_headed) l33 cc33 k33
  have b33 := F33.binds (ps := ["value", "word", "many"]) fun _ _ _ _ _ _ us hl => match us, hl with | [_, _, _], _ => rfl
  have F34 := fun_mk (st := s_is_version) l34 cc34 k34
  have b34 := F34.binds (ps := ["value"]) fun _ _ _ _ _ _ us hl => match us, hl with | [_], _ => rfl
  have F35 := fun_mk (st := s_is_entry) l35 cc35 k35
  have b35 := F35.binds (ps := ["value"]) fun _ _ _ _ _ _ us hl => match us, hl with | [_], _ => rfl
  have F36 := fun_mk (st := s_is_named_entry) l36 cc36 k36
  have b36 := F36.binds (ps := ["value"]) fun _ _ _ _ _ _ us hl => match us, hl with | [_], _ => rfl
  have F37 := fun_mk (st := s_is_good) l37 cc37 k37
  have b37 := F37.binds (ps := ["value"]) fun _ _ _ _ _ _ us hl => match us, hl with | [_], _ => rfl
  have F38 := fun_mk (st := s_is_document) l38 cc38 k38
  have b38 := F38.binds (ps := ["kind", "value"]) fun _ _ _ _ _ _ us hl => match us, hl with | [_, _], _ => rfl
  have F39 := fun_mk (st := s_require_document) l39 cc39 k39
  have b39 := F39.binds (ps := ["value"]) fun _ _ _ _ _ _ us hl => match us, hl with | [_], _ => rfl
  have F40 := fun_mk (st := s_behind_name) l40 cc40 k40
  have b40 := F40.binds (ps := ["rows", "name"]) fun _ _ _ _ _ _ us hl => match us, hl with | [_, _], _ => rfl
  have F41 := fun_mk (st := s_seal) l41 cc41 k41
  have b41 := F41.binds (ps := ["office", "text", "keys"]) fun _ _ _ _ _ _ us hl => match us, hl with | [_, _, _], _ => rfl
  have F42 := fun_mk (st := s_opened) l42 cc42 k42
  have b42 := F42.binds (ps := ["sealed"]) fun _ _ _ _ _ _ us hl => match us, hl with | [_], _ => rfl
  have F43 := fun_mk (st := s_support) l43 cc43 k43
  have b43 := F43.binds (ps := ["office", "sealed", "keys"]) fun _ _ _ _ _ _ us hl => match us, hl with | [_, _, _], _ => rfl
  have F44 := fun_mk (st := s_different_keys) l44 cc44 k44
  have b44 := F44.binds (ps := ["keys"]) fun _ _ _ _ _ _ us hl => match us, hl with | [_], _ => rfl
  have F45 := fun_mk (st := s_is_content) l45 cc45 k45
  have b45 := F45.binds (ps := ["value"]) fun _ _ _ _ _ _ us hl => match us, hl with | [_], _ => rfl
  have F46 := fun_mk (st := s_is_seal) l46 cc46 k46
  have b46 := F46.binds (ps := ["value"]) fun _ _ _ _ _ _ us hl => match us, hl with | [_], _ => rfl
  have F47 := fun_mk (st := s_Trusted___init) l47 cc47 k47
  have b47 := F47.binds (ps := ["self", "office", "sealed"]) fun _ _ _ _ _ _ us hl => match us, hl with | [_, _, _], _ => rfl
  have F48 := fun_mk (st := s_Trusted_accept_charter) l48 cc48 k48
  have b48 := F48.binds (ps := ["self", "sealed"]) fun _ _ _ _ _ _ us hl => match us, hl with | [_, _], _ => rfl
  have F49 := fun_mk (st := s_Trusted_accept_stamp) l49 cc49 k49
  have b49 := F49.binds (ps := ["self", "sealed"]) fun _ _ _ _ _ _ us hl => match us, hl with | [_, _], _ => rfl
  have F50 := fun_mk (st := s_Trusted_accept_shelf) l50 cc50 k50
  have b50 := F50.binds (ps := ["self", "sealed"]) fun _ _ _ _ _ _ us hl => match us, hl with | [_, _], _ => rfl
  have F51 := fun_mk (st := s_Trusted_accept_list) l51 cc51 k51
  have b51 := F51.binds (ps := ["self", "name", "sealed", "role"]) fun _ _ _ _ _ _ us hl => match us, hl with | [_, _, _, _], _ => rfl
  have F52 := fun_mk (st := s_Trusted_restore_stamp) l52 cc52 k52
  have b52 := F52.binds (ps := ["self", "sealed", "roles"]) fun _ _ _ _ _ _ us hl => match us, hl with | [_, _, _], _ => rfl
  have F53 := fun_mk (st := s_Trusted_restore_shelf) l53 cc53 k53
  have b53 := F53.binds (ps := ["self", "sealed"]) fun _ _ _ _ _ _ us hl => match us, hl with | [_, _], _ => rfl
  have F54 := fun_mk (st := s_Trusted_outdated) l54 cc54 k54
  have b54 := F54.binds (ps := ["self"]) fun _ _ _ _ _ _ us hl => match us, hl with | [_], _ => rfl
  have F55 := fun_mk (st := s_Trusted_forget) l55 cc55 k55
  have b55 := F55.binds (ps := ["self"]) fun _ _ _ _ _ _ us hl => match us, hl with | [_], _ => rfl
  have F56 := fun_mk (st := s_Trusted_is_current) l56 cc56 k56
  have b56 := F56.binds (ps := ["self"]) fun _ _ _ _ _ _ us hl => match us, hl with | [_], _ => rfl
  have F57 := fun_mk (st := s_Trusted_charter) l57 cc57 k57
  have b57 := F57.binds (ps := ["self"]) fun _ _ _ _ _ _ us hl => match us, hl with | [_], _ => rfl
  have F58 := fun_mk (st := s_Trusted_stamp) l58 cc58 k58
  have b58 := F58.binds (ps := ["self"]) fun _ _ _ _ _ _ us hl => match us, hl with | [_], _ => rfl
  have F59 := fun_mk (st := s_Trusted_shelf) l59 cc59 k59
  have b59 := F59.binds (ps := ["self"]) fun _ _ _ _ _ _ us hl => match us, hl with | [_], _ => rfl
  have F60 := fun_mk (st := s_Trusted_list_of) l60 cc60 k60
  have b60 := F60.binds (ps := ["self", "name"]) fun _ _ _ _ _ _ us hl => match us, hl with | [_, _], _ => rfl
  have F61 := fun_mk (st := s_Trusted_list_role) l61 cc61 k61
  have b61 := F61.binds (ps := ["self", "name"]) fun _ _ _ _ _ _ us hl => match us, hl with | [_, _], _ => rfl
  have F62 := fun_mk (st := s_Trusted_sealed) l62 cc62 k62
  have b62 := F62.binds (ps := ["self", "kind"]) fun _ _ _ _ _ _ us hl => match us, hl with | [_, _], _ => rfl
  have F63 := fun_mk (st := s_Trusted_roles) l63 cc63 k63
  have b63 := F63.binds (ps := ["self"]) fun _ _ _ _ _ _ us hl => match us, hl with | [_], _ => rfl
  have F64 := fun_mk (st := s_Trusted__present_roles) l64 cc64 k64
  have b64 := F64.binds (ps := ["self"]) fun _ _ _ _ _ _ us hl => match us, hl with | [_], _ => rfl
  have F65 := fun_mk (st := s_Trusted__require_usable) l65 cc65 k65
  have b65 := F65.binds (ps := ["self", "sealed"]) fun _ _ _ _ _ _ us hl => match us, hl with | [_, _], _ => rfl
  have F66 := fun_mk (st := s_Trusted__keep) l66 cc66 k66
  have b66 := F66.binds (ps := ["self", "kind", "document", "sealed"]) fun _ _ _ _ _ _ us hl => match us, hl with | [_, _, _, _], _ => rfl
  have F67 := fun_mk (st := s_role_of) l67 cc67 k67
  have b67 := F67.binds (ps := ["charter", "name"]) fun _ _ _ _ _ _ us hl => match us, hl with | [_, _], _ => rfl
  have F68 := fun_mk (st := s_document_in) l68 cc68 k68
  have b68 := F68.binds (ps := ["kind", "sealed"]) fun _ _ _ _ _ _ us hl => match us, hl with | [_, _], _ => rfl
  have F69 := fun_mk (st := s_require_signed) l69 cc69 k69
  have b69 := F69.binds (ps := ["office", "sealed", "role"]) fun _ _ _ _ _ _ us hl => match us, hl with | [_, _, _], _ => rfl
  have F70 := fun_mk (st := s_require_sum) l70 cc70 k70
  have b70 := F70.binds (ps := ["sealed", "entry"]) fun _ _ _ _ _ _ us hl => match us, hl with | [_, _], _ => rfl
  have F71 := fun_mk (st := s_steps_back) l71 cc71 k71
  have b71 := F71.binds (ps := ["before", "stamp"]) fun _ _ _ _ _ _ us hl => match us, hl with | [_, _], _ => rfl
  have F72 := fun_mk (st := s_loses) l72 cc72 k72
  have b72 := F72.binds (ps := ["before", "shelf"]) fun _ _ _ _ _ _ us hl => match us, hl with | [_, _], _ => rfl
  have F73 := fun_mk (st := s_Seals___init) l73 cc73 k73
  have b73 := F73.binds (ps := ["self"]) fun _ _ _ _ _ _ us hl => match us, hl with | [_], _ => rfl
  have F74 := fun_mk (st := s_Seals_make) l74 cc74 k74
  have b74 := F74.binds (ps := ["self", "key", "text"]) fun _ _ _ _ _ _ us hl => match us, hl with | [_, _, _], _ => rfl
  have F75 := fun_mk (st := s_Seals_holds) l75 cc75 k75
  have b75 := F75.binds (ps := ["self", "key", "text", "mark"]) fun _ _ _ _ _ _ us hl => match us, hl with | [_, _, _, _], _ => rfl
  have F76 := fun_mk (st := s_law_cell) l76 cc76 k76
  have b76 := F76.binds (ps := ["script", "k"]) fun _ _ _ _ _ _ us hl => match us, hl with | [_, _], _ => rfl
  have F77 := fun_mk (st := s_law_draws) l77 cc77 k77
  have b77 := F77.binds (ps := ["script", "start", "most"]) fun _ _ _ _ _ _ us hl => match us, hl with | [_, _, _], _ => rfl
  have F78 := fun_mk (st := s_law_refused) l78 cc78 k78
  have b78 := F78.binds (ps := ["trusted", "what", "value"]) fun _ _ _ _ _ _ us hl => match us, hl with | [_, _, _], _ => rfl
  have F79 := fun_mk (st := s_law_offer) l79 cc79 k79
  have b79 := F79.binds (ps := ["trusted", "what", "sealed"]) fun _ _ _ _ _ _ us hl => match us, hl with | [_, _, _], _ => rfl
  have F80 := fun_mk (st := s_law_told) l80 cc80 k80
  have b80 := F80.binds (ps := ["trusted"]) fun _ _ _ _ _ _ us hl => match us, hl with | [_], _ => rfl
  have F81 := fun_mk (st := s_law_shelf) l81 cc81 k81
  have b81 := F81.binds (ps := ["office", "version", "list_version"]) fun _ _ _ _ _ _ us hl => match us, hl with | [_, _, _], _ => rfl
  have F82 := fun_mk (st := s_law_stamp) l82 cc82 k82
  have b82 := F82.binds (ps := ["office", "version", "shelf_version", "sealed", "key"]) fun _ _ _ _ _ _ us hl => match us, hl with | [_, _, _, _, _], _ => rfl
  have F83 := fun_mk (st := s_law) l83 cc83 k83
  have b83 := F83.binds (ps := ["script"]) fun _ _ _ _ _ _ us hl => match us, hl with | [_], _ => rfl
  have B : Blt mg := ⟨PySem.W.mg_none_of X G z_len, PySem.W.mg_none_of X G z_int, PySem.W.mg_none_of X G z_str, PySem.W.mg_none_of X G z_bool, PySem.W.mg_none_of X G z_list, PySem.W.mg_none_of X G z_tuple, PySem.W.mg_none_of X G z_range, PySem.W.mg_none_of X G z_isinstance, PySem.W.mg_none_of X G z_ord, PySem.W.mg_none_of X G z_all⟩
  have cl_Seals : Cls K C_Seals := ⟨pg_Seals, hd_Seals, po_Seals, sa_Seals⟩
  have cl_Trusted : Cls K C_Trusted := ⟨pg_Trusted, hd_Trusted, po_Trusted, sa_Trusted⟩
  have E_BadText : Err K mg "BadText" C_BadText := ⟨PySem.W.mg_of X G g_BadText, e_BadText, ke_BadText, be_BadText, te_BadText, ie_BadText, se_BadText⟩
  have E_BadDocument : Err K mg "BadDocument" C_BadDocument := ⟨PySem.W.mg_of X G g_BadDocument, e_BadDocument, ke_BadDocument, be_BadDocument, te_BadDocument, ie_BadDocument, se_BadDocument⟩
  have E_BadKey : Err K mg "BadKey" C_BadKey := ⟨PySem.W.mg_of X G g_BadKey, e_BadKey, ke_BadKey, be_BadKey, te_BadKey, ie_BadKey, se_BadKey⟩
  obtain ⟨hC6, hP6⟩ := tab_mk T X r1_6 a6 l6 rfl t1_6 u1_6
  obtain ⟨hC7, hP7⟩ := tab_mk T X r1_7 a7 l7 rfl t1_7 u1_7
  obtain ⟨hC8, hP8⟩ := tab_mk T X r1_8 a8 l8 rfl t1_8 u1_8
  obtain ⟨hC20, hP20⟩ := tab_mk T X r1_20 a20 l20 rfl t1_20 u1_20
  obtain ⟨hC21, hP21⟩ := tab_mk T X r1_21 a21 l21 rfl t1_21 u1_21
  obtain ⟨hC22, hP22⟩ := tab_mk T X r1_22 a22 l22 rfl t1_22 u1_22
  obtain ⟨hC23, hP23⟩ := tab_mk T X r1_23 a23 l23 rfl t1_23 u1_23
  obtain ⟨hC25, hP25⟩ := tab_mk T X r1_25 a25 l25 rfl t1_25 u1_25
  obtain ⟨hC26, hP26⟩ := tab_mk T X r1_26 a26 l26 rfl t1_26 u1_26
  obtain ⟨hC43, hP43⟩ := tab_mk T X r1_43 a43 l43 rfl t1_43 u1_43
  obtain ⟨hC45, hP45⟩ := tab_mk T X r1_45 a45 l45 rfl t1_45 u1_45
  obtain ⟨hC44, hP44⟩ := tab_mk T X r1_44 a44 l44 rfl t1_44 u1_44
  have each : ∀ {φ : Addr × Addr → Prop}, φ (c6, Pt6) → φ (c7, Pt7) → φ (c8, Pt8) → φ (c20, Pt20) → φ (c21, Pt21) → φ (c22, Pt22) → φ (c23, Pt23) → φ (c25, Pt25) → φ (c26, Pt26) → φ (c43, Pt43) → φ (c45, Pt45) → φ (c44, Pt44) → ∀ p ∈ ([(c6, Pt6), (c7, Pt7), (c8, Pt8), (c20, Pt20), (c21, Pt21), (c22, Pt22), (c23, Pt23), (c25, Pt25), (c26, Pt26), (c43, Pt43), (c45, Pt45), (c44, Pt44)] : List (Addr × Addr)), φ p := fun h6 h7 h8 h20 h21 h22 h23 h25 h26 h43 h45 h44 p hp => by
    simp only [List.mem_cons, List.not_mem_nil, or_false] at hp
    rcases hp with rfl | rfl | rfl | rfl | rfl | rfl | rfl | rfl | rfl | rfl | rfl | rfl
    · exact h6
    · exact h7
    · exact h8
    · exact h20
    · exact h21
    · exact h22
    · exact h23
    · exact h25
    · exact h26
    · exact h43
    · exact h45
    · exact h44
  have eachT : ∀ {φ : Addr → Prop}, φ Pt6 → φ Pt7 → φ Pt8 → φ Pt20 → φ Pt21 → φ Pt22 → φ Pt23 → φ Pt25 → φ Pt26 → φ Pt43 → φ Pt45 → φ Pt44 → ∀ p ∈ ([Pt6, Pt7, Pt8, Pt20, Pt21, Pt22, Pt23, Pt25, Pt26, Pt43, Pt45, Pt44] : List Addr), φ p := fun h6 h7 h8 h20 h21 h22 h23 h25 h26 h43 h45 h44 p hp => by
    simp only [List.mem_cons, List.not_mem_nil, or_false] at hp
    rcases hp with rfl | rfl | rfl | rfl | rfl | rfl | rfl | rfl | rfl | rfl | rfl | rfl
    · exact h6
    · exact h7
    · exact h8
    · exact h20
    · exact h21
    · exact h22
    · exact h23
    · exact h25
    · exact h26
    · exact h43
    · exact h45
    · exact h44
  have m_Pt6 : Pt6 ∈ ([Pt6, Pt7, Pt8, Pt20, Pt21, Pt22, Pt23, Pt25, Pt26, Pt43, Pt45, Pt44] : List Addr) := List.mem_cons_self
  have m_Pt7 : Pt7 ∈ ([Pt6, Pt7, Pt8, Pt20, Pt21, Pt22, Pt23, Pt25, Pt26, Pt43, Pt45, Pt44] : List Addr) := List.mem_cons_of_mem _ (List.mem_cons_self)
  have m_Pt8 : Pt8 ∈ ([Pt6, Pt7, Pt8, Pt20, Pt21, Pt22, Pt23, Pt25, Pt26, Pt43, Pt45, Pt44] : List Addr) := List.mem_cons_of_mem _ (List.mem_cons_of_mem _ (List.mem_cons_self))
  have m_Pt20 : Pt20 ∈ ([Pt6, Pt7, Pt8, Pt20, Pt21, Pt22, Pt23, Pt25, Pt26, Pt43, Pt45, Pt44] : List Addr) := List.mem_cons_of_mem _ (List.mem_cons_of_mem _ (List.mem_cons_of_mem _ (List.mem_cons_self)))
  have m_Pt21 : Pt21 ∈ ([Pt6, Pt7, Pt8, Pt20, Pt21, Pt22, Pt23, Pt25, Pt26, Pt43, Pt45, Pt44] : List Addr) := List.mem_cons_of_mem _ (List.mem_cons_of_mem _ (List.mem_cons_of_mem _ (List.mem_cons_of_mem _ (List.mem_cons_self))))
  have m_Pt22 : Pt22 ∈ ([Pt6, Pt7, Pt8, Pt20, Pt21, Pt22, Pt23, Pt25, Pt26, Pt43, Pt45, Pt44] : List Addr) := List.mem_cons_of_mem _ (List.mem_cons_of_mem _ (List.mem_cons_of_mem _ (List.mem_cons_of_mem _ (List.mem_cons_of_mem _ (List.mem_cons_self)))))
  have m_Pt23 : Pt23 ∈ ([Pt6, Pt7, Pt8, Pt20, Pt21, Pt22, Pt23, Pt25, Pt26, Pt43, Pt45, Pt44] : List Addr) := List.mem_cons_of_mem _ (List.mem_cons_of_mem _ (List.mem_cons_of_mem _ (List.mem_cons_of_mem _ (List.mem_cons_of_mem _ (List.mem_cons_of_mem _ (List.mem_cons_self))))))
  have m_Pt25 : Pt25 ∈ ([Pt6, Pt7, Pt8, Pt20, Pt21, Pt22, Pt23, Pt25, Pt26, Pt43, Pt45, Pt44] : List Addr) := List.mem_cons_of_mem _ (List.mem_cons_of_mem _ (List.mem_cons_of_mem _ (List.mem_cons_of_mem _ (List.mem_cons_of_mem _ (List.mem_cons_of_mem _ (List.mem_cons_of_mem _ (List.mem_cons_self)))))))
  have m_Pt26 : Pt26 ∈ ([Pt6, Pt7, Pt8, Pt20, Pt21, Pt22, Pt23, Pt25, Pt26, Pt43, Pt45, Pt44] : List Addr) := List.mem_cons_of_mem _ (List.mem_cons_of_mem _ (List.mem_cons_of_mem _ (List.mem_cons_of_mem _ (List.mem_cons_of_mem _ (List.mem_cons_of_mem _ (List.mem_cons_of_mem _ (List.mem_cons_of_mem _ (List.mem_cons_self))))))))
  have m_Pt43 : Pt43 ∈ ([Pt6, Pt7, Pt8, Pt20, Pt21, Pt22, Pt23, Pt25, Pt26, Pt43, Pt45, Pt44] : List Addr) := List.mem_cons_of_mem _ (List.mem_cons_of_mem _ (List.mem_cons_of_mem _ (List.mem_cons_of_mem _ (List.mem_cons_of_mem _ (List.mem_cons_of_mem _ (List.mem_cons_of_mem _ (List.mem_cons_of_mem _ (List.mem_cons_of_mem _ (List.mem_cons_self)))))))))
  have m_Pt45 : Pt45 ∈ ([Pt6, Pt7, Pt8, Pt20, Pt21, Pt22, Pt23, Pt25, Pt26, Pt43, Pt45, Pt44] : List Addr) := List.mem_cons_of_mem _ (List.mem_cons_of_mem _ (List.mem_cons_of_mem _ (List.mem_cons_of_mem _ (List.mem_cons_of_mem _ (List.mem_cons_of_mem _ (List.mem_cons_of_mem _ (List.mem_cons_of_mem _ (List.mem_cons_of_mem _ (List.mem_cons_of_mem _ (List.mem_cons_self))))))))))
  have m_Pt44 : Pt44 ∈ ([Pt6, Pt7, Pt8, Pt20, Pt21, Pt22, Pt23, Pt25, Pt26, Pt43, Pt45, Pt44] : List Addr) := List.mem_cons_of_mem _ (List.mem_cons_of_mem _ (List.mem_cons_of_mem _ (List.mem_cons_of_mem _ (List.mem_cons_of_mem _ (List.mem_cons_of_mem _ (List.mem_cons_of_mem _ (List.mem_cons_of_mem _ (List.mem_cons_of_mem _ (List.mem_cons_of_mem _ (List.mem_cons_of_mem _ (List.mem_cons_self)))))))))))
  refine ⟨PySem.W.fnOf "law" "law" (defArgs s_law) (defBody s_law) (defScope s_law) .none kV83 doc83 pm83 an83 cd83 ct83, [(c6, Pt6), (c7, Pt7), (c8, Pt8), (c20, Pt20), (c21, Pt21), (c22, Pt22), (c23, Pt23), (c25, Pt25), (c26, Pt26), (c43, Pt43), (c45, Pt45), (c44, Pt44)], spLaw34 K ([Pt6, Pt7, Pt8, Pt20, Pt21, Pt22, Pt23, Pt25, Pt26, Pt43, Pt45, Pt44]), each hP6 hP7 hP8 hP20 hP21 hP22 hP23 hP25 hP26 hP43 hP45 hP44, each n1_6 n1_7 n1_8 n1_20 n1_21 n1_22 n1_23 n1_25 n1_26 n1_43 n1_45 n1_44, each hC6 hC7 hC8 hC20 hC21 hC22 hC23 hC25 hC26 hC43 hC45 hC44, fun s v => .of_eq rfl, fun H a ns hl hb ht hS => ?_, fun base KB GB TBs => ?_⟩
  · have g : Tabs ([Pt6, Pt7, Pt8, Pt20, Pt21, Pt22, Pt23, Pt25, Pt26, Pt43, Pt45, Pt44]) H := eachT ⟨#[], ht (c6, Pt6) (List.mem_cons_self), True.intro⟩ ⟨#[], ht (c7, Pt7) (List.mem_cons_of_mem _ (List.mem_cons_self)), True.intro⟩ ⟨#[], ht (c8, Pt8) (List.mem_cons_of_mem _ (List.mem_cons_of_mem _ (List.mem_cons_self))), True.intro⟩ ⟨#[], ht (c20, Pt20) (List.mem_cons_of_mem _ (List.mem_cons_of_mem _ (List.mem_cons_of_mem _ (List.mem_cons_self)))), True.intro⟩ ⟨#[], ht (c21, Pt21) (List.mem_cons_of_mem _ (List.mem_cons_of_mem _ (List.mem_cons_of_mem _ (List.mem_cons_of_mem _ (List.mem_cons_self))))), True.intro⟩ ⟨#[], ht (c22, Pt22) (List.mem_cons_of_mem _ (List.mem_cons_of_mem _ (List.mem_cons_of_mem _ (List.mem_cons_of_mem _ (List.mem_cons_of_mem _ (List.mem_cons_self)))))), True.intro⟩ ⟨#[], ht (c23, Pt23) (List.mem_cons_of_mem _ (List.mem_cons_of_mem _ (List.mem_cons_of_mem _ (List.mem_cons_of_mem _ (List.mem_cons_of_mem _ (List.mem_cons_of_mem _ (List.mem_cons_self))))))), True.intro⟩ ⟨#[], ht (c25, Pt25) (List.mem_cons_of_mem _ (List.mem_cons_of_mem _ (List.mem_cons_of_mem _ (List.mem_cons_of_mem _ (List.mem_cons_of_mem _ (List.mem_cons_of_mem _ (List.mem_cons_of_mem _ (List.mem_cons_self)))))))), True.intro⟩ ⟨#[], ht (c26, Pt26) (List.mem_cons_of_mem _ (List.mem_cons_of_mem _ (List.mem_cons_of_mem _ (List.mem_cons_of_mem _ (List.mem_cons_of_mem _ (List.mem_cons_of_mem _ (List.mem_cons_of_mem _ (List.mem_cons_of_mem _ (List.mem_cons_self))))))))), True.intro⟩ ⟨#[], ht (c43, Pt43) (List.mem_cons_of_mem _ (List.mem_cons_of_mem _ (List.mem_cons_of_mem _ (List.mem_cons_of_mem _ (List.mem_cons_of_mem _ (List.mem_cons_of_mem _ (List.mem_cons_of_mem _ (List.mem_cons_of_mem _ (List.mem_cons_of_mem _ (List.mem_cons_self)))))))))), True.intro⟩ ⟨#[], ht (c45, Pt45) (List.mem_cons_of_mem _ (List.mem_cons_of_mem _ (List.mem_cons_of_mem _ (List.mem_cons_of_mem _ (List.mem_cons_of_mem _ (List.mem_cons_of_mem _ (List.mem_cons_of_mem _ (List.mem_cons_of_mem _ (List.mem_cons_of_mem _ (List.mem_cons_of_mem _ (List.mem_cons_self))))))))))), True.intro⟩ ⟨#[], ht (c44, Pt44) (List.mem_cons_of_mem _ (List.mem_cons_of_mem _ (List.mem_cons_of_mem _ (List.mem_cons_of_mem _ (List.mem_cons_of_mem _ (List.mem_cons_of_mem _ (List.mem_cons_of_mem _ (List.mem_cons_of_mem _ (List.mem_cons_of_mem _ (List.mem_cons_of_mem _ (List.mem_cons_of_mem _ (List.mem_cons_self)))))))))))), True.intro⟩
    exact ⟨a, ns, rfl, hS, g, hl, fun _ => rfl⟩
  have TB6 : GxR.TabB base mg c6 Pt6 := let z := TBs (c6, Pt6) (List.mem_cons_self); ⟨z.code, z.bm, z.gP⟩
  have TB7 : GxR.TabB base mg c7 Pt7 := let z := TBs (c7, Pt7) (List.mem_cons_of_mem _ (List.mem_cons_self)); ⟨z.code, z.bm, z.gP⟩
  have TB8 : GxR.TabB base mg c8 Pt8 := let z := TBs (c8, Pt8) (List.mem_cons_of_mem _ (List.mem_cons_of_mem _ (List.mem_cons_self))); ⟨z.code, z.bm, z.gP⟩
  have TB20 : GxR.TabB base mg c20 Pt20 := let z := TBs (c20, Pt20) (List.mem_cons_of_mem _ (List.mem_cons_of_mem _ (List.mem_cons_of_mem _ (List.mem_cons_self)))); ⟨z.code, z.bm, z.gP⟩
  have TB21 : GxR.TabB base mg c21 Pt21 := let z := TBs (c21, Pt21) (List.mem_cons_of_mem _ (List.mem_cons_of_mem _ (List.mem_cons_of_mem _ (List.mem_cons_of_mem _ (List.mem_cons_self))))); ⟨z.code, z.bm, z.gP⟩
  have TB22 : GxR.TabB base mg c22 Pt22 := let z := TBs (c22, Pt22) (List.mem_cons_of_mem _ (List.mem_cons_of_mem _ (List.mem_cons_of_mem _ (List.mem_cons_of_mem _ (List.mem_cons_of_mem _ (List.mem_cons_self)))))); ⟨z.code, z.bm, z.gP⟩
  have TB23 : GxR.TabB base mg c23 Pt23 := let z := TBs (c23, Pt23) (List.mem_cons_of_mem _ (List.mem_cons_of_mem _ (List.mem_cons_of_mem _ (List.mem_cons_of_mem _ (List.mem_cons_of_mem _ (List.mem_cons_of_mem _ (List.mem_cons_self))))))); ⟨z.code, z.bm, z.gP⟩
  have TB25 : GxR.TabB base mg c25 Pt25 := let z := TBs (c25, Pt25) (List.mem_cons_of_mem _ (List.mem_cons_of_mem _ (List.mem_cons_of_mem _ (List.mem_cons_of_mem _ (List.mem_cons_of_mem _ (List.mem_cons_of_mem _ (List.mem_cons_of_mem _ (List.mem_cons_self)))))))); ⟨z.code, z.bm, z.gP⟩
  have TB26 : GxR.TabB base mg c26 Pt26 := let z := TBs (c26, Pt26) (List.mem_cons_of_mem _ (List.mem_cons_of_mem _ (List.mem_cons_of_mem _ (List.mem_cons_of_mem _ (List.mem_cons_of_mem _ (List.mem_cons_of_mem _ (List.mem_cons_of_mem _ (List.mem_cons_of_mem _ (List.mem_cons_self))))))))); ⟨z.code, z.bm, z.gP⟩
  have TB43 : GxR.TabB base mg c43 Pt43 := let z := TBs (c43, Pt43) (List.mem_cons_of_mem _ (List.mem_cons_of_mem _ (List.mem_cons_of_mem _ (List.mem_cons_of_mem _ (List.mem_cons_of_mem _ (List.mem_cons_of_mem _ (List.mem_cons_of_mem _ (List.mem_cons_of_mem _ (List.mem_cons_of_mem _ (List.mem_cons_self)))))))))); ⟨z.code, z.bm, z.gP⟩
  have TB45 : GxR.TabB base mg c45 Pt45 := let z := TBs (c45, Pt45) (List.mem_cons_of_mem _ (List.mem_cons_of_mem _ (List.mem_cons_of_mem _ (List.mem_cons_of_mem _ (List.mem_cons_of_mem _ (List.mem_cons_of_mem _ (List.mem_cons_of_mem _ (List.mem_cons_of_mem _ (List.mem_cons_of_mem _ (List.mem_cons_of_mem _ (List.mem_cons_self))))))))))); ⟨z.code, z.bm, z.gP⟩
  have TB44 : GxR.TabB base mg c44 Pt44 := let z := TBs (c44, Pt44) (List.mem_cons_of_mem _ (List.mem_cons_of_mem _ (List.mem_cons_of_mem _ (List.mem_cons_of_mem _ (List.mem_cons_of_mem _ (List.mem_cons_of_mem _ (List.mem_cons_of_mem _ (List.mem_cons_of_mem _ (List.mem_cons_of_mem _ (List.mem_cons_of_mem _ (List.mem_cons_of_mem _ (List.mem_cons_self)))))))))))); ⟨z.code, z.bm, z.gP⟩
  have D : DgC mg := ⟨⟨_, PySem.W.mg_of X G v_FACTOR⟩, ⟨_, PySem.W.mg_of X G v_DIVISOR⟩, ⟨_, PySem.W.mg_of X G v_DIGEST_LENGTH⟩⟩
  have c_digest : Cal l.prog w K mg base CX0 (1) "digest" (spDigest) := ⟨⟨f0, _, _, ok_digest F0 B D, PySem.W.mg_of X G a0, k0, b0⟩⟩
  have DN : NmC mg := ⟨⟨_, PySem.W.mg_of X G v_DIGITS⟩, ⟨_, PySem.W.mg_of X G v_MOST_NAME⟩⟩
  have DD : DcC mg := ⟨⟨_, PySem.W.mg_of X G v_MOST_KEYS⟩⟩
  have c_is_integer : Cal l.prog w K mg base CX0 (1) "is_integer" (spIntg) := ⟨⟨f9, _, _, ok_integer F9 B, PySem.W.mg_of X G a9, k9, b9⟩⟩
  have c_consists_of : Cal l.prog w K mg base CX0 (3) "_consists_of" (spCons Pt6) := ⟨⟨f6, _, _, ok_consists B TB6 l6 cc6, PySem.W.mg_of X G a6, k6, b6⟩⟩
  have c_is_key : Cal l.prog w K mg base CX0 (4) "is_key" (spNm kyV Pt6) := ⟨⟨f2, _, _, ok_key F2 B DN c_consists_of, PySem.W.mg_of X G a2, k2, b2⟩⟩
  have c_ascends : Cal l.prog w K mg base CX0 (1) "ascends" (spAsc K) := ⟨⟨f5, _, _, ok_asc F5 B (PySem.W.mg_none_of X G z_sorted) (PySem.W.mg_none_of X G z_set), PySem.W.mg_of X G a5, k5, b5⟩⟩
  have c_is_tuple_of : Cal l.prog w K mg base CX0 (1) "_is_tuple_of" (spTOf) := ⟨⟨f31, _, _, ok_tof F31 B, PySem.W.mg_of X G a31, k31, b31⟩⟩
  have c_is_tuple_within : Cal l.prog w K mg base CX0 (1) "_is_tuple_within" (spTIn) := ⟨⟨f32, _, _, ok_tin F32 B, PySem.W.mg_of X G a32, k32, b32⟩⟩
  have c_is_role : Cal l.prog w K mg base CX0 (8) "is_role" (spDoc isRole ([Pt6, Pt7, Pt8, Pt20, Pt21, Pt22, Pt23, Pt25, Pt26, Pt43, Pt45, Pt44])) := ⟨⟨f20, _, _, ok_role B TB20 DD m_Pt20 m_Pt6 l20 cc20 c_is_tuple_of c_is_tuple_within c_is_key c_ascends c_is_integer, PySem.W.mg_of X G a20, k20, b20⟩⟩
  have DH : DhC mg := ⟨⟨_, PySem.W.mg_of X G v_MOST_NUMBER⟩⟩
  have c_is_headed : Cal l.prog w K mg base CX0 (2) "_is_headed" (spHead) := ⟨⟨f33, _, _, ok_headed F33 B c_is_tuple_of, PySem.W.mg_of X G a33, k33, b33⟩⟩
  have c_is_version : Cal l.prog w K mg base CX0 (2) "_is_version" (spNumP 1) := ⟨⟨f34, _, _, ok_version F34 B DH c_is_integer, PySem.W.mg_of X G a34, k34, b34⟩⟩
  have c_is_amount : Cal l.prog w K mg base CX0 (2) "is_amount" (spNumP 0) := ⟨⟨f27, _, _, ok_amount F27 B DH c_is_integer, PySem.W.mg_of X G a27, k27, b27⟩⟩
  have DP : PaC mg := ⟨⟨_, PySem.W.mg_of X G v_MOST_PATH⟩, ⟨_, PySem.W.mg_of X G v_MOST_PARTS⟩, ⟨_, PySem.W.mg_of X G v_PART_MARKS⟩⟩
  have DGR : DgrC mg := ⟨⟨_, PySem.W.mg_of X G v_MOST_PATTERNS⟩, ⟨_, PySem.W.mg_of X G v_TOP_LIST⟩⟩
  have DLS : DlsC mg := ⟨⟨_, PySem.W.mg_of X G v_MOST_GOODS⟩, ⟨_, PySem.W.mg_of X G v_MOST_LISTS⟩⟩
  have DCH : DchC mg := ⟨⟨_, PySem.W.mg_of X G v_ROLES⟩⟩
  have DSH : DshC mg := ⟨⟨_, PySem.W.mg_of X G v_MOST_LISTS⟩, ⟨_, PySem.W.mg_of X G v_TOP_LIST⟩⟩
  have c_is_list_name : Cal l.prog w K mg base CX0 (4) "is_list_name" (spNm lnV Pt6) := ⟨⟨f1, _, _, ok_list_name F1 B DN ⟨_, PySem.W.mg_of X G v_LETTERS⟩ c_consists_of, PySem.W.mg_of X G a1, k1, b1⟩⟩
  have c_has_parts_of : Cal l.prog w K mg base CX0 (6) "_has_parts_of" (spPartsOf ([Pt6, Pt7, Pt8, Pt20, Pt21, Pt22, Pt23, Pt25, Pt26, Pt43, Pt45, Pt44])) := ⟨⟨f7, _, _, ok_parts_of B TB7 DP m_Pt7 m_Pt6 l7 cc7 c_consists_of, PySem.W.mg_of X G a7, k7, b7⟩⟩
  have c_is_pattern : Cal l.prog w K mg base CX0 (7) "is_pattern" (spPa ptM ([Pt6, Pt7, Pt8, Pt20, Pt21, Pt22, Pt23, Pt25, Pt26, Pt43, Pt45, Pt44])) := ⟨⟨f4, _, _, ok_pattern F4 B DP c_has_parts_of, PySem.W.mg_of X G a4, k4, b4⟩⟩
  have c_is_path : Cal l.prog w K mg base CX0 (7) "is_path" (spPa paM ([Pt6, Pt7, Pt8, Pt20, Pt21, Pt22, Pt23, Pt25, Pt26, Pt43, Pt45, Pt44])) := ⟨⟨f3, _, _, ok_path F3 B DP c_has_parts_of, PySem.W.mg_of X G a3, k3, b3⟩⟩
  have c_is_grant : Cal l.prog w K mg base CX0 (11) "is_grant" (spDoc isGrant ([Pt6, Pt7, Pt8, Pt20, Pt21, Pt22, Pt23, Pt25, Pt26, Pt43, Pt45, Pt44])) := ⟨⟨f22, _, _, ok_grant B TB22 DGR m_Pt22 m_Pt6 l22 cc22 c_is_tuple_of c_is_tuple_within c_is_list_name c_is_role c_is_pattern c_is_integer, PySem.W.mg_of X G a22, k22, b22⟩⟩
  have DG : DdC mg := ⟨⟨_, PySem.W.mg_of X G v_DIGEST_LENGTH⟩, ⟨_, PySem.W.mg_of X G v_DIGEST_MARKS⟩⟩
  have c_is_digest : Cal l.prog w K mg base CX0 (3) "is_digest" (spDoc isDig ([Pt6, Pt7, Pt8, Pt20, Pt21, Pt22, Pt23, Pt25, Pt26, Pt43, Pt45, Pt44])) := ⟨⟨f21, _, _, ok_digestD B TB21 DG m_Pt21 l21 cc21, PySem.W.mg_of X G a21, k21, b21⟩⟩
  have c_is_entry : Cal l.prog w K mg base CX0 (4) "_is_entry" (spDoc isEntry ([Pt6, Pt7, Pt8, Pt20, Pt21, Pt22, Pt23, Pt25, Pt26, Pt43, Pt45, Pt44])) := ⟨⟨f35, _, _, ok_entry F35 B c_is_tuple_of c_is_version c_is_amount c_is_digest, PySem.W.mg_of X G a35, k35, b35⟩⟩
  have c_is_good : Cal l.prog w K mg base CX0 (8) "_is_good" (spDoc isGood ([Pt6, Pt7, Pt8, Pt20, Pt21, Pt22, Pt23, Pt25, Pt26, Pt43, Pt45, Pt44])) := ⟨⟨f37, _, _, ok_good F37 B c_is_tuple_of c_is_path c_is_amount c_is_digest, PySem.W.mg_of X G a37, k37, b37⟩⟩
  have c_is_charter : Cal l.prog w K mg base CX0 (12) "is_charter" (spDoc isCharter ([Pt6, Pt7, Pt8, Pt20, Pt21, Pt22, Pt23, Pt25, Pt26, Pt43, Pt45, Pt44])) := ⟨⟨f23, _, _, ok_charter B TB23 DCH m_Pt23 l23 cc23 c_is_headed c_is_version c_is_amount c_is_tuple_of c_is_role, PySem.W.mg_of X G a23, k23, b23⟩⟩
  have c_is_stamp : Cal l.prog w K mg base CX0 (12) "is_stamp" (spDoc isStamp ([Pt6, Pt7, Pt8, Pt20, Pt21, Pt22, Pt23, Pt25, Pt26, Pt43, Pt45, Pt44])) := ⟨⟨f24, _, _, ok_stamp F24 B c_is_headed c_is_version c_is_amount c_is_entry, PySem.W.mg_of X G a24, k24, b24⟩⟩
  have c_is_named_entry : Cal l.prog w K mg base CX0 (5) "_is_named_entry" (spDoc isNE ([Pt6, Pt7, Pt8, Pt20, Pt21, Pt22, Pt23, Pt25, Pt26, Pt43, Pt45, Pt44])) := ⟨⟨f36, _, _, ok_nentry F36 B m_Pt6 c_is_tuple_of c_is_list_name c_is_entry, PySem.W.mg_of X G a36, k36, b36⟩⟩
  have c_is_shelf : Cal l.prog w K mg base CX0 (12) "is_shelf" (spDoc isShelf ([Pt6, Pt7, Pt8, Pt20, Pt21, Pt22, Pt23, Pt25, Pt26, Pt43, Pt45, Pt44])) := ⟨⟨f25, _, _, ok_shelf B TB25 DSH m_Pt25 l25 cc25 c_is_headed c_is_version c_is_amount c_is_tuple_within c_is_named_entry c_ascends, PySem.W.mg_of X G a25, k25, b25⟩⟩
  have c_is_list : Cal l.prog w K mg base CX0 (15) "is_list" (spDoc isList ([Pt6, Pt7, Pt8, Pt20, Pt21, Pt22, Pt23, Pt25, Pt26, Pt43, Pt45, Pt44])) := ⟨⟨f26, _, _, ok_list B (PySem.W.mg_none_of X G z_sorted) TB26 DLS m_Pt26 m_Pt6 l26 cc26 c_is_headed c_is_list_name c_is_version c_is_amount c_is_tuple_within c_is_good c_is_grant c_ascends, PySem.W.mg_of X G a26, k26, b26⟩⟩
  have c_is_printable : Cal l.prog w K mg base CX0 (3) "is_printable" (spPrn Pt8) := ⟨⟨f8, _, _, ok_printable B (PySem.W.mg_of X G v_BARRED_CODE) TB8 l8 cc8, PySem.W.mg_of X G a8, k8, b8⟩⟩
  have TX : TxtC K mg C_BadText t_MOST_DIGITS t_MOST_DEPTH t_MOST_TEXT := ⟨E_BadText, PySem.W.mg_of X G v_MOST_DIGITS, PySem.W.mg_of X G v_MOST_DEPTH, PySem.W.mg_of X G v_MOST_TEXT⟩
  have c_end_of_digits : Cal l.prog w K mg base CX0 (1) "_end_of_digits" (spEod) := ⟨⟨f18, _, _, ok_eod F18 B, PySem.W.mg_of X G a18, k18, b18⟩⟩
  have c_number_of : Cal l.prog w K mg base (L2N.CX l.prog w) (2) "_number_of" (spNum C_BadText) := ⟨⟨f19, _, _, ok_number F19 B TX, PySem.W.mg_of X G a19, k19, b19⟩⟩
  have c_string_at : Cal l.prog w K mg base (L2N.CX l.prog w) (2) "_string_at" (spStrAt C_BadText) := ⟨⟨f17, _, _, ok_string_at F17 B TX, PySem.W.mg_of X G a17, k17, b17⟩⟩
  have r_tat : ∀ n : Nat, Cal l.prog w K mg base (L2N.CX l.prog w) (2 * n + 4) "_tuple_at" (spTupAt C_BadText n) := by
    intro n
    induction n with
    | zero => exact ⟨⟨f16, _, _, ok_tuple_at0 F16 B TX, PySem.W.mg_of X G a16, k16, b16⟩⟩
    | succ n ih =>
      have c1 : Cal l.prog w K mg base (L2N.CX l.prog w) (2 * n + 5) "_value_at" (spVal C_BadText n) := ⟨⟨f15, _, _, ok_value_at (by omega) F15 B TX c_end_of_digits c_number_of c_string_at ih, PySem.W.mg_of X G a15, k15, b15⟩⟩
      exact ⟨⟨f16, _, _, ok_tuple_at (by omega) F16 B TX c1, PySem.W.mg_of X G a16, k16, b16⟩⟩
  have c_val8 : Cal l.prog w K mg base (L2N.CX l.prog w) (21) "_value_at" (spVal C_BadText 8) := ⟨⟨f15, _, _, ok_value_at (by omega) F15 B TX c_end_of_digits c_number_of c_string_at (r_tat 8), PySem.W.mg_of X G a15, k15, b15⟩⟩
  have c_decode : Cal l.prog w K mg base (L2N.CX l.prog w) (23) "decode" (spDec C_BadText Pt8) := ⟨⟨f11, _, _, ok_decode F11 B TX c_is_printable (c_val8.mono (by decide)), PySem.W.mg_of X G a11, k11, b11⟩⟩
  have c_greatest_integer : Cal l.prog w K mg base CX0 (1) "_greatest_integer" (spGreat) := ⟨⟨f14, _, _, ok_great F14 B TX, PySem.W.mg_of X G a14, k14, b14⟩⟩
  have r_tuple : ∀ n : Nat, Cal l.prog w K mg base (L2.CX l.prog w) (2 * n + 4) "_tuple_text" (spTup C_BadText Pt8 n) := by
    intro n
    induction n with
    | zero => exact ⟨⟨f13, _, _, ok_tuple0 F13 B TX, PySem.W.mg_of X G a13, k13, b13⟩⟩
    | succ n ih =>
      have c1 : Cal l.prog w K mg base (L2.CX l.prog w) (2 * n + 5) "_text_of" (spText C_BadText Pt8 n) := ⟨⟨f12, _, _, ok_text_of (by omega) F12 B TX c_is_printable c_is_integer c_greatest_integer ih, PySem.W.mg_of X G a12, k12, b12⟩⟩
      exact ⟨⟨f13, _, _, ok_tuple (by omega) F13 B TX c1, PySem.W.mg_of X G a13, k13, b13⟩⟩
  have c_text8 : Cal l.prog w K mg base (L2.CX l.prog w) (21) "_text_of" (spText C_BadText Pt8 8) := ⟨⟨f12, _, _, ok_text_of (by omega) F12 B TX c_is_printable c_is_integer c_greatest_integer (r_tuple 8), PySem.W.mg_of X G a12, k12, b12⟩⟩
  have c_encode : Cal l.prog w K mg base (L2.CX l.prog w) (23) "encode" (spEnc C_BadText Pt8) := ⟨⟨f10, _, _, ok_encode F10 B TX (c_text8.mono (by decide)), PySem.W.mg_of X G a10, k10, b10⟩⟩
  have DO : OpC mg := ⟨⟨_, PySem.W.mg_of X G v_MOST_MARK⟩, ⟨_, PySem.W.mg_of X G v_MOST_SEALS⟩⟩
  have c_is_seal : Cal l.prog w K mg base CX0 (5) "_is_seal" (spSeal Pt6) := ⟨⟨f46, _, _, ok_seal F46 B DO c_is_key, PySem.W.mg_of X G a46, k46, b46⟩⟩
  have c_is_content : Cal l.prog w K mg base CX0 (8) "_is_content" (spCont ([Pt6, Pt7, Pt8, Pt20, Pt21, Pt22, Pt23, Pt25, Pt26, Pt43, Pt45, Pt44])) := ⟨⟨f45, _, _, ok_content B TB45 DO m_Pt45 m_Pt6 l45 cc45 c_is_seal c_ascends, PySem.W.mg_of X G a45, k45, b45⟩⟩
  have c_opened : Cal l.prog w K mg base (L2N.CX l.prog w) (24) "opened" (spOpen C_BadText ([Pt6, Pt7, Pt8, Pt20, Pt21, Pt22, Pt23, Pt25, Pt26, Pt43, Pt45, Pt44])) := ⟨⟨f42, _, _, ok_opened F42 B E_BadText m_Pt8 c_decode c_is_content, PySem.W.mg_of X G a42, k42, b42⟩⟩
  have c_openedX := c_opened.toG.ofG
  have Fi_Refused := fun_mk (st := s_Refused___init) li_Refused ci_Refused ki_Refused
  have bi_Refused := Fi_Refused.binds (ps := ["self", "reason"]) fun _ _ _ _ _ _ us hl => match us, hl with | [_, _], _ => rfl
  have EO_Refused : EOwn l.prog w K mg base "Refused" C_Refused := ⟨PySem.W.mg_of X G g_Refused, oo_Refused, nn_Refused, ⟨_, _, ai_Refused, ti_Refused, ok_rin_Refused Fi_Refused, okh_rin_Refused Fi_Refused, bi_Refused⟩, xfB_ok xf_Refused, em_Refused⟩
  have ES : EsC l.prog w K mg base C_BadText C_BadDocument C_Refused := ⟨E_BadText, E_BadDocument, EO_Refused, xkb1, xkb2⟩
  have c_is_document : Cal l.prog w K mg base CX0 (16) "_is_document" (spIsK ([Pt6, Pt7, Pt8, Pt20, Pt21, Pt22, Pt23, Pt25, Pt26, Pt43, Pt45, Pt44])) := ⟨⟨f38, _, _, ok_isK F38 B c_is_charter c_is_stamp c_is_shelf c_is_list, PySem.W.mg_of X G a38, k38, b38⟩⟩
  have c_read : Cal l.prog w K mg base (CXG l.prog w) (24) "read" (spRead C_BadDocument ([Pt6, Pt7, Pt8, Pt20, Pt21, Pt22, Pt23, Pt25, Pt26, Pt43, Pt45, Pt44])) := ⟨⟨f28, _, _, ok_read F28 B ES m_Pt8 c_decode.toG c_is_document, PySem.W.mg_of X G a28, k28, b28⟩⟩
  have BD : BdC K mg C_BadDocument := ⟨E_BadDocument⟩
  have c_require_document : Cal l.prog w K mg base (L2.CX l.prog w) (16) "_require_document" (spReq C_BadDocument ([Pt6, Pt7, Pt8, Pt20, Pt21, Pt22, Pt23, Pt25, Pt26, Pt43, Pt45, Pt44])) := ⟨⟨f39, _, _, ok_reqdoc F39 B BD c_is_charter c_is_stamp c_is_shelf c_is_list, PySem.W.mg_of X G a39, k39, b39⟩⟩
  have c_write : Cal l.prog w K mg base (L2.CX l.prog w) (24) "write" (spWrite C_BadDocument ([Pt6, Pt7, Pt8, Pt20, Pt21, Pt22, Pt23, Pt25, Pt26, Pt43, Pt45, Pt44])) := ⟨⟨f29, _, _, ok_write F29 B m_Pt8 c_require_document c_encode, PySem.W.mg_of X G a29, k29, b29⟩⟩
  have TS : SlC K mg C_Seals C_BadKey C_BadText := ⟨cl_Seals, na_marks_Seals, E_BadKey, E_BadText⟩
  have k_Seals : CalK l.prog w K mg base CX0 (1) C_Seals "Seals" (spInit C_Seals) := ⟨⟨f73, _, _, ok_sinit F73 TS, ⟨mk_Seals, a73, i73, kc_Seals⟩, b73⟩, PySem.W.mg_of X G aC_Seals⟩
  have m_make : CalM l.prog w K mg base (L2.CX l.prog w) (5) C_Seals "make" (spMake C_Seals C_BadKey C_BadText ([Pt6, Pt7, Pt8, Pt20, Pt21, Pt22, Pt23, Pt25, Pt26, Pt43, Pt45, Pt44])) := ⟨⟨f74, _, _, ok_smake F74 B TS m_Pt8 m_Pt6 c_is_key c_is_printable c_digest, ⟨a74, i74, k74⟩, b74⟩, cl_Seals⟩
  have m_holds : CalM l.prog w K mg base CX0 (1) C_Seals "holds" (spHolds C_Seals) := ⟨⟨f75, _, _, ok_sholds F75 B TS, ⟨a75, i75, k75⟩, b75⟩, cl_Seals⟩
  have c_support : Cal l.prog w K mg base (L2.CX l.prog w) (25) "support" (spSupp C_Seals C_BadText ([Pt6, Pt7, Pt8, Pt20, Pt21, Pt22, Pt23, Pt25, Pt26, Pt43, Pt45, Pt44]) K) := ⟨⟨f43, _, _, ok_support B (PySem.W.mg_none_of X G z_sum) TB43 m_Pt43 l43 cc43 c_openedX m_holds, PySem.W.mg_of X G a43, k43, b43⟩⟩
  have c_different_keys : Cal l.prog w K mg base (L2.CX l.prog w) (8) "_different_keys" (spDiff C_BadKey K ([Pt6, Pt7, Pt8, Pt20, Pt21, Pt22, Pt23, Pt25, Pt26, Pt43, Pt45, Pt44])) := ⟨⟨f44, _, _, ok_diff B (PySem.W.mg_none_of X G z_sorted) (PySem.W.mg_none_of X G z_set) TB44 ⟨DO.c_MOST_SEALS⟩ TS m_Pt44 m_Pt6 l44 cc44 c_is_key, PySem.W.mg_of X G a44, k44, b44⟩⟩
  have c_seal : Cal l.prog w K mg base (L2.CX l.prog w) (24) "seal" (spSeal2 C_Seals C_BadKey C_BadText K ([Pt6, Pt7, Pt8, Pt20, Pt21, Pt22, Pt23, Pt25, Pt26, Pt43, Pt45, Pt44])) := ⟨⟨f41, _, _, ok_seal2 F41 B D TS m_Pt8 c_different_keys c_is_printable c_encode m_make, PySem.W.mg_of X G a41, k41, b41⟩⟩
  have RN : RnC K mg R_RN := ⟨PySem.W.mg_of X G g_RN, ⟨o_RN, its_RN, n_RN, lo_RN, cl_RN, di_RN, da_RN, sz_RN, va_RN⟩⟩
  have TT : TrC K C_Trusted := ⟨cl_Trusted, na_office_Trusted, na_documents_Trusted, na_sealed_Trusted, na_roles_Trusted, na_lists_Trusted⟩
  have c_role_of : Cal l.prog w K mg base CX0 (1) "role_of" (spRoleOf) := ⟨⟨f67, _, _, ok_roleof F67 RN, PySem.W.mg_of X G a67, k67, b67⟩⟩
  have c_document_in : Cal l.prog w K mg base (CXG l.prog w) (25) "_document_in" (spDocIn C_Refused ([Pt6, Pt7, Pt8, Pt20, Pt21, Pt22, Pt23, Pt25, Pt26, Pt43, Pt45, Pt44])) := ⟨⟨f68, _, _, ok_docin F68 ES c_opened.toG c_read, PySem.W.mg_of X G a68, k68, b68⟩⟩
  have c_require_signed : Cal l.prog w K mg base (CXG l.prog w) (26) "_require_signed" (spSgn C_Seals C_Refused ([Pt6, Pt7, Pt8, Pt20, Pt21, Pt22, Pt23, Pt25, Pt26, Pt43, Pt45, Pt44])) := ⟨⟨f69, _, _, ok_reqsigned F69 ES c_support, PySem.W.mg_of X G a69, k69, b69⟩⟩
  have m_Trusted_charter : CalM l.prog w K mg base CX0 (1) C_Trusted "charter" (spTDoc C_Trusted kC) := ⟨⟨f57, _, _, ok_tch F57 B TT, ⟨a57, i57, k57⟩, b57⟩, cl_Trusted⟩
  have m_Trusted_stamp : CalM l.prog w K mg base CX0 (1) C_Trusted "stamp" (spTDoc C_Trusted kT) := ⟨⟨f58, _, _, ok_tst F58 B TT, ⟨a58, i58, k58⟩, b58⟩, cl_Trusted⟩
  have m_Trusted_shelf : CalM l.prog w K mg base CX0 (1) C_Trusted "shelf" (spTDoc C_Trusted kF) := ⟨⟨f59, _, _, ok_tsh F59 B TT, ⟨a59, i59, k59⟩, b59⟩, cl_Trusted⟩
  have m_Trusted_sealed : CalM l.prog w K mg base CX0 (1) C_Trusted "sealed" (spTSealed C_Trusted) := ⟨⟨f62, _, _, ok_tse F62 B TT, ⟨a62, i62, k62⟩, b62⟩, cl_Trusted⟩
  have m_Trusted_roles : CalM l.prog w K mg base CX0 (1) C_Trusted "roles" (spTRoles C_Trusted) := ⟨⟨f63, _, _, ok_tro F63 B TT, ⟨a63, i63, k63⟩, b63⟩, cl_Trusted⟩
  have m_Trusted_list_of : CalM l.prog w K mg base CX0 (1) C_Trusted "list_of" (spTList C_Trusted 0) := ⟨⟨f60, _, _, ok_tlo F60 B TT, ⟨a60, i60, k60⟩, b60⟩, cl_Trusted⟩
  have m_Trusted_list_role : CalM l.prog w K mg base CX0 (1) C_Trusted "list_role" (spTList C_Trusted 1) := ⟨⟨f61, _, _, ok_tlr F61 B TT, ⟨a61, i61, k61⟩, b61⟩, cl_Trusted⟩
  have m_Trusted_present_roles : CalM l.prog w K mg base CX0 (2) C_Trusted "_present_roles" (spTPres C_Trusted) := ⟨⟨f64, _, _, ok_tpr F64 B TT m_Trusted_charter c_role_of, ⟨a64, i64, k64⟩, b64⟩, cl_Trusted⟩
  have m_Trusted_outdated : CalM l.prog w K mg base CX0 (3) C_Trusted "outdated" (spTOut C_Trusted) := ⟨⟨f54, _, _, ok_tou F54 B TT m_Trusted_stamp m_Trusted_present_roles, ⟨a54, i54, k54⟩, b54⟩, cl_Trusted⟩
  have m_Trusted_is_current : CalM l.prog w K mg base CX0 (2) C_Trusted "is_current" (spTCur C_Trusted) := ⟨⟨f56, _, _, ok_tcu F56 B TT m_Trusted_stamp m_Trusted_shelf c_digest, ⟨a56, i56, k56⟩, b56⟩, cl_Trusted⟩
  have m_Trusted_forget : CalM l.prog w K mg base CX0 (1) C_Trusted "forget" (spTForg C_Trusted) := ⟨⟨f55, _, _, ok_tfo F55 B TT, ⟨a55, i55, k55⟩, b55⟩, cl_Trusted⟩
  have k_Trusted : CalK l.prog w K mg base (CXG l.prog w) (27) C_Trusted "Trusted" (spTInit C_Trusted C_Seals C_Refused ([Pt6, Pt7, Pt8, Pt20, Pt21, Pt22, Pt23, Pt25, Pt26, Pt43, Pt45, Pt44])) := ⟨⟨f47, _, _, ok_tinit F47 TT c_document_in c_require_signed c_role_of, ⟨mk_Trusted, a47, i47, kc_Trusted⟩, b47⟩, PySem.W.mg_of X G aC_Trusted⟩
  have c_behind_name : Cal l.prog w K mg base CX0 (1) "_behind_name" (spBehind) := ⟨⟨f40, _, _, ok_behind F40 B, PySem.W.mg_of X G a40, k40, b40⟩⟩
  have c_entry_of : Cal l.prog w K mg base CX0 (2) "entry_of" (spOf 3) := ⟨⟨f30, _, _, ok_entry_of F30 B c_behind_name, PySem.W.mg_of X G a30, k30, b30⟩⟩
  have c_require_sum : Cal l.prog w K mg base (CXG l.prog w) (3) "_require_sum" (spSum C_Refused) := ⟨⟨f70, _, _, ok_tsum F70 B ES c_digest, PySem.W.mg_of X G a70, k70, b70⟩⟩
  have c_steps_back : Cal l.prog w K mg base CX0 (1) "_steps_back" (spSteps) := ⟨⟨f71, _, _, ok_tsteps F71 B, PySem.W.mg_of X G a71, k71, b71⟩⟩
  have c_loses : Cal l.prog w K mg base CX0 (3) "_loses" (spLoses) := ⟨⟨f72, _, _, ok_loses F72 B c_entry_of, PySem.W.mg_of X G a72, k72, b72⟩⟩
  have m_Trusted_keep : CalM l.prog w K mg base CX0 (1) C_Trusted "_keep" (spKeep C_Trusted) := ⟨⟨f66, _, _, ok_tkeep F66 B TT, ⟨a66, i66, k66⟩, b66⟩, cl_Trusted⟩
  have m_Trusted_require_usable : CalM l.prog w K mg base (CXG l.prog w) (4) C_Trusted "_require_usable" (spUse C_Trusted C_Refused ([Pt6, Pt7, Pt8, Pt20, Pt21, Pt22, Pt23, Pt25, Pt26, Pt43, Pt45, Pt44])) := ⟨⟨f65, _, _, ok_tuse F65 B ES m_Trusted_outdated, ⟨a65, i65, k65⟩, b65⟩, cl_Trusted⟩
  have m_Trusted_accept_charter : CalM l.prog w K mg base (CXG l.prog w) (27) C_Trusted "accept_charter" (spAcc accCh C_Trusted C_Seals C_Refused ([Pt6, Pt7, Pt8, Pt20, Pt21, Pt22, Pt23, Pt25, Pt26, Pt43, Pt45, Pt44])) := ⟨⟨f48, _, _, ok_tacc F48 B TT ES c_document_in c_require_signed c_role_of m_Trusted_charter m_Trusted_keep, ⟨a48, i48, k48⟩, b48⟩, cl_Trusted⟩
  have m_Trusted_accept_stamp : CalM l.prog w K mg base (CXG l.prog w) (27) C_Trusted "accept_stamp" (spAcc accSt C_Trusted C_Seals C_Refused ([Pt6, Pt7, Pt8, Pt20, Pt21, Pt22, Pt23, Pt25, Pt26, Pt43, Pt45, Pt44])) := ⟨⟨f49, _, _, ok_tast F49 B TT ES c_document_in c_require_signed c_role_of c_steps_back m_Trusted_charter m_Trusted_stamp m_Trusted_present_roles m_Trusted_require_usable m_Trusted_keep, ⟨a49, i49, k49⟩, b49⟩, cl_Trusted⟩
  have m_Trusted_accept_shelf : CalM l.prog w K mg base (CXG l.prog w) (27) C_Trusted "accept_shelf" (spAcc accSh C_Trusted C_Seals C_Refused ([Pt6, Pt7, Pt8, Pt20, Pt21, Pt22, Pt23, Pt25, Pt26, Pt43, Pt45, Pt44])) := ⟨⟨f50, _, _, ok_tash F50 B TT ES c_document_in c_require_signed c_role_of c_require_sum c_entry_of c_loses m_Trusted_charter m_Trusted_stamp m_Trusted_shelf m_Trusted_require_usable m_Trusted_keep, ⟨a50, i50, k50⟩, b50⟩, cl_Trusted⟩
  have m_Trusted_accept_list : CalM l.prog w K mg base (CXG l.prog w) (27) C_Trusted "accept_list" (spAccL C_Trusted C_Seals C_Refused ([Pt6, Pt7, Pt8, Pt20, Pt21, Pt22, Pt23, Pt25, Pt26, Pt43, Pt45, Pt44])) := ⟨⟨f51, _, _, ok_tacl F51 B TT ES c_document_in c_require_signed c_require_sum c_entry_of m_Trusted_shelf m_Trusted_is_current m_Trusted_require_usable, ⟨a51, i51, k51⟩, b51⟩, cl_Trusted⟩
  have m_Trusted_restore_stamp : CalM l.prog w K mg base (CXG l.prog w) (26) C_Trusted "restore_stamp" (spRst C_Trusted C_Refused ([Pt6, Pt7, Pt8, Pt20, Pt21, Pt22, Pt23, Pt25, Pt26, Pt43, Pt45, Pt44])) := ⟨⟨f52, _, _, ok_trst F52 B TT c_document_in m_Trusted_keep, ⟨a52, i52, k52⟩, b52⟩, cl_Trusted⟩
  have m_Trusted_restore_shelf : CalM l.prog w K mg base (CXG l.prog w) (26) C_Trusted "restore_shelf" (spRsh C_Trusted C_Refused ([Pt6, Pt7, Pt8, Pt20, Pt21, Pt22, Pt23, Pt25, Pt26, Pt43, Pt45, Pt44])) := ⟨⟨f53, _, _, ok_trsh F53 B TT ES c_document_in m_Trusted_stamp m_Trusted_keep, ⟨a53, i53, k53⟩, b53⟩, cl_Trusted⟩
  have c_law_cell : Cal l.prog w K mg base CX0 (1) "_law_cell" (spCellA K) := ⟨⟨f76, _, _, ok_cellA F76 B (PySem.W.mg_none_of X G z_abs), PySem.W.mg_of X G a76, k76, b76⟩⟩
  have c_law_draws : Cal l.prog w K mg base CX0 (1) "_law_draws" (spDraws K) := ⟨⟨f77, _, _, ok_draws F77 B (PySem.W.mg_none_of X G z_abs), PySem.W.mg_of X G a77, k77, b77⟩⟩
  have c_law_refused : Cal l.prog w K mg base CX0 (28) "_law_refused" (spRefd34 C_Trusted ([Pt6, Pt7, Pt8, Pt20, Pt21, Pt22, Pt23, Pt25, Pt26, Pt43, Pt45, Pt44])) := ⟨⟨f78, _, _, ok_lrefd34 F78 B ES m_Trusted_restore_stamp m_Trusted_restore_shelf, PySem.W.mg_of X G a78, k78, b78⟩⟩
  have c_law_offer : Cal l.prog w K mg base CX0 (29) "_law_offer" (spOff34 C_Trusted C_Seals ([Pt6, Pt7, Pt8, Pt20, Pt21, Pt22, Pt23, Pt25, Pt26, Pt43, Pt45, Pt44])) := ⟨⟨f79, _, _, ok_loff34 F79 B ES m_Trusted_accept_charter m_Trusted_accept_stamp m_Trusted_accept_shelf m_Trusted_accept_list, PySem.W.mg_of X G a79, k79, b79⟩⟩
  have c_law_told : Cal l.prog w K mg base CX0 (4) "_law_told" (spTold34 C_Trusted) := ⟨⟨f80, _, _, ok_ltold34 F80 B m_Trusted_charter m_Trusted_stamp m_Trusted_shelf m_Trusted_sealed m_Trusted_roles m_Trusted_list_of m_Trusted_list_role m_Trusted_outdated m_Trusted_is_current, PySem.W.mg_of X G a80, k80, b80⟩⟩
  have c_law_shelf : Cal l.prog w K mg base CX0 (26) "_law_shelf" (spShelf34 C_Seals ([Pt6, Pt7, Pt8, Pt20, Pt21, Pt22, Pt23, Pt25, Pt26, Pt43, Pt45, Pt44])) := ⟨⟨f81, _, _, ok_lshelf34 F81 B c_seal c_write c_digest, PySem.W.mg_of X G a81, k81, b81⟩⟩
  have c_law_stamp : Cal l.prog w K mg base CX0 (26) "_law_stamp" (spStamp34 C_Seals ([Pt6, Pt7, Pt8, Pt20, Pt21, Pt22, Pt23, Pt25, Pt26, Pt43, Pt45, Pt44])) := ⟨⟨f82, _, _, ok_lstamp34 F82 B c_seal c_write c_digest, PySem.W.mg_of X G a82, k82, b82⟩⟩
  exact ok_law34 F83 B c_law_cell c_law_draws c_law_refused c_law_offer c_law_told c_law_shelf c_law_stamp c_seal c_write k_Seals k_Trusted m_Trusted_accept_stamp m_Trusted_accept_shelf m_Trusted_restore_stamp m_Trusted_restore_shelf m_Trusted_outdated m_Trusted_stamp m_Trusted_shelf m_Trusted_roles m_Trusted_forget
end SC
open PySem PySem.W PyProof.Rows
set_option maxRecDepth 100000 in
set_option maxHeartbeats 0 in
theorem PySem.Challenge.cw_sealchart_k34_restored_sets_go_on_holds : PySem.Challenge.rw_sealchart_k34_restored_sets_go_on.Holds := by
  w_on; o_law; k_head; (case hw => w_witness2)
  k_fill
  refine SC.walk_tab (l := PySem.Challenge.rw_sealchart_k34_restored_sets_go_on) (CX := fun _ => L2.CX0) (k := 30) (n := 63) (x := "script") rfl (by decide) rfl ⟨rfl, by decide, by decide⟩ (fun w h Y => PySem.W.kIn_of Y) (fun _ _ _ _ _ z => z) ?F
  case F =>
    intro w mg mb lo mean fa h T KX G hmg
    refine' SC.all_mk T KX G hmg ?aC_Seals ?pg_Seals ?hd_Seals ?po_Seals ?sa_Seals ?mk_Seals ?kc_Seals ?na_marks_Seals ?aC_Trusted ?pg_Trusted ?hd_Trusted ?po_Trusted ?sa_Trusted ?mk_Trusted ?kc_Trusted ?na_office_Trusted ?na_documents_Trusted ?na_sealed_Trusted ?na_roles_Trusted ?na_lists_Trusted ?a0 ?l0 ?cc0 ?k0 ?a1 ?l1 ?cc1 ?k1 ?a2 ?l2 ?cc2 ?k2 ?a3 ?l3 ?cc3 ?k3 ?a4 ?l4 ?cc4 ?k4 ?a5 ?l5 ?cc5 ?k5 ?a6 ?l6 ?cc6 ?k6 ?a7 ?l7 ?cc7 ?k7 ?a8 ?l8 ?cc8 ?k8 ?a9 ?l9 ?cc9 ?k9 ?a10 ?l10 ?cc10 ?k10 ?a11 ?l11 ?cc11 ?k11 ?a12 ?l12 ?cc12 ?k12 ?a13 ?l13 ?cc13 ?k13 ?a14 ?l14 ?cc14 ?k14 ?a15 ?l15 ?cc15 ?k15 ?a16 ?l16 ?cc16 ?k16 ?a17 ?l17 ?cc17 ?k17 ?a18 ?l18 ?cc18 ?k18 ?a19 ?l19 ?cc19 ?k19 ?a20 ?l20 ?cc20 ?k20 ?a21 ?l21 ?cc21 ?k21 ?a22 ?l22 ?cc22 ?k22 ?a23 ?l23 ?cc23 ?k23 ?a24 ?l24 ?cc24 ?k24 ?a25 ?l25 ?cc25 ?k25 ?a26 ?l26 ?cc26 ?k26 ?a27 ?l27 ?cc27 ?k27 ?a28 ?l28 ?cc28 ?k28 ?a29 ?l29 ?cc29 ?k29 ?a30 ?l30 ?cc30 ?k30 ?a31 ?l31 ?cc31 ?k31 ?a32 ?l32 ?cc32 ?k32 ?a33 ?l33 ?cc33 ?k33 ?a34 ?l34 ?cc34 ?k34 ?a35 ?l35 ?cc35 ?k35 ?a36 ?l36 ?cc36 ?k36 ?a37 ?l37 ?cc37 ?k37 ?a38 ?l38 ?cc38 ?k38 ?a39 ?l39 ?cc39 ?k39 ?a40 ?l40 ?cc40 ?k40 ?a41 ?l41 ?cc41 ?k41 ?a42 ?l42 ?cc42 ?k42 ?a43 ?l43 ?cc43 ?k43 ?a44 ?l44 ?cc44 ?k44 ?a45 ?l45 ?cc45 ?k45 ?a46 ?l46 ?cc46 ?k46 ?a47 ?i47 ?l47 ?cc47 ?k47 ?a48 ?i48 ?l48 ?cc48 ?k48 ?a49 ?i49 ?l49 ?cc49 ?k49 ?a50 ?i50 ?l50 ?cc50 ?k50 ?a51 ?i51 ?l51 ?cc51 ?k51 ?a52 ?i52 ?l52 ?cc52 ?k52 ?a53 ?i53 ?l53 ?cc53 ?k53 ?a54 ?i54 ?l54 ?cc54 ?k54 ?a55 ?i55 ?l55 ?cc55 ?k55 ?a56 ?i56 ?l56 ?cc56 ?k56 ?a57 ?i57 ?l57 ?cc57 ?k57 ?a58 ?i58 ?l58 ?cc58 ?k58 ?a59 ?i59 ?l59 ?cc59 ?k59 ?a60 ?i60 ?l60 ?cc60 ?k60 ?a61 ?i61 ?l61 ?cc61 ?k61 ?a62 ?i62 ?l62 ?cc62 ?k62 ?a63 ?i63 ?l63 ?cc63 ?k63 ?a64 ?i64 ?l64 ?cc64 ?k64 ?a65 ?i65 ?l65 ?cc65 ?k65 ?a66 ?i66 ?l66 ?cc66 ?k66 ?a67 ?l67 ?cc67 ?k67 ?a68 ?l68 ?cc68 ?k68 ?a69 ?l69 ?cc69 ?k69 ?a70 ?l70 ?cc70 ?k70 ?a71 ?l71 ?cc71 ?k71 ?a72 ?l72 ?cc72 ?k72 ?a73 ?i73 ?l73 ?cc73 ?k73 ?a74 ?i74 ?l74 ?cc74 ?k74 ?a75 ?i75 ?l75 ?cc75 ?k75 ?a76 ?l76 ?cc76 ?k76 ?a77 ?l77 ?cc77 ?k77 ?a78 ?l78 ?cc78 ?k78 ?a79 ?l79 ?cc79 ?k79 ?a80 ?l80 ?cc80 ?k80 ?a81 ?l81 ?cc81 ?k81 ?a82 ?l82 ?cc82 ?k82 ?a83 ?l83 ?cc83 ?k83 ?z_len ?z_int ?z_str ?z_bool ?z_list ?z_tuple ?z_range ?z_isinstance ?z_ord ?z_all ?v_FACTOR ?v_DIVISOR ?v_LETTERS ?v_DIGITS ?v_PART_MARKS ?v_MOST_NAME ?v_MOST_PARTS ?v_MOST_PATH ?v_MOST_KEYS ?v_MOST_NUMBER ?v_DIGEST_LENGTH ?v_DIGEST_MARKS ?v_MOST_PATTERNS ?v_MOST_GOODS ?v_MOST_LISTS ?v_TOP_LIST ?v_ROLES ?v_BARRED_CODE ?v_MOST_DIGITS ?v_MOST_DEPTH ?v_MOST_TEXT ?v_MOST_SEALS ?v_MOST_MARK ?g_BadText ?e_BadText ?ke_BadText ?be_BadText ?te_BadText ?ie_BadText ?se_BadText ?g_BadDocument ?e_BadDocument ?ke_BadDocument ?be_BadDocument ?te_BadDocument ?ie_BadDocument ?se_BadDocument ?g_BadKey ?e_BadKey ?ke_BadKey ?be_BadKey ?te_BadKey ?ie_BadKey ?se_BadKey ?g_Refused ?ai_Refused ?li_Refused ?ci_Refused ?ki_Refused ?ti_Refused ?oo_Refused ?nn_Refused ?xf_Refused ?em_Refused ?xkb1 ?xkb2 ?z_sorted ?z_set ?z_sum ?z_abs ?g_RN ?lo_RN ?cl_RN ?di_RN ?da_RN ?sz_RN ?va_RN ?t1_6 ?u1_6 ?n1_6 ?r1_6 ?t1_7 ?u1_7 ?n1_7 ?r1_7 ?t1_8 ?u1_8 ?n1_8 ?r1_8 ?t1_20 ?u1_20 ?n1_20 ?r1_20 ?t1_21 ?u1_21 ?n1_21 ?r1_21 ?t1_22 ?u1_22 ?n1_22 ?r1_22 ?t1_23 ?u1_23 ?n1_23 ?r1_23 ?t1_25 ?u1_25 ?n1_25 ?r1_25 ?t1_26 ?u1_26 ?n1_26 ?r1_26 ?t1_43 ?u1_43 ?n1_43 ?r1_43 ?t1_45 ?u1_45 ?n1_45 ?r1_45 ?t1_44 ?u1_44 ?n1_44 ?r1_44
    (case aC_Seals => k_is)
    (case pg_Seals => k_is)
    (case hd_Seals => k_is)
    (case po_Seals => k_is)
    (case sa_Seals => k_is)
    (case mk_Seals => k_is)
    (case kc_Seals => k_is)
    (case na_marks_Seals => k_is)
    (case aC_Trusted => k_is)
    (case pg_Trusted => k_is)
    (case hd_Trusted => k_is)
    (case po_Trusted => k_is)
    (case sa_Trusted => k_is)
    (case mk_Trusted => k_is)
    (case kc_Trusted => k_is)
    (case na_office_Trusted => k_is)
    (case na_documents_Trusted => k_is)
    (case na_sealed_Trusted => k_is)
    (case na_roles_Trusted => k_is)
    (case na_lists_Trusted => k_is)
    (case a0 => k_is)
    (case l0 => k_is)
    (case cc0 => k_is)
    (case k0 => k_is)
    (case a1 => k_is)
    (case l1 => k_is)
    (case cc1 => k_is)
    (case k1 => k_is)
    (case a2 => k_is)
    (case l2 => k_is)
    (case cc2 => k_is)
    (case k2 => k_is)
    (case a3 => k_is)
    (case l3 => k_is)
    (case cc3 => k_is)
    (case k3 => k_is)
    (case a4 => k_is)
    (case l4 => k_is)
    (case cc4 => k_is)
    (case k4 => k_is)
    (case a5 => k_is)
    (case l5 => k_is)
    (case cc5 => k_is)
    (case k5 => k_is)
    (case a6 => k_is)
    (case l6 => k_is)
    (case cc6 => k_is)
    (case k6 => k_is)
    (case a7 => k_is)
    (case l7 => k_is)
    (case cc7 => k_is)
    (case k7 => k_is)
    (case a8 => k_is)
    (case l8 => k_is)
    (case cc8 => k_is)
    (case k8 => k_is)
    (case a9 => k_is)
    (case l9 => k_is)
    (case cc9 => k_is)
    (case k9 => k_is)
    (case a10 => k_is)
    (case l10 => k_is)
    (case cc10 => k_is)
    (case k10 => k_is)
    (case a11 => k_is)
    (case l11 => k_is)
    (case cc11 => k_is)
    (case k11 => k_is)
    (case a12 => k_is)
    (case l12 => k_is)
    (case cc12 => k_is)
    (case k12 => k_is)
    (case a13 => k_is)
    (case l13 => k_is)
    (case cc13 => k_is)
    (case k13 => k_is)
    (case a14 => k_is)
    (case l14 => k_is)
    (case cc14 => k_is)
    (case k14 => k_is)
    (case a15 => k_is)
    (case l15 => k_is)
    (case cc15 => k_is)
    (case k15 => k_is)
    (case a16 => k_is)
    (case l16 => k_is)
    (case cc16 => k_is)
    (case k16 => k_is)
    (case a17 => k_is)
    (case l17 => k_is)
    (case cc17 => k_is)
    (case k17 => k_is)
    (case a18 => k_is)
    (case l18 => k_is)
    (case cc18 => k_is)
    (case k18 => k_is)
    (case a19 => k_is)
    (case l19 => k_is)
    (case cc19 => k_is)
    (case k19 => k_is)
    (case a20 => k_is)
    (case l20 => k_is)
    (case cc20 => k_is)
    (case k20 => k_is)
    (case a21 => k_is)
    (case l21 => k_is)
    (case cc21 => k_is)
    (case k21 => k_is)
    (case a22 => k_is)
    (case l22 => k_is)
    (case cc22 => k_is)
    (case k22 => k_is)
    (case a23 => k_is)
    (case l23 => k_is)
    (case cc23 => k_is)
    (case k23 => k_is)
    (case a24 => k_is)
    (case l24 => k_is)
    (case cc24 => k_is)
    (case k24 => k_is)
    (case a25 => k_is)
    (case l25 => k_is)
    (case cc25 => k_is)
    (case k25 => k_is)
    (case a26 => k_is)
    (case l26 => k_is)
    (case cc26 => k_is)
    (case k26 => k_is)
    (case a27 => k_is)
    (case l27 => k_is)
    (case cc27 => k_is)
    (case k27 => k_is)
    (case a28 => k_is)
    (case l28 => k_is)
    (case cc28 => k_is)
    (case k28 => k_is)
    (case a29 => k_is)
    (case l29 => k_is)
    (case cc29 => k_is)
    (case k29 => k_is)
    (case a30 => k_is)
    (case l30 => k_is)
    (case cc30 => k_is)
    (case k30 => k_is)
    (case a31 => k_is)
    (case l31 => k_is)
    (case cc31 => k_is)
    (case k31 => k_is)
    (case a32 => k_is)
    (case l32 => k_is)
    (case cc32 => k_is)
    (case k32 => k_is)
    (case a33 => k_is)
    (case l33 => k_is)
    (case cc33 => k_is)
    (case k33 => k_is)
    (case a34 => k_is)
    (case l34 => k_is)
    (case cc34 => k_is)
    (case k34 => k_is)
    (case a35 => k_is)
    (case l35 => k_is)
    (case cc35 => k_is)
    (case k35 => k_is)
    (case a36 => k_is)
    (case l36 => k_is)
    (case cc36 => k_is)
    (case k36 => k_is)
    (case a37 => k_is)
    (case l37 => k_is)
    (case cc37 => k_is)
    (case k37 => k_is)
    (case a38 => k_is)
    (case l38 => k_is)
    (case cc38 => k_is)
    (case k38 => k_is)
    (case a39 => k_is)
    (case l39 => k_is)
    (case cc39 => k_is)
    (case k39 => k_is)
    (case a40 => k_is)
    (case l40 => k_is)
    (case cc40 => k_is)
    (case k40 => k_is)
    (case a41 => k_is)
    (case l41 => k_is)
    (case cc41 => k_is)
    (case k41 => k_is)
    (case a42 => k_is)
    (case l42 => k_is)
    (case cc42 => k_is)
    (case k42 => k_is)
    (case a43 => k_is)
    (case l43 => k_is)
    (case cc43 => k_is)
    (case k43 => k_is)
    (case a44 => k_is)
    (case l44 => k_is)
    (case cc44 => k_is)
    (case k44 => k_is)
    (case a45 => k_is)
    (case l45 => k_is)
    (case cc45 => k_is)
    (case k45 => k_is)
    (case a46 => k_is)
    (case l46 => k_is)
    (case cc46 => k_is)
    (case k46 => k_is)
    (case a47 => k_is)
    (case i47 => k_is)
    (case l47 => k_is)
    (case cc47 => k_is)
    (case k47 => k_is)
    (case a48 => k_is)
    (case i48 => k_is)
    (case l48 => k_is)
    (case cc48 => k_is)
    (case k48 => k_is)
    (case a49 => k_is)
    (case i49 => k_is)
    (case l49 => k_is)
    (case cc49 => k_is)
    (case k49 => k_is)
    (case a50 => k_is)
    (case i50 => k_is)
    (case l50 => k_is)
    (case cc50 => k_is)
    (case k50 => k_is)
    (case a51 => k_is)
    (case i51 => k_is)
    (case l51 => k_is)
    (case cc51 => k_is)
    (case k51 => k_is)
    (case a52 => k_is)
    (case i52 => k_is)
    (case l52 => k_is)
    (case cc52 => k_is)
    (case k52 => k_is)
    (case a53 => k_is)
    (case i53 => k_is)
    (case l53 => k_is)
    (case cc53 => k_is)
    (case k53 => k_is)
    (case a54 => k_is)
    (case i54 => k_is)
    (case l54 => k_is)
    (case cc54 => k_is)
    (case k54 => k_is)
    (case a55 => k_is)
    (case i55 => k_is)
    (case l55 => k_is)
    (case cc55 => k_is)
    (case k55 => k_is)
    (case a56 => k_is)
    (case i56 => k_is)
    (case l56 => k_is)
    (case cc56 => k_is)
    (case k56 => k_is)
    (case a57 => k_is)
    (case i57 => k_is)
    (case l57 => k_is)
    (case cc57 => k_is)
    (case k57 => k_is)
    (case a58 => k_is)
    (case i58 => k_is)
    (case l58 => k_is)
    (case cc58 => k_is)
    (case k58 => k_is)
    (case a59 => k_is)
    (case i59 => k_is)
    (case l59 => k_is)
    (case cc59 => k_is)
    (case k59 => k_is)
    (case a60 => k_is)
    (case i60 => k_is)
    (case l60 => k_is)
    (case cc60 => k_is)
    (case k60 => k_is)
    (case a61 => k_is)
    (case i61 => k_is)
    (case l61 => k_is)
    (case cc61 => k_is)
    (case k61 => k_is)
    (case a62 => k_is)
    (case i62 => k_is)
    (case l62 => k_is)
    (case cc62 => k_is)
    (case k62 => k_is)
    (case a63 => k_is)
    (case i63 => k_is)
    (case l63 => k_is)
    (case cc63 => k_is)
    (case k63 => k_is)
    (case a64 => k_is)
    (case i64 => k_is)
    (case l64 => k_is)
    (case cc64 => k_is)
    (case k64 => k_is)
    (case a65 => k_is)
    (case i65 => k_is)
    (case l65 => k_is)
    (case cc65 => k_is)
    (case k65 => k_is)
    (case a66 => k_is)
    (case i66 => k_is)
    (case l66 => k_is)
    (case cc66 => k_is)
    (case k66 => k_is)
    (case a67 => k_is)
    (case l67 => k_is)
    (case cc67 => k_is)
    (case k67 => k_is)
    (case a68 => k_is)
    (case l68 => k_is)
    (case cc68 => k_is)
    (case k68 => k_is)
    (case a69 => k_is)
    (case l69 => k_is)
    (case cc69 => k_is)
    (case k69 => k_is)
    (case a70 => k_is)
    (case l70 => k_is)
    (case cc70 => k_is)
    (case k70 => k_is)
    (case a71 => k_is)
    (case l71 => k_is)
    (case cc71 => k_is)
    (case k71 => k_is)
    (case a72 => k_is)
    (case l72 => k_is)
    (case cc72 => k_is)
    (case k72 => k_is)
    (case a73 => k_is)
    (case i73 => k_is)
    (case l73 => k_is)
    (case cc73 => k_is)
    (case k73 => k_is)
    (case a74 => k_is)
    (case i74 => k_is)
    (case l74 => k_is)
    (case cc74 => k_is)
    (case k74 => k_is)
    (case a75 => k_is)
    (case i75 => k_is)
    (case l75 => k_is)
    (case cc75 => k_is)
    (case k75 => k_is)
    (case a76 => k_is)
    (case l76 => k_is)
    (case cc76 => k_is)
    (case k76 => k_is)
    (case a77 => k_is)
    (case l77 => k_is)
    (case cc77 => k_is)
    (case k77 => k_is)
    (case a78 => k_is)
    (case l78 => k_is)
    (case cc78 => k_is)
    (case k78 => k_is)
    (case a79 => k_is)
    (case l79 => k_is)
    (case cc79 => k_is)
    (case k79 => k_is)
    (case a80 => k_is)
    (case l80 => k_is)
    (case cc80 => k_is)
    (case k80 => k_is)
    (case a81 => k_is)
    (case l81 => k_is)
    (case cc81 => k_is)
    (case k81 => k_is)
    (case a82 => k_is)
    (case l82 => k_is)
    (case cc82 => k_is)
    (case k82 => k_is)
    (case a83 => k_is)
    (case l83 => k_is)
    (case cc83 => k_is)
    (case k83 => k_is)
    (case z_len => k_is)
    (case z_int => k_is)
    (case z_str => k_is)
    (case z_bool => k_is)
    (case z_list => k_is)
    (case z_tuple => k_is)
    (case z_range => k_is)
    (case z_isinstance => k_is)
    (case z_ord => k_is)
    (case z_all => k_is)
    (case v_FACTOR => k_is)
    (case v_DIVISOR => k_is)
    (case v_LETTERS => k_is)
    (case v_DIGITS => k_is)
    (case v_PART_MARKS => k_is)
    (case v_MOST_NAME => k_is)
    (case v_MOST_PARTS => k_is)
    (case v_MOST_PATH => k_is)
    (case v_MOST_KEYS => k_is)
    (case v_MOST_NUMBER => k_is)
    (case v_DIGEST_LENGTH => k_is)
    (case v_DIGEST_MARKS => k_is)
    (case v_MOST_PATTERNS => k_is)
    (case v_MOST_GOODS => k_is)
    (case v_MOST_LISTS => k_is)
    (case v_TOP_LIST => k_is)
    (case v_ROLES => k_is)
    (case v_BARRED_CODE => k_is)
    (case v_MOST_DIGITS => k_is)
    (case v_MOST_DEPTH => k_is)
    (case v_MOST_TEXT => k_is)
    (case v_MOST_SEALS => k_is)
    (case v_MOST_MARK => k_is)
    (case g_BadText => k_is)
    (case e_BadText => first | k_is | kernel_rfl | rfl)
    (case ke_BadText => k_is)
    (case be_BadText => first | k_is | kernel_rfl | rfl)
    (case te_BadText => first | k_is | kernel_rfl | rfl)
    (case ie_BadText => first | k_is | kernel_rfl | rfl)
    (case se_BadText => first | k_is | kernel_rfl | rfl)
    (case g_BadDocument => k_is)
    (case e_BadDocument => first | k_is | kernel_rfl | rfl)
    (case ke_BadDocument => k_is)
    (case be_BadDocument => first | k_is | kernel_rfl | rfl)
    (case te_BadDocument => first | k_is | kernel_rfl | rfl)
    (case ie_BadDocument => first | k_is | kernel_rfl | rfl)
    (case se_BadDocument => first | k_is | kernel_rfl | rfl)
    (case g_BadKey => k_is)
    (case e_BadKey => first | k_is | kernel_rfl | rfl)
    (case ke_BadKey => k_is)
    (case be_BadKey => first | k_is | kernel_rfl | rfl)
    (case te_BadKey => first | k_is | kernel_rfl | rfl)
    (case ie_BadKey => first | k_is | kernel_rfl | rfl)
    (case se_BadKey => first | k_is | kernel_rfl | rfl)
    (case g_Refused => k_is)
    (case ai_Refused => k_is)
    (case li_Refused => k_is)
    (case ci_Refused => k_is)
    (case ki_Refused => k_is)
    (case ti_Refused => first | k_is | kernel_rfl | rfl)
    (case oo_Refused => refine' ⟨⟨_, _, _, _, _, _, _, _, _, _, _, _, _, _, _, ?x1, ?x2⟩, ?x3, ?x4, ?x5, ?x6⟩; (case x1 => first | k_is | rfl); (case x2 => first | kernel_rfl | rfl); (case x3 => first | k_is | kernel_rfl | rfl); (case x4 => first | k_is | kernel_rfl | rfl); (case x5 => first | k_is | kernel_rfl | rfl); (case x6 => first | k_is | kernel_rfl | rfl))
    (case nn_Refused => first | k_is | kernel_rfl | rfl)
    (case xf_Refused => first | k_is | kernel_rfl | rfl)
    (case em_Refused => first | k_is | kernel_rfl | rfl)
    (case xkb1 => first | k_is | kernel_rfl | rfl)
    (case xkb2 => first | k_is | kernel_rfl | rfl)
    (case z_sorted => k_is)
    (case z_set => k_is)
    (case z_sum => k_is)
    (case z_abs => k_is)
    (case g_RN => k_is)
    (case lo_RN => k_is)
    (case cl_RN => rfl)
    (case di_RN => rfl)
    (case da_RN => rfl)
    (case sz_RN => rw [sizeLine_eq]; decide)
    (case va_RN => exact .cons ⟨_, rfl⟩ (.cons ⟨_, rfl⟩ (.cons ⟨_, rfl⟩ (.cons ⟨_, rfl⟩ .nil))))
    (case t1_6 => k_is)
    (case u1_6 => rfl)
    (case n1_6 => first | kernel_rfl | rfl)
    (case r1_6 => rfl)
    (case t1_7 => k_is)
    (case u1_7 => rfl)
    (case n1_7 => first | kernel_rfl | rfl)
    (case r1_7 => rfl)
    (case t1_8 => k_is)
    (case u1_8 => rfl)
    (case n1_8 => first | kernel_rfl | rfl)
    (case r1_8 => rfl)
    (case t1_20 => k_is)
    (case u1_20 => rfl)
    (case n1_20 => first | kernel_rfl | rfl)
    (case r1_20 => rfl)
    (case t1_21 => k_is)
    (case u1_21 => rfl)
    (case n1_21 => first | kernel_rfl | rfl)
    (case r1_21 => rfl)
    (case t1_22 => k_is)
    (case u1_22 => rfl)
    (case n1_22 => first | kernel_rfl | rfl)
    (case r1_22 => rfl)
    (case t1_23 => k_is)
    (case u1_23 => rfl)
    (case n1_23 => first | kernel_rfl | rfl)
    (case r1_23 => rfl)
    (case t1_25 => k_is)
    (case u1_25 => rfl)
    (case n1_25 => first | kernel_rfl | rfl)
    (case r1_25 => rfl)
    (case t1_26 => k_is)
    (case u1_26 => rfl)
    (case n1_26 => first | kernel_rfl | rfl)
    (case r1_26 => rfl)
    (case t1_43 => k_is)
    (case u1_43 => rfl)
    (case n1_43 => first | kernel_rfl | rfl)
    (case r1_43 => rfl)
    (case t1_45 => k_is)
    (case u1_45 => rfl)
    (case n1_45 => first | kernel_rfl | rfl)
    (case r1_45 => rfl)
    (case t1_44 => k_is)
    (case u1_44 => rfl)
    (case n1_44 => first | kernel_rfl | rfl)
    (case r1_44 => rfl)
--END
