import PyProof.Rows.All
import Wide.All
import OpenK.AllK
import Wide.FinOn
import HandS.ForMost
import HandS.ForExc
import HandS.Wide
import HandS.IsInst
import HandS.AnyAll
import HandS.EndTab
import HandS.TupAny
import HandS.TupMul
import HandS.FStr
import HandS.StrMore
import HandS.WideBits
import KE.KxField
import HandS.Walk
import HandS.Replace
import HandS.Style
import HandS.Codes
import KE.KRevSl
import KE.KUnpackStar
import HandS.Zip
import HandS.GenList
import HandS.TupLen
import HandS.Deep
import HandS.ExcIs
import HandS.ExcOwn
import HandS.Set
import HandS.SetFor
import HandS.SetTxt0
import HandS.Strs
import PyProof.Rows.SortShellAny
import PyProof.SumWalk
import HandS.SuiteRaise
import HandS.HotCalls
import HandS.ExcInitHot
import HandS.ExcField
import KE.KExcIs
import HandS.More
import KE.KTryMore
import HandS.Head0
import HandS.Head1
import HandS.Head2
import HandS.HeadHook1
import HandS.HeadHook2
import HandS.Iter
import HandS.DictComp
import KE.DataCmp
import HandS.WordsDict
import PySem.Challenge.RW_sealchart_k33_search_by_the_rules
set_option Elab.async false
set_option linter.all false
set_option maxRecDepth 100000
set_option maxHeartbeats 2000000
namespace SC
open PySem L2
/-- the built-in names are the built-ins -/
structure Blt (mg : Str → Option Value) : Prop where
  len : mg "len" = none
  int : mg "int" = none
  str : mg "str" = none
  bool : mg "bool" = none
  list : mg "list" = none
  tuple : mg "tuple" = none
  range : mg "range" = none
  isinstance : mg "isinstance" = none
  ord : mg "ord" = none
  all : mg "all" = none
section
variable {X : Cx} {p p2 pos : Pos} {e : Expr} {es : List Expr} {t : TA}
theorem Blt.len_s (B : Blt X.mg) (ha : PA X (e :: es) t) (hg : Gl X "len" := by rfl) (he : starEach (e :: es) X.env = (false, eval e X.env) :: starEach es X.env := by rfl) (hpl : (backTo pos (starEach es X.env)).any (·.1) = false := by rfl) :
    PE X (.Call (.Name "len" p) (e :: es) [] pos) (tCB (fun xs H Q => ∃ z, xs = [.str z] ∧ z.length ≤ sizeLine ∧ Q (.int z.length) H) t) := pe_callB call_len_str hg B.len PySem.boot_len ha (he := he) (hpl := hpl)
theorem Blt.len_q (B : Blt X.mg) (ha : PA X (e :: es) t) (hg : Gl X "len" := by rfl) (he : starEach (e :: es) X.env = (false, eval e X.env) :: starEach es X.env := by rfl) (hpl : (backTo pos (starEach es X.env)).any (·.1) = false := by rfl) :
    PE X (.Call (.Name "len" p) (e :: es) [] pos) (tCB (fun xs H Q => ∃ p ys, xs = [.ref p] ∧ (SqL X.K H p ys ∨ SqT X.K H p ys) ∧ Q (.int ys.length) H) t) := pe_callB call_len_seq hg B.len PySem.boot_len ha (he := he) (hpl := hpl)
theorem call_intI : CallR X (.type "int") (fun xs H Q => ∃ i, xs = [.int i] ∧ Q (.int i) H) := fun pins s σ H xs us Q I r h => call_int1 pins s σ H xs us Q I r (.inl h)
theorem Blt.int_i (B : Blt X.mg) (ha : PA X (e :: es) t) (hg : Gl X "int" := by rfl) (he : starEach (e :: es) X.env = (false, eval e X.env) :: starEach es X.env := by rfl) (hpl : (backTo pos (starEach es X.env)).any (·.1) = false := by rfl) :
    PE X (.Call (.Name "int" p) (e :: es) [] pos) (tCB (fun xs H Q => ∃ i, xs = [.int i] ∧ Q (.int i) H) t) :=
  pe_callTy call_intI hg B.int (by decide +kernel) ha (he := he) (hpl := hpl)
theorem Blt.str_i (B : Blt X.mg) (ha : PA X (e :: es) t) (hg : Gl X "str" := by rfl) (he : starEach (e :: es) X.env = (false, eval e X.env) :: starEach es X.env := by rfl) (hpl : (backTo pos (starEach es X.env)).any (·.1) = false := by rfl) :
    PE X (.Call (.Name "str" p) (e :: es) [] pos) (tCB (fun xs H Q => ∃ i, xs = [.int i] ∧ i.natAbs.log2 < 1920 ∧ Q (.str (toString i)) H) t) :=
  pe_callTy call_str_int hg B.str (by decide +kernel) ha (he := he) (hpl := hpl)
theorem Blt.isi (B : Blt X.mg) (ha : PA X (e :: es) t) (hg : Gl X "isinstance" := by rfl) (he : starEach (e :: es) X.env = (false, eval e X.env) :: starEach es X.env := by rfl) (hpl : (backTo pos (starEach es X.env)).any (·.1) = false := by rfl) :
    PE X (.Call (.Name "isinstance" p) (e :: es) [] pos) (tCB (rIsi X.K) t) := pe_callB call_isi hg B.isinstance (by decide +kernel) ha (he := he) (hpl := hpl)
theorem Blt.tuple_l (B : Blt X.mg) (ha : PA X (e :: es) t) (hg : Gl X "tuple" := by rfl) (he : starEach (e :: es) X.env = (false, eval e X.env) :: starEach es X.env := by rfl) (hpl : (backTo pos (starEach es X.env)).any (·.1) = false := by rfl) :
    PE X (.Call (.Name "tuple" p) (e :: es) [] pos) (tCB (fun xs H Q => ∃ p ys, xs = [.ref p] ∧ ((SqL X.K H p ys ∧ ∀ l, H l = none → Q (.ref l) (upd H l (.tup ys))) ∨ (SqT X.K H p ys ∧ Q (.ref p) H))) t) :=
  pe_callTy call_tuple_of hg B.tuple (by decide +kernel) ha (he := he) (hpl := hpl)
theorem Blt.list_q (B : Blt X.mg) (ha : PA X (e :: es) t) (hg : Gl X "list" := by rfl) (he : starEach (e :: es) X.env = (false, eval e X.env) :: starEach es X.env := by rfl) (hpl : (backTo pos (starEach es X.env)).any (·.1) = false := by rfl) :
    PE X (.Call (.Name "list" p) (e :: es) [] pos) (tCB (fun xs H Q => ∃ p ys, xs = [.ref p] ∧ (SqL X.K H p ys ∨ SqT X.K H p ys) ∧ ∀ l, H l = none → Q (.ref l) (upd H l (.lst ys))) t) :=
  pe_callTy call_list_of hg B.list (by decide +kernel) ha (he := he) (hpl := hpl)
theorem Blt.v_int (B : Blt X.mg) (hg : Gl X "int" := by rfl) : PE X (.Name "int" p) (tC (.ty "int")) := pe_bltn hg B.int (by decide +kernel) rfl
theorem Blt.v_str (B : Blt X.mg) (hg : Gl X "str" := by rfl) : PE X (.Name "str" p) (tC (.ty "str")) := pe_bltn hg B.str (by decide +kernel) rfl
theorem Blt.v_bool (B : Blt X.mg) (hg : Gl X "bool" := by rfl) : PE X (.Name "bool" p) (tC (.ty "bool")) := pe_bltn hg B.bool (by decide +kernel) rfl
theorem Blt.v_tuple (B : Blt X.mg) (hg : Gl X "tuple" := by rfl) : PE X (.Name "tuple" p) (tC (.ty "tuple")) := pe_bltn hg B.tuple (by decide +kernel) rfl
theorem Blt.range1 (B : Blt X.mg) {tg : Expr} (ha : PA X [e] t) (hg : Gl X "range" := by rfl) (hs : starEach [e] X.env = [(false, eval e X.env)] := by rfl) : PI X tg (.Call (.Name "range" p) [e] [] pos) (iRng1 t) := pi_range1 hg B.range ha hs
end
section
variable {X : Cx}
/-- the same rules for what is tracked: the item list is told by the heap -/
theorem ix_lM : IxR X (fun x y H Q => ∃ p xs i v, x = .ref p ∧ H p = some (.lst xs) ∧ y = .int i ∧ atI xs i = some v ∧ Q v H) := by
  intro value slice pins s σ H x y v u Q I rx ry h hs
  obtain ⟨p, xs, i, z, e1, hp, e2, he, q⟩ := h
  exact ix_list value slice pins s σ H x y v u Q I rx ry ⟨p, xs, i, z, e1, e2, SqL.of hp, he, q⟩ hs
theorem ix_tM : IxR X (fun x y H Q => ∃ p xs i v, x = .ref p ∧ H p = some (.tup xs) ∧ y = .int i ∧ atI xs i = some v ∧ Q v H) := by
  intro value slice pins s σ H x y v u Q I rx ry h hs
  obtain ⟨p, xs, i, z, e1, hp, e2, he, q⟩ := h
  exact ix_tup value slice pins s σ H x y v u Q I rx ry ⟨p, xs, i, z, e1, e2, SqT.of hp, he, q⟩ hs
end
/-- a def of the text that keeps its promise, by its name -/
structure Cal (P : Program) (w : World) (K : PySem.W.Frag) (mg : Str → Option Value) (base : Heap) (CX : CXT) (k : Nat) (x : Str) (sp : Sp) : Prop where
  ex : ∃ f fd ps, FnOk P w K mg base CX k f fd ps sp ∧ mg x = some (.ref f) ∧ PySem.W.keepIn K (.ref f) = true ∧ Binds K fd ps []
section
variable {P : Program} {w : World} {K : PySem.W.Frag} {mg : Str → Option Value} {base : Heap} {CX : CXT} {x qual : Str} {sp : Sp}
theorem Cal.mono {j k : Nat} (c : Cal P w K mg base CX j x sp) (h : j ≤ k) : Cal P w K mg base CX k x sp :=
  let ⟨f, fd, ps, F, m, kp, b⟩ := c.ex
  ⟨f, fd, ps, F.mono h, m, kp, b⟩
theorem Cal.imp {k : Nat} {sp' : Sp} (c : Cal P w K mg base CX k x sp) (h : ∀ vs H Q E, sp' vs H Q E → sp vs H Q E) : Cal P w K mg base CX k x sp' :=
  let ⟨f, fd, ps, F, m, kp, b⟩ := c.ex
  ⟨f, fd, ps, F.imp h, m, kp, b⟩
end
section
variable {X : Cx} {x : Str} {p pos : Pos} {e : Expr} {es : List Expr} {t : TA} {sp : Sp} {j k : Nat} {CX : CXT} {E : XK}
/-- its call, what it raises passes as hx says -/
theorem Cal.pex (c : Cal X.prog X.w X.K X.mg X.base CX j x sp) (hr : Room k X.A) (hx : Passes CX X E) (ha : PA X (e :: es) t) (hjk : j ≤ k := by first | decide | omega) (hg : Gl X x := by rfl) (hdb : (x == ("__debug__" : Str)) = false := by decide)
    (he : starEach (e :: es) X.env = (false, eval e X.env) :: starEach es X.env := by rfl) (hpl : (backTo pos (starEach es X.env)).any (·.1) = false := by rfl) :
    PE X (.Call (.Name x p) (e :: es) [] pos) (tCall sp [] E t) :=
  let ⟨_, _, _, F, m, kp, b⟩ := c.ex
  pe_call F (hr.mono hjk) hg m kp b .nil hx ha hdb he hpl
theorem Cal.pe (c : Cal X.prog X.w X.K X.mg X.base CX0 j x sp) (hr : Room k X.A) (ha : PA X (e :: es) t) (hjk : j ≤ k := by first | decide | omega) (hg : Gl X x := by rfl) (hdb : (x == ("__debug__" : Str)) = false := by decide)
    (he : starEach (e :: es) X.env = (false, eval e X.env) :: starEach es X.env := by rfl) (hpl : (backTo pos (starEach es X.env)).any (·.1) = false := by rfl) :
    PE X (.Call (.Name x p) (e :: es) [] pos) (tCall sp [] E0 t) := c.pex hr pass0 ha hjk hg hdb he hpl
theorem Cal.pe0 (c : Cal X.prog X.w X.K X.mg X.base CX0 j x sp) (hr : Room k X.A) (hjk : j ≤ k := by first | decide | omega) (hg : Gl X x := by rfl) (hdb : (x == ("__debug__" : Str)) = false := by decide) :
    PE X (.Call (.Name x p) [] [] pos) (tCall sp [] E0 tNil) :=
  let ⟨_, _, _, F, m, kp, b⟩ := c.ex
  pe_call0 F (hr.mono hjk) hg m kp b .nil pass0 hdb
/-- of a def that may raise, where it does not -/
theorem Cal.peL (c : Cal X.prog X.w X.K X.mg X.base (L2.CX X.prog X.w) j x sp) (hr : Room k X.A) (ha : PA X (e :: es) t) (hjk : j ≤ k := by first | decide | omega) (hg : Gl X x := by rfl) (hdb : (x == ("__debug__" : Str)) = false := by decide)
    (he : starEach (e :: es) X.env = (false, eval e X.env) :: starEach es X.env := by rfl) (hpl : (backTo pos (starEach es X.env)).any (·.1) = false := by rfl) :
    PE X (.Call (.Name x p) (e :: es) [] pos) (tCall sp [] E0 t) := c.pex hr passL ha hjk hg hdb he hpl
end
/-- what was tracked outside S is as it was; tuples stand -/
structure Kp (S : List Addr) (H H' : Hp) : Prop where
  keep : ∀ b o, b ∉ S → H b = some o → H' b = some o
  tup : ∀ b xs, H b = some (.tup xs) → H' b = some (.tup xs)
theorem Kp.refl (S : List Addr) (H : Hp) : Kp S H H := ⟨fun _ _ _ h => h, fun _ _ h => h⟩
theorem Kp.trans {S : List Addr} {H H1 H2 : Hp} (a : Kp S H H1) (b : Kp S H1 H2) : Kp S H H2 := ⟨fun c o n h => b.keep c o n (a.keep c o n h), fun c xs h => b.tup c xs (a.tup c xs h)⟩
theorem Kp.new {S : List Addr} {H : Hp} {p : Addr} (h : H p = none) (o : HO) : Kp S H (upd H p o) :=
  ⟨fun b u _ q => by rw [upd_ne (ne_of_none q h)]; exact q, fun b u q => by rw [upd_ne (ne_of_none q h)]; exact q⟩
theorem Kp.lst {S : List Addr} {H : Hp} {p : Addr} {xs ys : List V} (h : H p = some (.lst xs)) (m : p ∈ S) : Kp S H (upd H p (.lst ys)) :=
  ⟨fun b u n q => by rw [upd_ne (fun z => n (by rw [z]; exact m))]; exact q, fun b u q => by rw [upd_ne (ne_of q h (by intro z; cases z))]; exact q⟩
theorem Kp.mono {S S' : List Addr} {H H' : Hp} (a : Kp S H H') (h : ∀ b ∈ S, b ∈ S') : Kp S' H H' := ⟨fun b o n q => a.keep b o (fun z => n (h b z)) q, a.tup⟩
/-- what was not there may change -/
theorem Kp.drop {S : List Addr} {H H' : Hp} {p : Addr} (h : H p = none) (a : Kp (p :: S) H H') : Kp S H H' :=
  ⟨fun b o n q => a.keep b o (fun z => by
    rcases List.mem_cons.mp z with z | z
    · rw [z, h] at q; cases q
    · exact n z) q, a.tup⟩
theorem Kp.upd {S : List Addr} {H H' : Hp} {p : Addr} {xs ys : List V} (a : Kp S H H') (h : H p = none) (e : H' p = some (.lst xs)) : Kp S H (upd H' p (.lst ys)) :=
  Kp.drop h ((a.mono fun b hb => List.mem_cons_of_mem _ hb).trans (Kp.lst e List.mem_cons_self))
theorem Kp.seqL {K : PySem.W.Frag} {S : List Addr} {H H' : Hp} {a : Addr} {xs : List V} (e : Kp S H H') (n : a ∉ S) (h : SqL K H a xs) : SqL K H' a xs := by
  rcases h with (h | ⟨o, h⟩) | h
  · exact .inl (.inl (e.keep _ _ n h))
  · exact .inl (.inr ⟨o, e.keep _ _ n h⟩)
  · exact .inr h
theorem Kp.tab {P : Addr} {S : List Addr} {H H' : Hp} (hG : GxR.TabG H P) (t : GxR.Tabbed P H H') (m : P ∈ S) : Kp S H H' := by
  obtain ⟨ps, e, _⟩ := hG
  refine ⟨fun b o n q => ?_, fun b xs q => ?_⟩
  · rw [t.2 b (fun z => n (by rw [z]; exact m))]; exact q
  · rw [t.2 b (ne_of q e (by intro z; cases z))]; exact q
/-- a stream of the law's: a list of two ints -/
def Strm (H : Hp) (s : Addr) : Prop := ∃ a b : Int, H s = some (.lst [.int a, .int b])
theorem Strm.mk {H : Hp} {s : Addr} {a b : Int} : Strm (upd H s (.lst [.int a, .int b])) s := ⟨a, b, upd_same⟩
theorem Strm.nT {H : Hp} {s P : Addr} (h : Strm H s) (g : GxR.TabG H P) : s ≠ P := by
  obtain ⟨a, b, e⟩ := h
  obtain ⟨ps, q, _⟩ := g
  exact ne_of e q (by intro z; cases z)
theorem Strm.kp {H H' : Hp} {s : Addr} {S : List Addr} (h : Strm H s) (k : Kp S H H') (n : s ∉ S) : Strm H' s := let ⟨a, b, e⟩ := h; ⟨a, b, k.keep _ _ n e⟩
theorem tabG_kp {H H' : Hp} {P : Addr} {S : List Addr} (h : GxR.TabG H P) (k : Kp S H H') (n : P ∉ S) : GxR.TabG H' P := let ⟨a, e, q⟩ := h; ⟨a, k.keep _ _ n e, q⟩
/-- the built-in type of a value, by the tracked heap -/
def tyN (H : Hp) : V → Option String
  | .non => some "NoneType" | .bl _ => some "bool" | .int _ => some "int" | .str _ => some "str"
  | .ref p => match H p with
    | some (.lst _) => some "list"
    | some (.tup _) => some "tuple"
    | some (.dK _) => some "dict"
    | _ => none
  | _ => none
theorem tyN_ok {K : PySem.W.Frag} {H : Hp} {v : V} {t : String} (h : tyN H v = some t) : TyX K H v (.type t) := by
  cases v with
  | non => cases h; exact .base .non
  | bl b => cases h; exact .base (.bl b)
  | int i => cases h; exact .base (.int i)
  | str z => cases h; exact .base (.str z)
  | ref p =>
    unfold tyN at h
    simp only at h
    split at h
    · rename_i xs e; cases h; exact .base (.lst e)
    · rename_i xs e; cases h; exact .base (.tup e)
    · rename_i xs e; cases h; exact .base (.dK e)
    · cases h
  | _ => cases h
theorem tyN_lst {H : Hp} {p : Addr} {xs : List V} (h : H p = some (.lst xs)) : tyN H (.ref p) = some "list" := by unfold tyN; simp only [h]
theorem tyN_tup {H : Hp} {p : Addr} {xs : List V} (h : H p = some (.tup xs)) : tyN H (.ref p) = some "tuple" := by unfold tyN; simp only [h]
theorem tyN_dK {H : Hp} {p : Addr} {xs : List (Key × V)} (h : H p = some (.dK xs)) : tyN H (.ref p) = some "dict" := by unfold tyN; simp only [h]
/-- whether the first type is one of the second -/
def isaB (t c : String) : Bool := t == c || (t == "bool" && c == "int")
theorem kit_isaB {t c : String} (ht : t ∈ ["NoneType", "bool", "int", "str", "list", "tuple", "dict"]) (hc : c ∈ ["bool", "int", "str", "list", "tuple"]) : kitB t c = some (isaB t c) := by
  simp only [List.mem_cons, List.not_mem_nil, or_false] at ht hc
  rcases ht with rfl | rfl | rfl | rfl | rfl | rfl | rfl <;> rcases hc with rfl | rfl | rfl | rfl | rfl <;> decide +kernel
theorem tyN_in {H : Hp} {v : V} {t : String} (h : tyN H v = some t) : t ∈ ["NoneType", "bool", "int", "str", "list", "tuple", "dict"] := by
  unfold tyN at h
  split at h
  · cases h; decide
  · cases h; decide
  · cases h; decide
  · cases h; decide
  · split at h
    · cases h; decide
    · cases h; decide
    · cases h; decide
    · cases h
  · cases h
section
variable {X : Cx} {p p2 pos : Pos} {e : Expr} {te : TE} {c : Str} {cs : String}
/-- a reading that may be weakened -/
def tMono (te : TE) : TE := fun σ H Q => ∃ Q0 : VK, te σ H Q0 ∧ ∀ x H1, Q0 x H1 → Q x H1
theorem pe_mono (he : PE X e te) : PE X e (tMono te) := ⟨fun pins s σ H Q I ⟨Q0, q, m⟩ => thn (he.run pins s σ H Q0 I q) fun u s1 ⟨v, H1, J, r, z⟩ => ⟨v, H1, J, r, m v H1 z⟩⟩
/-- isinstance(e, T), T a built-in type's name: told by the tracked heap -/
def tIsT (c : String) (te : TE) : TE := fun σ H Q => te σ H fun x H1 => ∃ t, tyN H1 x = some t ∧ Q (.bl (isaB t c)) H1
theorem Blt.isT (B : Blt X.mg) (he : PE X e te) (hc : PE X (.Name c p2) (tC (.ty cs))) (hm : cs ∈ ["bool", "int", "str", "list", "tuple"] := by decide) (hg : Gl X "isinstance" := by rfl) (hs : starEach [e, .Name c p2] X.env = (false, eval e X.env) :: starEach [.Name c p2] X.env := by rfl)
    (hs2 : starEach [.Name c p2] X.env = (false, eval (.Name c p2) X.env) :: starEach [] X.env := by rfl) (hpl : (backTo pos (starEach [.Name c p2] X.env)).any (·.1) = false := by rfl) :
    PE X (.Call (.Name "isinstance" p) [e, .Name c p2] [] pos) (tIsT cs te) := by
  have h := Blt.isi (p := p) (pos := pos) B (pa_cons (pe_mono he) (pa_cons hc pa_nil hs2) hs) hg hs hpl
  exact ⟨fun pins s σ H Q I q => h.run pins s σ H Q I ⟨_, q, fun x H1 ⟨t, h1, h2⟩ => ⟨x, .ty cs, .type t, .type cs, isaB t cs, rfl, .ty cs, tyN_ok h1, kit_ty (kit_isaB (tyN_in h1) hm), h2⟩⟩⟩
end
theorem tyN_ref {H : Hp} {p : Addr} {t : String} (h : tyN H (.ref p) = some t) : t = "list" ∨ t = "tuple" ∨ t = "dict" := by
  unfold tyN at h
  simp only at h
  split at h
  · cases h; exact .inl rfl
  · cases h; exact .inr (.inl rfl)
  · cases h; exact .inr (.inr rfl)
  · cases h
theorem isa_str {H : Hp} {v : V} {t : String} (h : tyN H v = some t) (q : isaB t "str" = true) : ∃ z, v = .str z := by
  cases v with
  | str z => exact ⟨z, rfl⟩
  | ref p => rcases tyN_ref h with rfl | rfl | rfl <;> exact absurd q (by decide)
  | _ => cases h <;> exact absurd q (by decide)
theorem isa_int {H : Hp} {v : V} {t : String} (h : tyN H v = some t) (q : isaB t "int" = true) : (∃ z, v = .int z) ∨ ∃ b, v = .bl b := by
  cases v with
  | int z => exact .inl ⟨z, rfl⟩
  | bl b => exact .inr ⟨b, rfl⟩
  | ref p => rcases tyN_ref h with rfl | rfl | rfl <;> exact absurd q (by decide)
  | _ => cases h <;> exact absurd q (by decide)
theorem isaB_all : isaB "NoneType" "bool" = false ∧ isaB "NoneType" "int" = false ∧ isaB "NoneType" "str" = false ∧ isaB "NoneType" "list" = false ∧ isaB "NoneType" "tuple" = false ∧
  isaB "bool" "bool" = true ∧ isaB "bool" "int" = true ∧ isaB "bool" "str" = false ∧ isaB "bool" "list" = false ∧ isaB "bool" "tuple" = false ∧
  isaB "int" "bool" = false ∧ isaB "int" "int" = true ∧ isaB "int" "str" = false ∧ isaB "int" "list" = false ∧ isaB "int" "tuple" = false ∧
  isaB "str" "bool" = false ∧ isaB "str" "int" = false ∧ isaB "str" "str" = true ∧ isaB "str" "list" = false ∧ isaB "str" "tuple" = false ∧
  isaB "list" "bool" = false ∧ isaB "list" "int" = false ∧ isaB "list" "str" = false ∧ isaB "list" "list" = true ∧ isaB "list" "tuple" = false ∧
  isaB "tuple" "bool" = false ∧ isaB "tuple" "int" = false ∧ isaB "tuple" "str" = false ∧ isaB "tuple" "list" = false ∧ isaB "tuple" "tuple" = true ∧
  isaB "dict" "bool" = false ∧ isaB "dict" "int" = false ∧ isaB "dict" "str" = false ∧ isaB "dict" "list" = false ∧ isaB "dict" "tuple" = false := by decide
theorem tyN_non {H : Hp} : tyN H .non = some "NoneType" := rfl
theorem tyN_bl {H : Hp} {b : Bool} : tyN H (.bl b) = some "bool" := rfl
theorem tyN_int {H : Hp} {b : Int} : tyN H (.int b) = some "int" := rfl
theorem tyN_str {H : Hp} {b : Str} : tyN H (.str b) = some "str" := rfl
theorem ixN_20 : ixN 2 0 = some 0 := rfl
theorem ixN_21 : ixN 2 1 = some 1 := rfl
theorem ixN_10 : ixN 1 0 = some 0 := rfl
theorem at0 {α : Type} {a : α} {l : List α} : atI (a :: l) 0 = some a := atI_nat (j := 0) rfl
theorem at1 {α : Type} {a b : α} {l : List α} : atI (a :: b :: l) 1 = some b := atI_nat (j := 1) rfl
end SC
/-! all(test for mark in text), the test one that reads built-ins and globals too -/
namespace SC
open PySem PySem.Spec PyProof.Rows L2
open GxR (TabB TabG Tabbed Ready GenS keeps_tok trF trF_some all_signs inv_tab sh_eta)
/-- what the element may lean on: the module's names, the built-ins -/
structure Names2 (h : Heap) (mg : Str → Option Value) : Prop where
  glob : h.Ns mainGlobals mg
  blt : ∃ mb, h.Ns builtinsNs mb ∧ ∀ x : Str, x ≠ "__name__" → mb x = bootBuiltins x
/-- a sign that the document calls printable -/
def prc (c : Nat) : Bool := decide (32 ≤ c) && decide (c ≤ 126) && !decide (c = 37)
def prn (z : Str) : Bool := z.cps.toList.all prc
end SC
/-! the end of a law's row whose text holds generator expressions: the tables out of the top -/
namespace SC
open PySem PySem.Spec PyProof.Rows L2 LamX
theorem tab_mk {q : Program} {lo : List Str} {mean : ExcName → Option Value} {mg mb : Str → Option Value} {h : Heap} {K : PySem.W.Frag} {d : DefRec} {x : Str} {f c P : Addr} {fd : FuncData} {oc cc : Value} {od dc : Option Addr} {sl sc : Array (Option Value)} {vs : Array Value}
    (T : Top q lo mean mg mb h) (X : K.In h) (hr : (recsOf q).find? (fun e => e.name == x) = some d) (a : PySem.W.nsIn K mainGlobals x = some (some (.ref f))) (l : K.lookup f = some ⟨oc, od, .func fd, sl⟩) (hc : fd.code = .ref c)
    (lc : K.lookup c = some ⟨cc, dc, .fields vs, sc⟩) (hv : vs[11]? = some (.ref P)) : PySem.W.CodeHd h c P ∧ h.get? P = some (PySem.W.tabObj #[]) := by
  refine PySem.W.tab_of T X hr ?_
  unfold PySem.W.tabIn
  rw [a]
  simp only [l, hc, lc, hv]
/-- a law's state: the table may have grown, the stream stands, all else that was there is as it was -/
structure LS (Pt st : Addr) (H0 H : Hp) : Prop where
  k : Kp [Pt] H0 H
  g : GxR.TabG H Pt
  s : Strm H st
  g0 : GxR.TabG H0 Pt
  fr : H0 st = none
section
variable {Pt st p : Addr} {H0 H H' : Hp} {K : PySem.W.Frag}
theorem LS.ne (L : LS Pt st H0 H) : st ≠ Pt := L.s.nT L.g
theorem LS.take (L : LS Pt st H0 H) (k : Kp [st] H H') (s : Strm H' st) : LS Pt st H0 H' :=
  ⟨Kp.drop L.fr ((L.k.mono fun b hb => List.mem_cons_of_mem _ hb).trans (k.mono fun b hb => by rw [List.mem_singleton.mp hb]; exact List.mem_cons_self)), tabG_kp L.g k (by simpa using L.ne.symm), s, L.g0, L.fr⟩
theorem LS.new (L : LS Pt st H0 H) (h : H p = none) (o : HO) : LS Pt st H0 (upd H p o) :=
  ⟨L.k.trans (Kp.new h o), tabG_kp L.g (Kp.new h o : Kp [] _ _) (by simp), L.s.kp (Kp.new h o : Kp [] _ _) (by simp), L.g0, L.fr⟩
theorem LS.kp0 (L : LS Pt st H0 H) (k : Kp [] H H') : LS Pt st H0 H' := ⟨L.k.trans (k.mono fun b hb => absurd hb (by simp)), tabG_kp L.g k (by simp), L.s.kp k (by simp), L.g0, L.fr⟩
theorem seq_tab {a : Addr} {xs : List V} (k : Kp [Pt] H0 H) (g0 : GxR.TabG H0 Pt) (h : SqL K H0 a xs) : SqL K H a xs := by
  obtain ⟨ps, e, _⟩ := g0
  rcases h with (h | ⟨o, h⟩) | h
  · exact .inl (.inl (k.keep _ _ (by simpa using ne_of h e (by intro z; cases z)) h))
  · exact .inl (.inr ⟨o, k.keep _ _ (by simpa using ne_of h e (by intro z; cases z)) h⟩)
  · exact .inr h
theorem LS.seq {a : Addr} {xs : List V} (L : LS Pt st H0 H) (h : SqL K H0 a xs) : SqL K H a xs := seq_tab L.k L.g0 h
theorem Kp.get1 {b : Addr} {o : HO} (k : Kp [Pt] H H') (g : GxR.TabG H Pt) (h : H b = some o) (no : ∀ ps, o ≠ .tbl ps := by intro ps z; cases z) : H' b = some o := by
  obtain ⟨ps, e, _⟩ := g
  exact k.keep b o (by simpa using ne_of h e (no ps)) h
theorem tyN_kp {v : V} {t : String} (k : Kp [Pt] H H') (g : GxR.TabG H Pt) (h : tyN H v = some t) : tyN H' v = some t := by
  cases v with
  | ref p =>
    unfold tyN at h
    simp only at h
    split at h
    · rename_i xs q; cases h; exact tyN_lst (k.get1 g q)
    · rename_i xs q; cases h; exact tyN_tup (k.get1 g q)
    · rename_i xs q; cases h; exact tyN_dK (k.get1 g q)
    · cases h
  | _ => exact h
end
end SC
/-! canonical texts: the values as trees, what encode writes, what decode reads: plain Lean -/
namespace SC
open PySem L2
/-- a value as a tree; oth: what is neither an int nor a text nor a tuple -/
inductive Tr where
  | int (n : Int) | str (z : Str) | tup (ts : List Tr) | oth (v : V)
mutual
inductive Rep (H : Hp) : V → Tr → Prop
  | int (i : Int) : Rep H (.int i) (.int i)
  | str (z : Str) : Rep H (.str z) (.str z)
  | tup {a : Addr} {xs : List V} {ts : List Tr} : H a = some (.tup xs) → RepAll H xs ts → Rep H (.ref a) (.tup ts)
  | oth {v : V} {t : String} : tyN H v = some t → t ≠ "int" → t ≠ "str" → t ≠ "tuple" → Rep H v (.oth v)
inductive RepAll (H : Hp) : List V → List Tr → Prop
  | nil : RepAll H [] []
  | cons {v : V} {vs : List V} {t : Tr} {ts : List Tr} : Rep H v t → RepAll H vs ts → RepAll H (v :: vs) (t :: ts)
end
theorem Rep.ty {H : Hp} {v : V} {t : Tr} (h : Rep H v t) : ∃ s, tyN H v = some s := by
  cases h with
  | int => exact ⟨_, rfl⟩
  | str => exact ⟨_, rfl⟩
  | tup e _ => exact ⟨_, tyN_tup e⟩
  | oth e _ _ _ => exact ⟨_, e⟩
theorem RepAll.len {H : Hp} : ∀ {xs : List V} {ts : List Tr}, RepAll H xs ts → xs.length = ts.length
  | _, _, .nil => rfl
  | _, _, .cons _ h => congrArg (· + 1) h.len
theorem RepAll.app {H : Hp} : ∀ {xs ys : List V} {ts us : List Tr}, RepAll H xs ts → RepAll H ys us → RepAll H (xs ++ ys) (ts ++ us)
  | _, _, _, _, .nil, h => h
  | _, _, _, _, .cons a b, h => .cons a (b.app h)
theorem RepAll.get {H : Hp} : ∀ {xs : List V} {ts : List Tr} {i : Nat} {x : V}, RepAll H xs ts → xs[i]? = some x → ∃ t, ts[i]? = some t ∧ Rep H x t
  | _, _, _, _, .nil, h => by simp at h
  | _, _, 0, _, .cons a _, h => by
    have e := Option.some.inj h
    subst e
    exact ⟨_, rfl, a⟩
  | _, _, i + 1, _, .cons _ b, h => b.get (i := i) h
mutual
theorem Rep.kp {Pt : Addr} {H H' : Hp} (k : Kp [Pt] H H') (g : GxR.TabG H Pt) : ∀ {v : V} {t : Tr}, Rep H v t → Rep H' v t
  | _, _, .int i => .int i
  | _, _, .str z => .str z
  | _, _, .tup e h => .tup (k.tup _ _ e) (h.kp k g)
  | v, _, .oth e a b c => .oth (tyN_kp k g e) a b c
theorem RepAll.kp {Pt : Addr} {H H' : Hp} (k : Kp [Pt] H H') (g : GxR.TabG H Pt) : ∀ {vs : List V} {ts : List Tr}, RepAll H vs ts → RepAll H' vs ts
  | _, _, .nil => .nil
  | _, _, .cons a b => .cons (a.kp k g) (b.kp k g)
end
/-- the digits of a number -/
abbrev dig (n : Nat) : List Nat := TL.numL n
mutual
/-- the canonical text, its codes -/
def txt : Tr → List Nat
  | .int n => dig n.toNat ++ [46]
  | .str z => dig z.length ++ 58 :: TL.tl z
  | .tup ts => 91 :: (txts ts ++ [93])
  | .oth _ => []
def txts : List Tr → List Nat
  | [] => []
  | t :: ts => txt t ++ txts ts
end
mutual
/-- plain, tuples nested at most n deep -/
def pl (n : Nat) : Tr → Bool
  | .int i => decide (0 ≤ i) && decide (i ≤ 99999999999999999999)
  | .str z => prn z
  | .tup ts => match n with
    | 0 => false
    | m + 1 => pls m ts
  | .oth _ => false
def pls (n : Nat) : List Tr → Bool
  | [] => true
  | t :: ts => pl n t && pls n ts
end
mutual
/-- no tuple's text within is too long -/
def fit : Tr → Bool
  | .tup ts => fits ts && decide ((txts ts).length + 2 ≤ 100000)
  | _ => true
def fits : List Tr → Bool
  | [] => true
  | t :: ts => fit t && fits ts
end
/-! ### reading -/
def isD (c : Nat) : Bool := decide (48 ≤ c) && decide (c ≤ 57)
def val (l : List Nat) : Nat := NumText.digitsVal l
/-- items up to the closing bracket -/
def items (p : List Nat → Option (Tr × List Nat)) : Nat → List Nat → Option (List Tr × List Nat)
  | 0, _ => none
  | f + 1, l => match l with
    | 93 :: r => some ([], r)
    | l => match p l with
      | none => none
      | some (t, r) => match items p f r with
        | none => none
        | some (ts, r2) => some (t :: ts, r2)
/-! ### digits -/
theorem isD_iff {c : Nat} : isD c = true ↔ 48 ≤ c ∧ c ≤ 57 := by unfold isD; simp
theorem dig_isD (n : Nat) : ∀ c ∈ dig n, isD c = true := fun c hc => by
  have := TL.numL_digits n c hc
  exact isD_iff.mpr ⟨by omega, by omega⟩
theorem dig_first (n : Nat) : ∃ a r, dig n = a :: r ∧ 48 ≤ a ∧ a ≤ 57 := by
  obtain ⟨a, r, e⟩ := List.exists_cons_of_ne_nil (TL.numL_ne n)
  have := isD_iff.mp (dig_isD n a (by rw [show dig n = a :: r from e]; exact List.mem_cons_self))
  exact ⟨a, r, e, this.1, this.2⟩
end SC
/-! own errors of the text -/
namespace SC
open PySem L2
/-- an own error class over ValueError without an __init__ -/
structure Err (K : PySem.W.Frag) (mg : Str → Option Value) (x : Str) (C : Addr) : Prop where
  g : mg x = some (.ref C)
  e : PySem.W.excIn K C [.type "ValueError", .type "Exception", .type "BaseException", .type "object"] "ValueError.__new__" = true
  k : PySem.W.keepIn K (.ref C) = true
  b : PySem.W.subIn K (.ref C) (.type "BaseException") = some true
  t : PySem.W.typeIn K (.ref C) = some (.type "type")
  i : PySem.W.isClsIn K C = true
  s : PySem.W.subIn K (.ref C) (.ref C) = some true
def tErr (C : Addr) (W : WX) : TS := fun _ σ H => W (.ref C) none σ H
theorem Err.raise {X : Cx} {W : WX} {x m : Str} {C : Addr} {j : Nat} {p p2 pos pos2 : Pos} (T : Err X.K X.mg x C) (tk : Takes X W) (hc : X.calm = true := by rfl) (hg : Gl X x := by rfl) (hdb : (x == ("__debug__" : Str)) = false := by decide) :
    PS X (.Raise (some (.Call (.Name x p) [.Constant (.str m) j p2] [] pos)) none pos2) (tErr C W) :=
  ps_raise hc tk (pmk_own PySem.F.excBase_ValueError T.e T.g T.k (raises_own T.b T.t) hg hdb)
theorem Err.em {K : PySem.W.Frag} {mg : Str → Option Value} {x : Str} {C : Addr} (T : Err K mg x C) : PySem.W.exmOne K (.ref C) (.ref C) = some true := by
  have e1 : (PySem.W.subIn K (.ref C) (.type "BaseException") == some true) = true := by rw [T.b]; rfl
  have e2 : ((PySem.W.clsIn K C).isSome && PySem.W.typeIn K (.ref C) == some (.type "type")) = true := by
    rw [show (PySem.W.clsIn K C).isSome = true from T.i, T.t]; rfl
  have e3 : PySem.W.kitCls K (.ref C) (.ref C) = some true := by
    show (if ((PySem.W.clsIn K C).isSome && PySem.W.typeIn K (.ref C) == some (.type "type")) = true then PySem.W.subIn K (.ref C) (.ref C) else none) = some true
    rw [if_pos e2]; exact T.s
  show (if (PySem.W.subIn K (.ref C) (.type "BaseException") == some true) = true then PySem.W.kitCls K (.ref C) (.ref C) else none) = some true
  rw [if_pos e1]; exact e3
theorem dig_len {n : Nat} (h : n < 10 ^ 20) : (dig n).length ≤ 20 := TL.numL_len (by decide) h
theorem S_len (l : List Nat) : (⟨l.toArray⟩ : Str).length = l.length := by
  show l.toArray.size = _
  rw [List.size_toArray]
/-- str(n) -/
theorem toString_S (n : Nat) : Str.ofString (toString ((n : Nat) : Int)) = ⟨(dig n).toArray⟩ := TL.ext_tl (TL.tl_num n)
theorem log_small {i : Int} (h0 : 0 ≤ i) (h : i ≤ 99999999999999999999) : i.natAbs.log2 < 1920 := by
  by_cases z : i.natAbs = 0
  · rw [z]; decide
  · have := (Nat.log2_lt (k := 70) z).mpr (by omega)
    omega
/-- the texts of items, as Python's texts -/
def tys (ts : List Tr) : List Str := ts.map fun t => (⟨(txt t).toArray⟩ : Str)
theorem TabG.upd {Pt p : Addr} {H : Hp} {o : HO} (g : GxR.TabG H Pt) (n : p ≠ Pt) : GxR.TabG (upd H p o) Pt := by
  obtain ⟨ps, e, q⟩ := g
  exact ⟨ps, by rw [upd_ne (Ne.symm n)]; exact e, q⟩
end SC
/-! decode: what its readings want -/
namespace SC
open PySem L2
/-- a slice of a text by natural bounds -/
theorem cut_nat (z : Str) {a b : Nat} (h : a ≤ b) : TL.tl (cutS z (some (a : Int)) (some (b : Int))) = ((TL.tl z).drop a).take (b - a) := by
  show (z.cps.toList.drop (HT.sIx z.length 0 (some (a : Int)))).take (HT.sIx z.length z.length (some (b : Int)) - HT.sIx z.length 0 (some (a : Int))) = _
  have sx : ∀ (k d : Nat), HT.sIx z.length d (some (k : Int)) = min k z.length := fun k d => by
    show (if (k : Int) < 0 then ((k : Int) + (z.length : Int)).toNat else min (k : Int).toNat z.length) = _
    rw [if_neg (by omega), Int.toNat_natCast]
  rw [sx, sx]
  have el : z.cps.toList.length = z.length := (TL.len_tl z).symm
  by_cases ha : a ≤ z.length
  · rw [Nat.min_eq_left ha]
    by_cases hb : b ≤ z.length
    · rw [Nat.min_eq_left hb]
    · rw [Nat.min_eq_right (by omega), List.take_of_length_le (by rw [List.length_drop]; omega), List.take_of_length_le (by rw [List.length_drop, show (TL.tl z).length = z.length from el]; omega)]
  · rw [Nat.min_eq_right (by omega), Nat.min_eq_right (by omega), Nat.sub_self, List.take_zero]
    rw [List.drop_eq_nil_of_le (by rw [show (TL.tl z).length = z.length from el]; omega), List.take_nil]
section
variable {H H' : Hp}
theorem tyN_kp0 {v : V} {t : String} (k : Kp [] H H') (h : tyN H v = some t) : tyN H' v = some t := by
  cases v with
  | ref p =>
    unfold tyN at h
    simp only at h
    split at h
    · rename_i xs q; cases h; exact tyN_lst (k.keep _ _ (by simp) q)
    · rename_i xs q; cases h; exact tyN_tup (k.keep _ _ (by simp) q)
    · rename_i xs q; cases h; exact tyN_dK (k.keep _ _ (by simp) q)
    · cases h
  | _ => exact h
mutual
theorem Rep.kp0 (k : Kp [] H H') : ∀ {v : V} {t : Tr}, Rep H v t → Rep H' v t
  | _, _, .int i => .int i
  | _, _, .str z => .str z
  | _, _, .tup e h => .tup (k.tup _ _ e) (h.kp0 k)
  | _, _, .oth e a b c => .oth (tyN_kp0 k e) a b c
theorem RepAll.kp0 (k : Kp [] H H') : ∀ {vs : List V} {ts : List Tr}, RepAll H vs ts → RepAll H' vs ts
  | _, _, .nil => .nil
  | _, _, .cons a b => .cons (a.kp0 k) (b.kp0 k)
end
end
end SC
/-! values that a law draws: their bounds -/
namespace SC
open PySem L2
theorem ok_never {P : Program} {w : World} {K : PySem.W.Frag} {mg : Str → Option Value} {base : Heap} {CX : CXT} {k : Nat} {f : Addr} {fd : FuncData} {ps : List Str} : FnOk P w K mg base CX k f fd ps (fun _ _ _ _ => False) :=
  ⟨fun _ _ _ _ h => h.elim, fun _ _ _ _ _ _ _ _ _ _ _ _ _ h => h.elim⟩
mutual
/-- how many tuples -/
def nT : Tr → Nat
  | .tup ts => 1 + nTs ts
  | _ => 0
def nTs : List Tr → Nat
  | [] => 0
  | t :: ts => nT t + nTs ts
end
mutual
/-- drawn: small leaves, at most three items, at most n deep -/
def gd (n : Nat) : Tr → Bool
  | .int i => decide (0 ≤ i) && decide (i ≤ 99999999999999999999)
  | .str z => decide (z.length ≤ 105) && prn z
  | .tup ts => match n with
    | 0 => false
    | m + 1 => decide (ts.length ≤ 3) && gds m ts
  | .oth _ => false
def gds (n : Nat) : List Tr → Bool
  | [] => true
  | t :: ts => gd n t && gds n ts
end
mutual
/-- no other kind within: such values stand whatever lists change -/
def pure_ : Tr → Bool
  | .oth _ => false
  | .tup ts => pures ts
  | _ => true
def pures : List Tr → Bool
  | [] => true
  | t :: ts => pure_ t && pures ts
end
mutual
theorem Rep.any {S : List Addr} {H H' : Hp} (k : Kp S H H') : ∀ {v : V} {t : Tr}, Rep H v t → pure_ t = true → Rep H' v t
  | _, _, .int i, _ => .int i
  | _, _, .str z, _ => .str z
  | _, _, .tup e q, h => .tup (k.tup _ _ e) (q.any k h)
  | _, _, .oth _ _ _ _, h => by cases h
theorem RepAll.any {S : List Addr} {H H' : Hp} (k : Kp S H H') : ∀ {vs : List V} {ts : List Tr}, RepAll H vs ts → pures ts = true → RepAll H' vs ts
  | _, _, .nil, _ => .nil
  | _, t :: ts, .cons a b, h => by
    have h : (pure_ t && pures ts) = true := h
    rw [Bool.and_eq_true] at h
    exact .cons (a.any k h.1) (b.any k h.2)
end
mutual
/-- the law's own comparison -/
def same : Tr → Tr → Bool
  | .tup us, .tup ts => sames us ts
  | .str a, .str b => decide (a = b)
  | .int a, .int b => decide (a = b)
  | _, _ => false
def sames : List Tr → List Tr → Bool
  | [], [] => true
  | u :: us, t :: ts => same u t && sames us ts
  | _, _ => false
end
theorem intT {i : Int} (h0 : 0 ≤ i) (h1 : i ≤ 99999999999999999999) : i.natAbs.log2 < 1920 ∧ (Str.ofString (toString i)).length + (Str.ofString ".").length ≤ sizeLine ∧ Str.ofString (toString i) ++ Str.ofString "." = ⟨(txt (.int i)).toArray⟩ := by
  have lim : sizeLine = 16777216 := sizeLine_eq
  have ei : i = ((i.toNat : Nat) : Int) := by omega
  have dl := dig_len (n := i.toNat) (by omega)
  have e2 : (Str.ofString ".").length = 1 := by decide +kernel
  have e1 : (Str.ofString (toString i)).length ≤ 20 := by rw [ei, toString_S, S_len]; exact dl
  refine ⟨log_small h0 h1, by omega, TL.ext_tl ?_⟩
  rw [TL.tl_append]
  show TL.tl (Str.ofString (toString i)) ++ [46] = dig i.toNat ++ [46]
  rw [show TL.tl (Str.ofString (toString i)) = dig i.toNat by rw [ei]; exact TL.tl_num _]
end SC
namespace SC
open PySem L2 PyProof.Rows
section
variable {X : Cx}
/-- {n:x} of an int from 0 on -/
def tFmtX (te : TE) : TE := fun σ H Q => te σ H fun x H1 => ∃ n : Nat, x = .int (n : Int) ∧ (Nat.toDigits 16 n).length ≤ 1000 ∧ Q (.str ⟨((Nat.toDigits 16 n).map Char.toNat).toArray⟩) H1
end
/-- a module's constant, its token left open -/
theorem pe_cE {X : Cx} {x : Str} {n : Int} {p : Pos} (h : ∃ t, X.mg x = some (.int n t)) (hg : Gl X x := by rfl) (hd : (x == ("__debug__" : Str)) = false := by decide) : PE X (.Name x p) (tC (.int n)) :=
  let ⟨t, h⟩ := h
  pe_glob (v := .int n) hg h ⟨t, rfl⟩ hd
theorem pe_cSE {X : Cx} {x : Str} {n : Str} {p : Pos} (h : ∃ t, X.mg x = some (.str n t)) (hg : Gl X x := by rfl) (hd : (x == ("__debug__" : Str)) = false := by decide) : PE X (.Name x p) (tC (.str n)) :=
  let ⟨t, h⟩ := h
  pe_glob (v := .str n) hg h ⟨t, rfl⟩ hd
/-! the digest: a number, its 18 hexadecimal signs -/
end SC
/-! z[::-1] of a text -/
namespace SC
open PySem PySem.Spec PyProof.Rows L2
theorem cut_from (z : Str) (k : Nat) : TL.tl (cutS z (some (k : Int)) none) = (TL.tl z).drop k := by
  show (z.cps.toList.drop (HT.sIx z.length 0 (some (k : Int)))).take (HT.sIx z.length z.length none - HT.sIx z.length 0 (some (k : Int))) = _
  rw [HT.sIx_nat, HT.sIx_none]
  have e : z.cps.toList.length = z.length := Array.length_toList
  rw [List.take_of_length_le (by rw [List.length_drop, e]; omega)]
  show z.cps.toList.drop (min k z.length) = z.cps.toList.drop k
  by_cases h : k ≤ z.length
  · rw [Nat.min_eq_left h]
  · rw [Nat.min_eq_right (by omega), List.drop_eq_nil_of_le (by omega), List.drop_eq_nil_of_le (by omega)]
end SC
/-! all(test for mark in text), the test one that reads a captured text of the def around -/
namespace SC
open PySem PySem.Spec PyProof.Rows L2
open GxR (TabB TabG Tabbed Ready GenS keeps_tok trF trF_some all_signs inv_tab sh_eta)
/-- the element: a test of the sign c and of the text z that the def around keeps in a cell under the name y -/
def EltC (prog : Program) (w : World) (mg : Str → Option Value) (scope : Scope) (x y : Str) (elt : Expr) (pf : Str → Nat → Bool) : Prop :=
  ∀ (ce : Env) (A' : Around) (E' : Value → Shared → Prop) (c : Nat) (t : Tok) (s2 : Shared) (m2 : Str → Option Value) (z : Str) (tz : Tok) (cy : Addr), ce.scope = scope → ce.globals = mainGlobals → ce.builtins = builtinsNs → Names2 s2.heap mg →
    s2.heap.Ns ce.locals m2 → m2 x = some (.str ⟨#[c]⟩ t) → ce.cells.lookup y = some cy → s2.heap.IsCell cy (some (.str z tz)) → wpAny (model prog w) A' (eval elt ce) (fun v s3 => v = .bool (pf z c) ∧ Keeps s2 s3) E' s2
/-- the generator's scope: what can be read off it -/
structure GenS0 (scope : Scope) (x : Str) : Prop where
  kind : scope.kind = .function
  co : scope.isCoroutine = false
  cell : ∀ y ∈ scope.names, y.2 ≠ .cell
  dot : scope.names.lookup (".0" : Str) = some NameKind.local
  loc : scope.names.lookup x = some .local
theorem gs0Of {scope : Scope} {x : Str} (h : (match scope.kind with | .function => true | _ => false) && !scope.isCoroutine && (scope.names.all fun y => match y.2 with | .cell => false | _ => true) && (match scope.names.lookup (".0" : Str) with | some .local => true | _ => false) = true)
    (hx : (match scope.names.lookup x with | some .local => true | _ => false) = true) : GenS0 scope x := by
  simp only [Bool.and_eq_true, List.all_eq_true] at h
  obtain ⟨⟨⟨h1, h2⟩, h3⟩, h4⟩ := h
  refine ⟨?_, by simpa using h2, fun y hy e => ?_, ?_, ?_⟩
  · split at h1
    · assumption
    · cases h1
  · have := h3 y hy; rw [e] at this; cases this
  · split at h4
    · assumption
    · cases h4
  · split at hx
    · assumption
    · cases hx
/-- what the generator captures, the def around has -/
def freeOk (scope sc : Scope) : Bool := scope.names.all fun y => match y.2 with
  | .free => (match sc.names.lookup y.1 with | some .cell => true | some .free => true | _ => false)
  | _ => true
theorem GenS0.all {X : Cx} {scope : Scope} {x : Str} (S : GenS0 scope x) (ok : X.Ok) (h : freeOk scope X.env.scope = true) : GenS X.env scope x := by
  refine ⟨S.kind, S.co, S.cell, S.dot, S.loc, fun y hy hf => ok.has y.1 ?_⟩
  unfold freeOk at h
  rw [List.all_eq_true] at h
  have := h y hy
  rw [hf] at this
  simp only at this
  split at this
  · rename_i e; exact .inl e
  · rename_i e; exact .inr e
  · cases this
section
variable {X : Cx} {pins : List (Addr × Obj)} {σ : L2.St} {H : Hp} {s : Shared}
theorem gen_mkC {y : Str} {iy : Nat} {z : Str} {c P : Addr} {elt iter : Expr} {x : Str} {px gpos : Pos} {scope : Scope} {pf : Str → Nat → Bool} {te : TE} {k : Nat} {Q' : Value → Shared → Prop} {R : Str → Hp → Prop}
    (hr : Room k X.A) (TB : TabB X.base X.mg c P) (hcode : X.env.code = .ref c) (S : GenS X.env scope x) (hi : PE X iter te) (hel : EltC X.prog X.w X.mg scope x y elt pf)
    (hN : X.N[iy]? = some y) (hky : X.env.kindOf y = some .cell) (hcl : ∀ cs : List (Str × Addr), (cloFrom cs scope.names []).lookup y = some ((cs.lookup y).getD 0)) (hσ : σ[iy]? = some (some (.str z)))
    (hs : ∀ v, genFold iter X.env v = pure v) (I : Inv X pins σ H s) (h : te σ H fun v H1 => ∃ a : Str, v = .str a ∧ TabG H1 P ∧ R a H1)
    (hQ : ∀ a H1 g s5, R a H1 → Ready X pins σ H1 P a (pf z) g s5 → Q' (.ref g) s5) :
    wpAny (model X.prog X.w) X.A (eval (.GeneratorExp elt [⟨.Name x px, iter, [], 0⟩] scope gpos) X.env) Q' X.xe s := by
  refine wpAny_GeneratorExp_walksQ hr.hd S.co (closure_ok S.free) S.cell S.dot S.loc S.kind (by have := hr.dp; omega) ?_ hs
  refine thn (hi.run pins s σ H _ I h) fun xv t1 ⟨v, H1, J, rv, a, ev, ⟨ps, hP, htr⟩, hR⟩ => ?_
  subst ev
  obtain ⟨tk1, rfl⟩ := rv
  obtain ⟨ml, hnl, hll⟩ := J.loc
  obtain ⟨uy, ruy, lky⟩ := hll iy y (.str z) hN hσ (.inr (.inl hky))
  obtain ⟨tz, rfl⟩ := ruy
  obtain ⟨cy, hcy, hic⟩ : ∃ cy, X.env.cells.lookup y = some cy ∧ t1.heap.IsCell cy (some (.str z tz)) := by
    rcases lky with ⟨hk2, _⟩ | ⟨_, cy, h1, h2⟩
    · rw [hky] at hk2; cases hk2
    · exact ⟨cy, h1, h2⟩
  refine wpAny_pyIter_str fun o St W hst => ?_
  have hPs : t1.heap.get? P = some { cls := .none, data := .fields ps } := J.hok P _ hP
  have hPlt := Heap.lt_size hPs
  have up : ∀ b u, t1.heap.get? b = some u → (t1.heap.push o).get? b = some u := fun b u e => Heap.get?_push_of_some _ e
  have cd : PySem.W.CodeHd (t1.heap.push o) c P := TB.code.keeps fun b u e => up b u (J.bk b u e)
  have lim : (t1.heap.push o).NoLimit := J.nolimit.push o
  have hclt : cStatics < t1.heap.objs.size := let ⟨_, hn, _⟩ := J.nolimit; hn.lt
  have hsz1 : (t1.heap.push o).objs.size = t1.heap.objs.size + 1 := Heap.size_push ..
  refine ⟨lim, ?_⟩
  have go : ∀ (code : Value) (h3 : Heap) (tk : Nat) (qs : Array Value), Heap.ExtBut P (t1.heap.push o) h3 → (t1.heap.push o).objs.size ≤ h3.objs.size → h3.get? P = some { cls := .none, data := .fields qs } →
      (∃ more, qs = ps ++ more) → TriplesOk qs.toList →
      wpAny (model X.prog X.w) X.A (builtinsFor X.env.globals X.env.builtins) (fun bi s4 =>
        ∃ Ia fp wr n0 Pf St0 pz F, Value.ref t1.heap.objs.size = .ref Ia ∧ (∀ A' : Around, A'.handled = none → Walks X.prog X.w A' Ia fp wr n0 Pf St0) ∧ St0 0 s4.heap ∧ (∀ b ∈ fp, b < s4.heap.objs.size) ∧ s4.heap.NoLimit ∧ cStatics ∉ wr ∧
          (∀ href : Heap, (∀ b o, s4.heap.get? b = some o → href.get? b = some o) →
            QuietGen X.prog X.w (genEnv scope (cloFrom X.env.cells scope.names []) s4.heap.objs.size code bi X.env) x [] elt (List.range s4.heap.objs.size) wr Pf pz F href) ∧
          (∀ g h5 tk5 gs, gs.bare = true → s4.heap.objs.size < g → h5.objs.size = g + 1 → (∀ b o, s4.heap.get? b = some o → h5.get? b = some o) →
            WalksS X.prog X.w X.A.in4 g (g :: s4.heap.objs.size :: List.range s4.heap.objs.size) (s4.heap.objs.size :: wr) (GenOnlyQ s4.gens.size) (passing pz n0 0).length
              (fun j y => ∃ i, (passing pz n0 0)[j]? = some i ∧ F i y) (GenAt X.prog X.w X.A.in4 g s4.gens.size s4.heap.objs.size (List.range s4.heap.objs.size) wr pz n0 F) →
            GenAt X.prog X.w X.A.in4 g s4.gens.size s4.heap.objs.size (List.range s4.heap.objs.size) wr pz n0 F 0 { s4 with gens := s4.gens.push gs, toks := tk5, heap := h5 } →
            Q' (.ref g) { s4 with gens := s4.gens.push gs, toks := tk5, heap := h5 })) X.xe { t1 with heap := h3, toks := tk } := by
    intro code h3 tk qs hx hsz hP3 hmore htq
    obtain ⟨bm, ob, e1, e2, e3, e4, e5, e6, e7, e8⟩ := TB.bm
    have ncP : cStatics ≠ P := fun e => by
      obtain ⟨_, hns, _⟩ := J.nolimit
      obtain ⟨o', es, ep, ho, hd, _⟩ := hns
      rw [e, hPs] at ho
      cases ho; cases hd
    have nbP : (builtinsNs : Addr) ≠ P := fun e => by
      obtain ⟨mb, hns, _⟩ := J.mod.blt
      obtain ⟨o', es, ep, ho, hd, _⟩ := hns
      have ho := J.bk _ _ ho
      rw [e, hPs] at ho
      cases ho; cases hd
    have k3 : ∀ b u, b ≠ P → t1.heap.get? b = some u → h3.get? b = some u := fun b u hb e => hx b u hb (up b u e)
    refine wpAny_builtinsFor (m := X.mg) (by rw [J.ok.glob]; exact ((J.mod.glob.keeps J.bk).push o).extBut hx TB.gP) e1 e2 (k3 _ _ e4 (J.bk _ _ e5)) e6 e7 e8 ?_
    refine ⟨t1.heap.objs.size, [t1.heap.objs.size], [t1.heap.objs.size], a.cps.size, SignAt a, St, (fun _ => true), (fun i v => ∃ cc, a.cps[i]? = some cc ∧ v = .bool (pf z cc)), rfl, W, ?_, ?_, lim.extBut hx ncP, ?_, ?_, ?_⟩
    · refine (W X.A hr.hd).frame _ _ _ hst fun b hb u e => hx b u (fun z => ?_) e
      rcases List.mem_cons.mp hb with y | y
      · exact Nat.ne_of_lt hPlt (z.symm.trans y)
      · cases y
    · intro b hb
      rcases List.mem_cons.mp hb with z | z
      · rw [z]
        show t1.heap.objs.size < h3.objs.size
        omega
      · cases z
    · intro z
      rcases List.mem_cons.mp z with z | z
      · exact Nat.ne_of_lt hclt z
      · cases z
    · intro href hh
      refine ⟨fun A' E' i v s2 m2 hA hv hn hm hk => ?_, fun A' E' i v s2 m2 hA hv hp hn hm hk => ?_⟩
      · simp only [List.forIn_nil]
        exact wpAny_pure ⟨rfl, GxR.keeps_refl _⟩
      · obtain ⟨cc, u, hcc, rfl⟩ := hv
        have old : ∀ L, L ≠ P → ∀ q, X.base.get? L = some q → s2.heap.get? L = some q := fun L nL q e => by
          have e1 := J.bk _ _ e
          have l1 := Heap.lt_size e1
          have e2 := k3 L q nL e1
          refine hk L (List.mem_range.mpr (Heap.lt_size e2)) (fun z => ?_) q (hh L q e2)
          rcases List.mem_cons.mp z with z | z
          · rw [z] at l1; exact Nat.lt_irrefl _ l1
          · cases z
        have nm : Names2 s2.heap X.mg := ⟨J.mod.glob.at (old mainGlobals TB.gP), let ⟨mb, q1, q2⟩ := J.mod.blt; ⟨mb, q1.at (old builtinsNs nbP), q2⟩⟩
        have ncyP : cy ≠ P := fun e => by
          obtain ⟨oc, ho, hd⟩ := hic
          rw [e, hPs] at ho
          cases ho; cases hd
        have cy2 : s2.heap.IsCell cy (some (.str z tz)) := by
          obtain ⟨oc, ho, hd⟩ := hic
          have l1 := Heap.lt_size ho
          have e2 := k3 cy oc ncyP ho
          refine ⟨oc, hk cy (List.mem_range.mpr (Heap.lt_size e2)) (fun z => ?_) oc (hh cy oc e2), hd⟩
          rcases List.mem_cons.mp z with z | z
          · rw [z] at l1; exact Nat.lt_irrefl _ l1
          · cases z
        have hcy2 : (cloFrom X.env.cells scope.names []).lookup y = some cy := by rw [hcl, hcy]; rfl
        exact wpAny_mono (hel (genEnv scope (cloFrom X.env.cells scope.names []) h3.objs.size code builtinsNs X.env) A' E' cc u s2 m2 z tz cy rfl J.ok.glob rfl nm hn hm hcy2 cy2) (fun y s3 r => ⟨⟨cc, hcc, r.1⟩, r.2⟩) fun _ _ e => e
    · intro g h5 tk5 gs hgb hag hsz5 hk5 W5 hat
      simp only [GxR.passing_true, List.length_range] at W5
      refine hQ a H1 g _ hR ⟨_, _, _, _, _, W5.in4_1, hat, ?_, fun s' hm => ?_⟩
      · intro j y sj Qj Ej hy hQj
        obtain ⟨i, hij, cc, hcc, rfl⟩ := hy
        obtain ⟨hj, ej⟩ := List.getElem?_eq_some_iff.mp hij
        rw [List.getElem_range] at ej
        subst ej
        have e9 : a.cps.toList[j]? = some cc := by rw [Array.getElem?_toList]; exact hcc
        have hQ2 : Qj (trF (pf z) a.cps.toList j) sj := hQj
        rw [trF_some e9] at hQ2
        exact wpAny_truthy_bool hQ2
      · obtain ⟨more, em⟩ := hmore
        have nwr : ∀ b u, t1.heap.get? b = some u → b ∉ h3.objs.size :: [t1.heap.objs.size] := fun b u e hb => by
          have hl : b < t1.heap.objs.size := Heap.lt_size e
          rcases List.mem_cons.mp hb with z | z
          · rw [z] at hl
            exact absurd hl (Nat.not_lt.mpr (show t1.heap.objs.size ≤ h3.objs.size by omega))
          · rcases List.mem_cons.mp z with z | z
            · rw [z] at hl
              exact Nat.lt_irrefl _ hl
            · cases z
        have J2 := inv_tab (more := more) (h' := s'.heap) (g' := s'.gens) (d' := s'.drawn) (t' := s'.toks) J hP (fun b u hb e => hm.heap b u (nwr b u e) (hk5 b u (k3 b u hb e)))
          (by rw [← em]; exact hm.heap P _ (nwr P _ hPs) (hk5 P _ hP3)) (AllBare.movedS (J.bare.push hgb) hm)
        rw [sh_eta t1 s' hm.os] at J2
        refine ⟨upd H1 P (.tbl (ps ++ more)), ⟨⟨ps ++ more, upd_same, by rw [← em]; exact htq⟩, fun b hb => upd_ne hb⟩, J2⟩
  cases hf : codeAmong gpos ps.toList with
  | none =>
    refine wpAny_genexprCodeX hcode (cd.code (up _ _ hPs) htr) (cd.tab (up _ _ hPs)) hf fun c' h' tk hx hge hlt hco' _ htab' _ => ?_
    obtain ⟨o1, vs, f1, tf, fl, tg, inF, tx, tt, op, _, _, _, _, _, _, _, _, _, hz, _⟩ := hco'
    exact go _ h' tk _ hx (Nat.le_trans hge (Nat.le_of_lt hlt)) htab'.2 ⟨_, rfl⟩ hz
  | some cv =>
    refine wpAny_genexprCode_hit hcode (cd.code (up _ _ hPs) htr) hf ?_
    exact go cv (t1.heap.push o) t1.toks ps (Heap.ExtBut.refl _ _) (Nat.le_refl _) (up _ _ hPs) ⟨#[], by simp⟩ htr
/-- all(test for x in e), the test one of the sign and of the text at the slot iy -/
def tAllC (P : Addr) (iy : Nat) (pf : Str → Nat → Bool) (te : TE) : TE := fun σ H Q => ∃ z, σ[iy]? = some (some (.str z)) ∧ te σ H fun v H1 => ∃ a : Str, v = .str a ∧ TabG H1 P ∧ ∀ H2, Tabbed P H1 H2 → Q (.bl (a.cps.toList.all (pf z))) H2
theorem pe_allC {y : Str} {iy : Nat} {c P : Addr} {elt iter : Expr} {x : Str} {px p pos gpos : Pos} {scope : Scope} {pf : Str → Nat → Bool} {te : TE} {k : Nat}
    (hr : Room k X.A) (B : Blt X.mg) (TB : TabB X.base X.mg c P) (hcode : X.env.code = .ref c) (S : GenS0 scope x) (hfr : freeOk scope X.env.scope = true) (hi : PE X iter te) (hel : EltC X.prog X.w X.mg scope x y elt pf)
    (hN : X.N[iy]? = some y) (hky : X.env.kindOf y = some .cell) (hcl : ∀ cs : List (Str × Addr), (cloFrom cs scope.names []).lookup y = some ((cs.lookup y).getD 0))
    (hs : ∀ v, genFold iter X.env v = pure v) (hg : Gl X "all" := by rfl)
    (he : starEach [.GeneratorExp elt [⟨.Name x px, iter, [], 0⟩] scope gpos] X.env = (false, eval (.GeneratorExp elt [⟨.Name x px, iter, [], 0⟩] scope gpos) X.env) :: starEach [] X.env := by rfl) :
    PE X (.Call (.Name "all" p) [.GeneratorExp elt [⟨.Name x px, iter, [], 0⟩] scope gpos] [] pos) (tAllC P iy pf te) := by
  refine ⟨fun pins s σ H Q I h => ?_⟩
  obtain ⟨z, hσ, h⟩ := h
  refine wpAny_Call_Name_kw (ld_blt I hg B.all (show bootBuiltins "all" = some (.builtin "all") by decide +kernel) ?_)
  refine PyProof.Rows.callWith_builtin1 ?_ he (by rfl)
  rw [he]
  show wpAny _ _ (spliced ((false, eval (.GeneratorExp elt [⟨.Name x px, iter, [], 0⟩] scope gpos) X.env) :: backTo pos (starEach [] X.env))) _ _ s
  refine Calls.spliced_cons (gen_mkC (R := fun a H1 => ∀ H2, Tabbed P H1 H2 → Q (.bl (a.cps.toList.all (pf z))) H2) hr TB hcode (S.all I.ok hfr) hi hel hN hky hcl hσ hs I h fun a H1 g t5 hR hG => ?_)
  obtain ⟨fp, wr, G, F, St, W, hst, htr, hI⟩ := hG
  refine Calls.spliced_nil (call_all_walkS (W.self 0 _ _ _ hst ⟨g, fp, wr, G, _, F, St, _, rfl, W, hst, htr, fun s' hmv => ?_⟩))
  obtain ⟨H2, hT, J⟩ := hI s' hmv
  refine ⟨.bl _, H2, J, rfl, ?_⟩
  rw [all_signs a (pf z)]
  exact hR H2 hT
end
/-- mark in marks -/
theorem elt_in {prog : Program} {w : World} {mg : Str → Option Value} {scope : Scope} {x y : Str} {q1 q2 q3 : Pos}
    (hk : scope.kind = .function) (hl : scope.names.lookup x = some .local) (hy : scope.names.lookup y = some .free) (hd : (x == ("__debug__" : Str)) = false := by decide) (hd2 : (y == ("__debug__" : Str)) = false := by decide) (hcd : (y == ("__classdict__" : Str)) = false := by decide) :
    EltC prog w mg scope x y (.Compare (.Name x q1) [.In] [.Name y q2] q3) (fun z c => decide (c ∈ z.cps.toList)) := by
  intro ce A' E' c t s2 m2 z tz cy hs hg hb nm hn hm hcy hic
  refine wpAny_Compare1 ?_
  refine wpAny_Name (wpAny_loadName_local (by rw [hs]; exact hk) (show ce.scope.names.lookup x = some .local by rw [hs]; exact hl) hn hm ?_) hd
  refine wpAny_Name (wpAny_loadName_free (by rw [hs]; exact hk) (show ce.scope.names.lookup y = some .free by rw [hs]; exact hy) hcy hic ?_ hcd) hd2
  exact PyProof.Rows.in_str ⟨by rw [PySem.StrLaws.found_one z c], keeps_tok _ _⟩
end SC
/-! what a part of a pattern matches (code 42: the star), and the search that takes the first place for each piece -/
namespace SC
open PySem L2
/-- some way to begin later -/
def mtS (f : List Nat → Bool) : List Nat → Bool
  | [] => f []
  | c :: s => f (c :: s) || mtS f s
def mt : List Nat → List Nat → Bool
  | [], s => s.isEmpty
  | c :: p, s => if c = 42 then mtS (mt p) s else match s with
    | [] => false
    | d :: s' => (c == d) && mt p s'
theorem mtS_iff (f : List Nat → Bool) : ∀ s : List Nat, mtS f s = true ↔ ∃ i, i ≤ s.length ∧ f (s.drop i) = true
  | [] => ⟨fun h => ⟨0, Nat.le_refl _, h⟩, fun ⟨i, hi, h⟩ => by
    have : i = 0 := by simpa using hi
    subst this; exact h⟩
  | c :: s => by
    show (f (c :: s) || mtS f s) = true ↔ _
    rw [Bool.or_eq_true, mtS_iff f s]
    constructor
    · rintro (h | ⟨i, hi, h⟩)
      · exact ⟨0, Nat.zero_le _, h⟩
      · exact ⟨i + 1, by simpa using hi, by simpa using h⟩
    · rintro ⟨i, hi, h⟩
      cases i with
      | zero => exact .inl h
      | succ i => exact .inr ⟨i, by simpa using hi, by simpa using h⟩
/-- b is a beginning of s -/
def pfx (b s : List Nat) : Bool := s.take b.length == b
theorem pfx_iff {b s : List Nat} : pfx b s = true ↔ ∃ r, s = b ++ r := by
  unfold pfx
  rw [beq_iff_eq]
  constructor
  · intro h
    exact ⟨s.drop b.length, by rw [← h]; rw [List.length_take]; rw [show min b.length s.length = b.length by
      have := congrArg List.length h; rw [List.length_take] at this; exact this]; exact (List.take_append_drop _ _).symm⟩
  · rintro ⟨r, rfl⟩
    exact List.take_left
theorem pfx_nil (s : List Nat) : pfx [] s = true := rfl
theorem pfx_cons (c d : Nat) (b s : List Nat) : pfx (c :: b) (d :: s) = ((c == d) && pfx b s) := by
  rw [Bool.eq_iff_iff, Bool.and_eq_true, pfx_iff, pfx_iff, beq_iff_eq]
  constructor
  · rintro ⟨r, h⟩
    obtain ⟨h1, h2⟩ := List.cons.inj h
    exact ⟨h1.symm, r, h2⟩
  · rintro ⟨rfl, r, rfl⟩
    exact ⟨r, rfl⟩
theorem pfx_len {b s : List Nat} (h : pfx b s = true) : b.length ≤ s.length := by
  obtain ⟨r, rfl⟩ := pfx_iff.mp h
  rw [List.length_append]; omega
theorem mt_lit : ∀ (b p s : List Nat), 42 ∉ b → mt (b ++ p) s = (pfx b s && mt p (s.drop b.length))
  | [], p, s, _ => by rw [pfx_nil, Bool.true_and]; rfl
  | c :: b, p, s, h => by
    have hc : ¬ c = 42 := fun e => h (by rw [e]; exact List.mem_cons_self)
    have hb : 42 ∉ b := fun e => h (List.mem_cons_of_mem _ e)
    show (if c = 42 then mtS (mt (b ++ p)) s else match s with | [] => false | d :: s' => (c == d) && mt (b ++ p) s') = _
    rw [if_neg hc]
    cases s with
    | nil => rfl
    | cons d s =>
      rw [pfx_cons]
      show ((c == d) && mt (b ++ p) s) = _
      rw [mt_lit b p s hb, Bool.and_assoc]
      rfl
theorem mt_plain {l s : List Nat} (h : 42 ∉ l) : mt l s = decide (s = l) := by
  have e := mt_lit l [] s h
  rw [List.append_nil] at e
  rw [e, Bool.eq_iff_iff, Bool.and_eq_true, pfx_iff, decide_eq_true_eq]
  constructor
  · rintro ⟨⟨r, rfl⟩, h2⟩
    have h2 : ((l ++ r).drop l.length).isEmpty = true := h2
    rw [List.drop_left] at h2
    have : r = [] := by simpa using h2
    rw [this, List.append_nil]
  · rintro rfl
    refine ⟨⟨[], by simp⟩, ?_⟩
    show (s.drop s.length).isEmpty = true
    simp
theorem mt_star (p s : List Nat) : mt (42 :: p) s = true ↔ ∃ i, i ≤ s.length ∧ mt p (s.drop i) = true := by
  show (if (42 : Nat) = 42 then mtS (mt p) s else _) = true ↔ _
  rw [if_pos rfl]
  exact mtS_iff _ s
theorem mt_mono {p s : List Nat} {a b : Nat} (hab : a ≤ b) (hb : b ≤ s.length) (h : mt (42 :: p) (s.drop b) = true) : mt (42 :: p) (s.drop a) = true := by
  rw [mt_star] at h ⊢
  obtain ⟨i, hi, h⟩ := h
  rw [List.length_drop] at hi
  refine ⟨(b - a) + i, by rw [List.length_drop]; omega, ?_⟩
  rw [List.drop_drop] at h ⊢
  rw [show a + ((b - a) + i) = b + i by omega]
  exact h
/-- the first place of b -/
def fnd (b : List Nat) : List Nat → Option Nat
  | [] => if pfx b [] then some 0 else none
  | c :: t => if pfx b (c :: t) then some 0 else (fnd b t).map (· + 1)
theorem fnd_some {b : List Nat} : ∀ {t : List Nat} {i : Nat}, fnd b t = some i → i ≤ t.length ∧ pfx b (t.drop i) = true ∧ ∀ j, j < i → pfx b (t.drop j) = false
  | [], i, h => by
    unfold fnd at h
    split at h
    · rename_i q; cases h; exact ⟨Nat.le_refl _, q, fun j hj => absurd hj (Nat.not_lt_zero _)⟩
    · cases h
  | c :: t, i, h => by
    unfold fnd at h
    split at h
    · rename_i q; cases h; exact ⟨Nat.zero_le _, q, fun j hj => absurd hj (Nat.not_lt_zero _)⟩
    · rename_i q
      cases e : fnd b t with
      | none => rw [e] at h; cases h
      | some k =>
        rw [e] at h
        cases h
        obtain ⟨h1, h2, h3⟩ := fnd_some e
        refine ⟨by simpa using h1, by simpa using h2, fun j hj => ?_⟩
        cases j with
        | zero => simpa using q
        | succ j =>
          have hj : j + 1 < k + 1 := hj
          simpa using h3 j (by omega)
theorem fnd_none {b : List Nat} : ∀ {t : List Nat}, fnd b t = none → ∀ j, j ≤ t.length → pfx b (t.drop j) = false
  | [], h, j, hj => by
    unfold fnd at h
    split at h
    · cases h
    · rename_i q
      have : j = 0 := by simpa using hj
      subst this; simpa using q
  | c :: t, h, j, hj => by
    unfold fnd at h
    split at h
    · cases h
    · rename_i q
      cases e : fnd b t with
      | some k => rw [e] at h; cases h
      | none =>
        cases j with
        | zero => simpa using q
        | succ j => simpa using fnd_none e j (by simpa using hj)
theorem fnd_first {b t : List Nat} {i : Nat} (h1 : i ≤ t.length) (h2 : pfx b (t.drop i) = true) (h3 : ∀ j, j < i → pfx b (t.drop j) = false) : fnd b t = some i := by
  cases e : fnd b t with
  | none => rw [fnd_none e i h1] at h2; cases h2
  | some k =>
    obtain ⟨_, q2, q3⟩ := fnd_some e
    rcases Nat.lt_trichotomy k i with h | h | h
    · rw [h3 k h] at q2; cases q2
    · rw [h]
    · rw [q3 i h] at h2; cases h2
/-- the pieces one behind the other, each at its first place -/
def gr : List (List Nat) → List Nat → Bool
  | [], _ => true
  | b :: bs, t => match fnd b t with
    | none => false
    | some i => gr bs (t.drop (i + b.length))
/-- l is an end of s -/
def sfx (l s : List Nat) : Bool := decide (l.length ≤ s.length) && (s.drop (s.length - l.length) == l)
theorem sfx_drop {l s : List Nat} {k : Nat} (hk : k ≤ s.length) (h : k + l.length ≤ s.length) : sfx l (s.drop k) = sfx l s := by
  unfold sfx
  rw [List.length_drop, decide_eq_true (show l.length ≤ s.length - k by omega), decide_eq_true (show l.length ≤ s.length by omega), List.drop_drop]
  rw [show k + (s.length - k - l.length) = s.length - l.length by omega]
theorem sfx_short {l s : List Nat} (h : s.length < l.length) : sfx l s = false := by
  unfold sfx
  rw [decide_eq_false (by omega), Bool.false_and]
theorem pfx_take {b s : List Nat} {m j : Nat} (hm : m ≤ s.length) : pfx b ((s.take m).drop j) = (decide (b.length ≤ m - j) && pfx b (s.drop j)) := by
  rw [List.drop_take]
  by_cases h : b.length ≤ m - j
  · rw [decide_eq_true h, Bool.true_and]
    unfold pfx
    rw [List.take_take, Nat.min_eq_left h]
  · rw [decide_eq_false h, Bool.false_and]
    cases e : pfx b ((s.drop j).take (m - j)) with
    | false => rfl
    | true =>
      have := pfx_len e
      rw [List.length_take] at this
      omega
theorem aft : ∀ (bs : List (List Nat)) (l s : List Nat), (∀ b ∈ bs, 42 ∉ b) → 42 ∉ l →
    mt (42 :: TL.joinL [42] (bs ++ [l])) s = (sfx l s && gr bs (s.take (s.length - l.length)))
  | [], l, s, _, hl => by
    show mt (42 :: l) s = (sfx l s && true)
    rw [Bool.and_true, Bool.eq_iff_iff, mt_star]
    unfold sfx
    rw [Bool.and_eq_true, decide_eq_true_eq, beq_iff_eq]
    constructor
    · rintro ⟨i, hi, h⟩
      rw [mt_plain hl, decide_eq_true_eq] at h
      have e := congrArg List.length h
      rw [List.length_drop] at e
      exact ⟨by omega, by rw [show s.length - l.length = i by omega]; exact h⟩
    · rintro ⟨h1, h2⟩
      exact ⟨s.length - l.length, by omega, by rw [mt_plain hl, decide_eq_true_eq]; exact h2⟩
  | b :: bs, l, s, hb, hl => by
    have hb0 : 42 ∉ b := hb b List.mem_cons_self
    have hbs : ∀ c ∈ bs, 42 ∉ c := fun c hc => hb c (List.mem_cons_of_mem _ hc)
    have ej : TL.joinL [42] ((b :: bs) ++ [l]) = b ++ (42 :: TL.joinL [42] (bs ++ [l])) := by
      cases bs with
      | nil => rfl
      | cons c r => rfl
    rw [ej]
    have ih := fun s => aft bs l s hbs hl
    have lhs : mt (42 :: (b ++ (42 :: TL.joinL [42] (bs ++ [l])))) s = true ↔ ∃ i, i ≤ s.length ∧ pfx b (s.drop i) = true ∧ mt (42 :: TL.joinL [42] (bs ++ [l])) (s.drop (i + b.length)) = true := by
      rw [mt_star]
      constructor
      · rintro ⟨i, hi, h⟩
        rw [mt_lit _ _ _ hb0, Bool.and_eq_true, List.drop_drop] at h
        exact ⟨i, hi, h.1, h.2⟩
      · rintro ⟨i, hi, h1, h2⟩
        refine ⟨i, hi, ?_⟩
        rw [mt_lit _ _ _ hb0, Bool.and_eq_true, List.drop_drop]
        exact ⟨h1, h2⟩
    rw [Bool.eq_iff_iff, lhs]
    cases e : fnd b s with
    | none =>
      have hn := fnd_none e
      refine ⟨fun ⟨i, hi, h1, _⟩ => (by rw [hn i hi] at h1; cases h1), fun h => ?_⟩
      rw [Bool.and_eq_true] at h
      have hg : (match fnd b (s.take (s.length - l.length)) with | none => false | some i => gr bs ((s.take (s.length - l.length)).drop (i + b.length))) = true := h.2
      cases e2 : fnd b (s.take (s.length - l.length)) with
      | none => rw [e2] at hg; cases hg
      | some i =>
        obtain ⟨q1, q2, _⟩ := fnd_some e2
        rw [pfx_take (by omega), Bool.and_eq_true] at q2
        rw [List.length_take] at q1
        rw [hn i (by omega)] at q2
        cases q2.2
    | some i0 =>
      obtain ⟨p1, p2, p3⟩ := fnd_some e
      have pl := pfx_len p2
      rw [List.length_drop] at pl
      have lhs2 : (∃ i, i ≤ s.length ∧ pfx b (s.drop i) = true ∧ mt (42 :: TL.joinL [42] (bs ++ [l])) (s.drop (i + b.length)) = true) ↔ mt (42 :: TL.joinL [42] (bs ++ [l])) (s.drop (i0 + b.length)) = true := by
        refine ⟨fun ⟨i, hi, h1, h2⟩ => ?_, fun h => ⟨i0, p1, p2, h⟩⟩
        have hle : i0 ≤ i := by
          rcases Nat.lt_or_ge i i0 with h | h
          · rw [p3 i h] at h1; cases h1
          · exact h
        have q := pfx_len h1
        rw [List.length_drop] at q
        exact mt_mono (by omega) (by omega) h2
      rw [lhs2, ih]
      by_cases hfit : i0 + b.length + l.length ≤ s.length
      · rw [sfx_drop (by omega) (by omega)]
        have e2 : fnd b (s.take (s.length - l.length)) = some i0 := by
          refine fnd_first (by rw [List.length_take]; omega) ?_ fun j hj => ?_
          · rw [pfx_take (by omega), decide_eq_true (by omega), Bool.true_and]; exact p2
          · rw [pfx_take (by omega), p3 j hj, Bool.and_false]
        show _ ↔ (sfx l s && (match fnd b (s.take (s.length - l.length)) with | none => false | some i => gr bs ((s.take (s.length - l.length)).drop (i + b.length)))) = true
        rw [e2]
        show _ ↔ (sfx l s && gr bs ((s.take (s.length - l.length)).drop (i0 + b.length))) = true
        rw [List.drop_take, List.length_drop, show s.length - (i0 + b.length) - l.length = s.length - l.length - (i0 + b.length) by omega]
      · rw [sfx_short (by rw [List.length_drop]; omega), Bool.false_and]
        refine ⟨fun h => (by cases h), fun h => ?_⟩
        rw [Bool.and_eq_true] at h
        have hg : (match fnd b (s.take (s.length - l.length)) with | none => false | some i => gr bs ((s.take (s.length - l.length)).drop (i + b.length))) = true := h.2
        cases e2 : fnd b (s.take (s.length - l.length)) with
        | none => rw [e2] at hg; cases hg
        | some i =>
          obtain ⟨q1, q2, _⟩ := fnd_some e2
          rw [pfx_take (by omega), Bool.and_eq_true, decide_eq_true_eq] at q2
          rw [List.length_take] at q1
          have hle : i0 ≤ i := by
            rcases Nat.lt_or_ge i i0 with h | h
            · rw [p3 i h] at q2; cases q2.2
            · exact h
          have hs : l.length ≤ s.length := by
            have := h.1
            unfold sfx at this
            rw [Bool.and_eq_true, decide_eq_true_eq] at this
            exact this.1
          omega
/-- the whole: a first piece, pieces between, a last one -/
theorem mt_parts {f l s : List Nat} {bs : List (List Nat)} (hf : 42 ∉ f) (hb : ∀ b ∈ bs, 42 ∉ b) (hl : 42 ∉ l) :
    mt (TL.joinL [42] (f :: (bs ++ [l]))) s = (decide (f.length + l.length ≤ s.length) && pfx f s && sfx l s && gr bs ((s.drop f.length).take (s.length - l.length - f.length))) := by
  have ej : TL.joinL [42] (f :: (bs ++ [l])) = f ++ (42 :: TL.joinL [42] (bs ++ [l])) := by
    cases bs with
    | nil => rfl
    | cons c r => rfl
  rw [ej, mt_lit _ _ _ hf, aft bs l _ hb hl]
  by_cases h : f.length + l.length ≤ s.length
  · rw [decide_eq_true h, Bool.true_and, sfx_drop (by omega) (by omega), List.length_drop, show s.length - f.length - l.length = s.length - l.length - f.length by omega, Bool.and_assoc]
  · rw [decide_eq_false h, Bool.false_and, Bool.false_and, Bool.false_and]
    cases e : pfx f s with
    | false => rfl
    | true =>
      have := pfx_len e
      rw [sfx_short (by rw [List.length_drop]; omega), Bool.false_and, Bool.and_false]
end SC
/-! the texts' own search, cut and ends, said over lists of codes; a, *b, c = a list -/
namespace SC
open PySem L2 PySem.StrLaws
theorem at_pfx (x y : Str) (i : Nat) : At x y x.length i ↔ (i ≤ x.length ∧ pfx (TL.tl y) ((TL.tl x).drop i) = true) := by
  have hx : x.length = (TL.tl x).length := TL.len_tl x
  have hy : y.length = (TL.tl y).length := TL.len_tl y
  unfold At
  rw [subAt_eq]
  show _ ∧ (((TL.tl x).drop i).take y.length == TL.tl y) = true ↔ _
  unfold pfx
  rw [hy]
  constructor
  · rintro ⟨h1, h2⟩
    exact ⟨by omega, h2⟩
  · rintro ⟨h1, h2⟩
    have e := congrArg List.length (beq_iff_eq.mp h2)
    rw [List.length_take, List.length_drop] at e
    exact ⟨by omega, h2⟩
theorem find_fnd (x y : Str) : Txt.find x y = match fnd (TL.tl y) (TL.tl x) with | some i => ((i : Nat) : Int) | none => -1 := by
  have hx : x.length = (TL.tl x).length := TL.len_tl x
  unfold Txt.find
  rcases occ_head x y 1 (Nat.le_refl _) with ⟨h, hn⟩ | ⟨i, r, h, ha, hn⟩
  · rw [h]
    have e : fnd (TL.tl y) (TL.tl x) = none := by
      cases e : fnd (TL.tl y) (TL.tl x) with
      | none => rfl
      | some k =>
        obtain ⟨h1, h2, _⟩ := fnd_some e
        exact absurd ((at_pfx x y k).mpr ⟨by omega, h2⟩) (hn k)
    rw [e]
  · rw [h]
    obtain ⟨h1, h2⟩ := (at_pfx x y i).mp ha
    have e : fnd (TL.tl y) (TL.tl x) = some i := fnd_first (by omega) h2 fun j hj => by
      cases q : pfx (TL.tl y) ((TL.tl x).drop j) with
      | false => rfl
      | true => exact absurd ((at_pfx x y j).mpr ⟨by omega, q⟩) (hn j hj)
    rw [e]
theorem starts_pfx (x y : Str) : Txt.startswith x y = pfx (TL.tl y) (TL.tl x) := by
  have hx : x.length = (TL.tl x).length := TL.len_tl x
  have hy : y.length = (TL.tl y).length := TL.len_tl y
  unfold Txt.startswith
  rw [subAt_eq, List.drop_zero]
  show (decide (0 + y.length ≤ x.length) && ((TL.tl x).take y.length == TL.tl y)) = _
  unfold pfx
  rw [hy]
  cases q : ((TL.tl x).take (TL.tl y).length == TL.tl y) with
  | false => rw [Bool.and_false]
  | true =>
    have e := congrArg List.length (beq_iff_eq.mp q)
    rw [List.length_take] at e
    rw [decide_eq_true (by omega)]; rfl
theorem ends_sfx (x y : Str) : Txt.endswith x y = sfx (TL.tl y) (TL.tl x) := by
  have hx : x.length = (TL.tl x).length := TL.len_tl x
  have hy : y.length = (TL.tl y).length := TL.len_tl y
  unfold Txt.endswith
  rw [subAt_eq]
  show (decide (0 + y.length ≤ x.length) && (((TL.tl x).drop (x.length - y.length)).take y.length == TL.tl y)) = _
  unfold sfx
  rw [hy, hx, Nat.zero_add]
  by_cases h : (TL.tl y).length ≤ (TL.tl x).length
  · rw [List.take_of_length_le (by rw [List.length_drop]; omega)]
  · rw [decide_eq_false h, Bool.false_and, Bool.false_and]
/-- cut at one sign -/
theorem spl_one (s : Nat) : ∀ (l acc : List Nat), s ∉ acc → ∃ p ps, TL.spl [s] 0 acc l = p :: ps ∧ TL.joinL [s] (p :: ps) = acc ++ l ∧ (∀ q ∈ p :: ps, s ∉ q) ∧ ps.length = l.count s
  | [], acc, h => ⟨acc, [], TL.spl_nil _ _ _, by simp [TL.joinL], fun q hq => by rw [List.mem_singleton.mp hq]; exact h, by simp⟩
  | c :: r, acc, h => by
    by_cases hc : c = s
    · subst hc
      have hp : TL.pre [c] (c :: r) = true := by show ((c :: r).take 1 == [c]) = true; simp
      obtain ⟨p, ps, e1, e2, e3, e4⟩ := spl_one c r [] (by simp)
      refine ⟨acc, p :: ps, by rw [TL.spl_hit hp]; show acc :: TL.spl [c] 0 [] r = _; rw [e1], ?_, fun q hq => ?_, ?_⟩
      · show acc ++ ([c] ++ TL.joinL [c] (p :: ps)) = _
        rw [e2]; simp
      · rcases List.mem_cons.mp hq with rfl | hq
        · exact h
        · exact e3 q hq
      · rw [List.length_cons, e4, List.count_cons_self]
    · have hp : TL.pre [s] (c :: r) = false := by
        show ((c :: r).take 1 == [s]) = false
        rw [beq_eq_false_iff_ne]
        intro e
        have e : [c] = [s] := e
        exact hc (List.cons.inj e).1
      obtain ⟨p, ps, e1, e2, e3, e4⟩ := spl_one s r (acc ++ [c]) (fun hm => by
        rcases List.mem_append.mp hm with hm | hm
        · exact h hm
        · exact hc (List.mem_singleton.mp hm).symm)
      refine ⟨p, ps, by rw [TL.spl_miss hp]; exact e1, by rw [e2, List.append_assoc]; rfl, e3, ?_⟩
      rw [e4, List.count_cons_of_ne (fun z => hc z)]
/-- cut at the sign c: the parts, joined, are the text again; no part has the sign -/
theorem split_one (x : Str) (c : Nat) (hc : c < 256) : ∃ p ps, (Txt.split x ⟨#[c]⟩).map TL.tl = p :: ps ∧ TL.joinL [c] (p :: ps) = TL.tl x ∧ (∀ q ∈ p :: ps, c ∉ q) ∧ ps.length = (TL.tl x).count c := by
  have e := TL.split_spl x ⟨#[c]⟩ (by show [c] ≠ []; simp) (TL.kind_ok (by simp [hc]))
  obtain ⟨p, ps, e1, e2, e3, e4⟩ := spl_one c (TL.tl x) [] (by simp)
  exact ⟨p, ps, by rw [e]; exact e1, by rw [e2, List.nil_append], e3, e4⟩
section
variable {X : Cx}
/-- f, *m, l = a list of at least two -/
def gStar (K : PySem.W.Frag) (t : TGs) : TG := fun v σ H Q => ∃ (a : Addr) (f l : V) (ms : List V), v = .ref a ∧ SqL K H a (f :: (ms ++ [l])) ∧ ms.length ≤ 10000 ∧ ∀ D, H D = none → t [f, .ref D, l] σ (upd H D (.lst ms)) Q
theorem pgs_star {e : Expr} {p : Pos} {es : List Expr} {t : TG} {u : TGs} (h1 : PG X e t) (h2 : PGs X es u) : PGs X (.Starred e p :: es) (gCons t u) := by
  refine ⟨fun pins s σ H vs us Q I r h => ?_⟩
  obtain ⟨v, vr, rfl, h⟩ := h
  cases r with
  | cons r rr =>
    refine PyProof.Rows.assignInOrder_cons (thn (h1.run pins s σ H _ _ _ I r h) fun _ s1 hq => ?_)
    obtain ⟨σ1, H1, I1, q1⟩ := hq
    exact h2.run pins s1 σ1 H1 _ _ Q I1 rr q1
theorem pg_star {e1 e2 e3 : Expr} {p2 pos : Pos} {k : Nat} {t : TGs} (hc : X.calm = true) (h : PGs X [e1, .Starred e2 p2, e3] t)
    (hn : (assignEach [e1, .Starred e2 p2, e3] X.env).length = 3 := by rfl) (hst : (assignEach [e1, .Starred e2 p2, e3] X.env).findIdx? (·.1) = some 1 := by rfl) : PG X (.Tuple [e1, .Starred e2 p2, e3] k pos) (gStar X.K t) := by
  refine ⟨fun pins s σ H v u Q I r hw => ?_⟩
  obtain ⟨a, f, l, ms, rfl, hq, hms, hw⟩ := hw
  cases r
  obtain ⟨its, rv, ht, hz⟩ := I.list hq
  have hl : s.heap.IsList a its.toArray := ht.isList
  have lim : sizeLine = 16777216 := sizeLine_eq
  cases rv with
  | cons rf rest =>
  rename_i uf ur
  obtain ⟨um, ul, hur, rm, rl⟩ : ∃ (um : List Value) (ul : Value), ur = um ++ [ul] ∧ Vals ms um ∧ RelV l ul := by
    clear hq hz ht hl hw hms
    induction ms generalizing ur with
    | nil =>
      cases rest with
      | cons r1 r2 =>
        cases r2
        exact ⟨[], _, rfl, .nil, r1⟩
    | cons m ms ih =>
      cases rest with
      | cons r1 r2 =>
        obtain ⟨um, ul, rfl, h1, h2⟩ := ih r2
        exact ⟨_ :: um, ul, rfl, .cons r1 h1, h2⟩
  subst hur
  have hml : um.length = ms.length := rm.length.symm
  have hne : a ≠ s.heap.objs.size := by obtain ⟨o, ho, _⟩ := hl; exact Nat.ne_of_lt (Heap.lt_size ho)
  rw [PyProof.Rows.assign_Tuple]
  refine wpAny_bind (wpAny_standAt ?_)
  unfold unpack
  rw [hn, hst]
  refine wpAny_bind (wpAny_holding ?_)
  unfold unpackItems
  refine wpAny_bind ?_
  unfold notIterableAtAll
  refine wpAny_bind (wpAny_specialOf hl.typeIs slot_list_iter.lookup (wpAny_pure ?_))
  simp only [Bool.false_eq_true, if_false]
  refine wpAny_bind (wpAny_holding (wpAny_pyIter_list hl ?_))
  refine wpAny_bind (wpAny_holding (PySem.W.kun_draw hne 1 0 _ _ ⟨_, Heap.get?_push_size _ rfl, rfl, rfl⟩ (hl.push _) (by simp) fun g1 hit same => ?_))
  have hl1 : g1.IsList a (uf :: (um ++ [ul])).toArray := (hl.push _).extBut same.extBut hne
  obtain ⟨oi, hoi, _⟩ := id hit
  obtain ⟨ol, hol, _⟩ := id hl1
  show wpAny _ _ (if ([uf] : List Value).length < 1 then _ else _) _ _ _
  rw [if_neg (by simp)]
  refine wpAny_bind (wpAny_holding (PySem.W.kun_collect (s := { s with heap := g1 }) (T := "list_iterator") (.inr (.inr (.inl rfl))) (Walks.list (A := X.A.in1) (I.ok.hd hc) s.heap.objs.size a hne (uf :: (um ++ [ul])).toArray) (fun j u st => st.1.typeIs) (k := 1) (by simp) ⟨hit, hl1⟩ (Heap.lt_size hoi) (Heap.lt_size hol) (fun g2 tk kp => ?_) (by simp; omega)))
  show wpAny _ _ (if (um ++ [ul]).length < 3 - 1 - 1 then _ else _) _ _ _
  rw [if_neg (by simp)]
  have kept : ∀ b o, s.heap.get? b = some o → g2.get? b = some o := fun b o e => kp b o (Nat.ne_of_lt (Heap.lt_size e)) (same.extBut b o (Nat.ne_of_lt (Heap.lt_size e)) (Heap.get?_push_of_some _ e))
  show wpAny _ _ (newList ((um ++ [ul]).take ((um ++ [ul]).length - (3 - 1 - 1))) >>= fun d => pure ([uf] ++ [d] ++ (um ++ [ul]).drop ((um ++ [ul]).length - (3 - 1 - 1)))) _ _ _
  rw [show (um ++ [ul]).length - (3 - 1 - 1) = um.length by simp, List.take_left, List.drop_left]
  have I1 : Inv X pins σ H { s with heap := g2, toks := tk } := I.kept (t' := tk) kept
  refine wpAny_bind (wpAny_newList (wpAny_pure ?_) (by omega))
  have hfree : H g2.objs.size = none := I1.hok.fresh (Nat.le_refl _)
  have J : Inv X pins σ (upd H g2.objs.size (.lst ms)) { s with heap := g2.push { cls := .type "list", data := .seq um.toArray }, toks := tk } :=
    I1.laid (t' := tk) (o := .lst ms) (fun b o q => Heap.get?_push_of_some _ q) (Nat.le_refl _) ⟨by omega, um, 0, rm, Heap.get?_push_size _ rfl⟩
  exact h.run pins _ σ _ [f, .ref g2.objs.size, l] _ Q J (.cons rf (.cons rfl (.cons rl .nil))) (hw _ hfree)
end
end SC
/-! a generator expression whose element is any expression of the layer (it may call the text's defs), walked by a built-in -/
namespace SC
open PySem PySem.Spec PyProof.Rows L2 GenW
open GxR (TabB TabG Tabbed inv_tab sh_eta)
theorem over_gen {A : Around} {elt : Expr} {gs : List Comprehension} {scope : Scope} {pos : Pos} {it acc : Value} {env : Env} : A.over (.compLoop (.GeneratorExp elt gs scope pos) 0 it acc env) [] = A.deeper env := by
  obtain ⟨hd, d, fr, gd, u⟩ := A
  simp [Around.over, Around.deeper, marksOver, frameCount, unitsOf, envsOf, guardsOf, pushEnvs, pushGuards, Code.envs, Code.env?, Code.isFrame, Code.guards, Code.isGuard, Code.weight, Code.frames, Code.isCreation, Code.isCaller, Code.cUnits]
/-- the frame of the generator, run from a built-in that X's body calls -/
def gxC (X : Cx) (N : List Str) (scope : Scope) (C : Addr) (code : Value) (fp : List Addr) (s4 : Shared) (H4 : Hp) : Cx where
  prog := X.prog
  w := X.w
  K := X.K
  mg := X.mg
  base := X.base
  A := X.A.in1.in1.deeper (genEnv scope (cloFrom X.env.cells scope.names []) C code builtinsNs X.env)
  N := N
  s_0 := s4
  H_0 := H4
  env := genEnv scope (cloFrom X.env.cells scope.names []) C code builtinsNs X.env
  outer := X.stack
  stack := genEnv scope (cloFrom X.env.cells scope.names []) C code builtinsNs X.env :: X.stack
  ex := fp
  fn := fun _ => false
  calm := true
  pn := []
  xe := fun _ _ => False
/-- what can be read off the scope -/
structure GnS (scope : Scope) : Prop where
  kind : scope.kind = .function
  co : scope.isCoroutine = false
  cell : ∀ y ∈ scope.names, y.2 ≠ .cell
  dot : scope.names.lookup (".0" : Str) = some NameKind.local
theorem gnOf {scope : Scope} (h : (match scope.kind with | .function => true | _ => false) && !scope.isCoroutine && (scope.names.all fun y => match y.2 with | .cell => false | _ => true) && (match scope.names.lookup (".0" : Str) with | some .local => true | _ => false) = true) : GnS scope := by
  simp only [Bool.and_eq_true, List.all_eq_true] at h
  obtain ⟨⟨⟨h1, h2⟩, h3⟩, h4⟩ := h
  refine ⟨?_, by simpa using h2, fun y hy e => ?_, ?_⟩
  · split at h1
    · assumption
    · cases h1
  · have := h3 y hy; rw [e] at this; cases this
  · split at h4
    · assumption
    · cases h4
/-- the slots behind the target's nt: captured names, with the slots of X that they have -/
def capOk (N : List Str) (nt : Nat) (fr : List Nat) (XN : List Str) (scope sc : Scope) : Bool :=
  decide (N.length = nt + fr.length) && (List.range fr.length).all fun j => match N[nt + j]?, fr[j]? with
    | some y, some i => XN[i]? == some y && (match scope.names.lookup y with | some .free => true | _ => false) && (match sc.names.lookup y with | some .cell => true | some .free => true | _ => false)
    | _, _ => false
def capSt (nt : Nat) (fr : List Nat) (σ : L2.St) : L2.St := List.replicate nt none ++ fr.map fun i => (σ[i]?).getD none
theorem clo_look {cells : List (Str × Addr)} {names : List (Str × NameKind)} {y : Str} (h : (y, NameKind.free) ∈ names) : (cloFrom cells names []).lookup y = some ((cells.lookup y).getD 0) := by
  obtain ⟨c, hc⟩ := mem_lookup (cloFrom_has (cells := cells) (acc := []) h)
  rcases cloFrom_mem (PySem.mem_of_lookup hc) with z | ⟨_, z⟩
  · cases z
  · rw [hc, z]
theorem clo_from {cells : List (Str × Addr)} {names : List (Str × NameKind)} {y : Str} {c : Addr} (h : (cloFrom cells names []).lookup y = some c) : (y, NameKind.free) ∈ names ∧ c = (cells.lookup y).getD 0 := by
  rcases cloFrom_mem (PySem.mem_of_lookup h) with z | z
  · cases z
  · exact z
section
variable {X : Cx} {pins : List (Addr × Obj)} {σ : L2.St} {H : Hp} {s : Shared}
/-- the generator's frame has been laid behind the state s4 -/
theorem gen_start {N : List Str} {nt : Nat} {fr : List Nat} {scope : Scope} {code it : Value} {fp : List Addr} {a : Addr} {go : Obj} {h' : Heap} {s5 : Shared} (hcalm : X.calm = true) (S : GnS scope) (hfr : freeOk scope X.env.scope = true) (hcap : capOk N nt fr X.N scope X.env.scope = true)
    (I : Inv X pins σ H s) (hf : ∀ b ∈ fp, FpOk X pins H b) (hlt : ∀ b ∈ fp, b < s.heap.objs.size) (hn : h'.Ns s.heap.objs.size (fun y => if y = ".0" then some it else none)) (hk : ∀ b o, s.heap.get? b = some o → s5.heap.get? b = some o)
    (hC : ∀ o, h'.get? s.heap.objs.size = some o → s5.heap.get? s.heap.objs.size = some o) (ho : s5.os = s.os) (hg : AllBare s5.gens) (hpa : s5.heap.get? a = some go) (ha : s.heap.objs.size < a) (hgo : ∀ v, go.data ≠ .cell v) :
    Inv (gxC X N scope s.heap.objs.size code fp s H) [(a, go)] (capSt nt fr σ) H s5 := by
  have ok := I.ok
  unfold capOk at hcap
  rw [Bool.and_eq_true, decide_eq_true_eq, List.all_eq_true] at hcap
  obtain ⟨hNl, hcap⟩ := hcap
  have cel : ∀ x c, (cloFrom X.env.cells scope.names []).lookup x = some c → X.env.cells.lookup x = some c := fun x c h => by
    obtain ⟨h1, h2⟩ := clo_from h
    unfold freeOk at hfr
    rw [List.all_eq_true] at hfr
    have q := hfr _ h1
    simp only at q
    have : X.env.kindOf x = some .cell ∨ X.env.kindOf x = some .free := by
      split at q
      · rename_i e; exact .inl e
      · rename_i e; exact .inr e
      · cases q
    obtain ⟨c0, h0⟩ := ok.has x this
    rw [h2, h0]; rfl
  have young : ∀ b o, X.base.get? b = some o → b ∉ fp := fun b o e hb => by
    rcases (hf b hb).2.2.2.1 with z | z
    · exact ok.noex b o e z
    · have := Heap.lt_size (ok.bs b o e).1
      exact absurd (Nat.lt_of_lt_of_le this z) (Nat.lt_irrefl _)
  have lt0 : ∀ b o, s.heap.get? b = some o → b < s.heap.objs.size := fun b o e => Heap.lt_size e
  refine ⟨⟨ok.mod, S.kind, ok.glob, rfl, Nat.le_refl _, fun x y c h1 h2 => ok.inj x y c (cel x c h1) (cel y c h2), fun x hx => ?_, fun x c h => (nomatch h), fun _ => ok.hd hcalm, Around.frames_deeper ok.frames, .inr ⟨rfl, rfl⟩, fun b hb => ?_, fun b o e => I.bs b o e, Nat.le_trans ok.bsz I.sz, young, fun b hb z => ?_, I.stack, I.stkFree⟩,
    ho, hg, Un.kept hk, ⟨_, hn.at' hC, fun i y v e1 e2 e3 => ?_⟩, fun x c h => ?_, I.hok.fresh (Nat.le_refl _), fun x c h => I.freeC x c (cel x c h), fun p hp => ?_, I.hok.kept hk, ?_⟩
  · have hx : scope.names.lookup x = some .cell ∨ scope.names.lookup x = some .free := hx
    rcases hx with hx | hx
    · exact absurd rfl (S.cell _ (PySem.mem_of_lookup hx))
    · exact ⟨_, clo_look (PySem.mem_of_lookup hx)⟩
  · refine ⟨Nat.ne_of_lt (hlt b hb), fun x c h => (hf b hb).2.2.2.2.1 x c (cel x c h)⟩
  · rcases List.mem_cons.mp (I.stkSub b z) with y | y
    · exact (hf b hb).2.1 y
    · exact (hf b hb).2.2.1 y
  · have hi : i < N.length := (List.getElem?_eq_some_iff.mp e1).1
    unfold capSt at e2
    by_cases hi2 : i < nt
    · rw [List.getElem?_append_left (by simpa using hi2), List.getElem?_replicate] at e2
      split at e2 <;> cases e2
    · obtain ⟨j, rfl⟩ : ∃ j, i = nt + j := ⟨i - nt, by omega⟩
      have hj : j < fr.length := by omega
      rw [List.getElem?_append_right (by simp), List.length_replicate, show nt + j - nt = j by omega, List.getElem?_map] at e2
      have q := hcap j (List.mem_range.mpr hj)
      rw [show N[nt + j]? = some y from e1, List.getElem?_eq_getElem hj] at q
      rw [List.getElem?_eq_getElem hj] at e2
      simp only [Bool.and_eq_true, beq_iff_eq] at q
      obtain ⟨⟨q1, q2⟩, q3⟩ := q
      have e2 : (σ[fr[j]]?).getD none = some v := Option.some.inj e2
      have e4 : σ[fr[j]]? = some (some v) := by
        cases z : σ[fr[j]]? with
        | none => rw [z] at e2; cases e2
        | some w => rw [z] at e2; exact congrArg some e2
      obtain ⟨m, _, hl⟩ := I.loc
      have kd : X.env.kindOf y = some .cell ∨ X.env.kindOf y = some .free := by
        split at q3
        · rename_i z; exact .inl z
        · rename_i z; exact .inr z
        · cases q3
      have kf : scope.names.lookup y = some .free := by
        split at q2
        · assumption
        · cases q2
      obtain ⟨u, ru, lk⟩ := hl _ y v q1 e4 (by rcases kd with z | z; exact .inr (.inl z); exact .inr (.inr z))
      refine ⟨u, ru, .inr ⟨.inr kf, ?_⟩⟩
      obtain ⟨c, hc, hcc⟩ : ∃ c, X.env.cells.lookup y = some c ∧ s.heap.IsCell c (some u) := by
        rcases lk with ⟨z, _⟩ | ⟨_, c, h1, h2⟩
        · rcases kd with w | w <;> rw [z] at w <;> cases w
        · exact ⟨c, h1, h2⟩
      refine ⟨c, ?_, ?_⟩
      · show (cloFrom X.env.cells scope.names []).lookup y = some c
        rw [clo_look (PySem.mem_of_lookup kf), hc]; rfl
      · obtain ⟨oc, hoc, hd⟩ := hcc
        exact ⟨oc, hk _ _ hoc, hd⟩
  · obtain ⟨v, oc, hoc, hd⟩ := I.cell x c (cel x c h)
    exact ⟨v, oc, hk _ _ hoc, hd⟩
  · have e : p = (a, go) := List.mem_singleton.mp hp
    subst e
    refine ⟨hpa, I.hok.fresh (Nat.le_of_lt ha), Nat.ne_of_gt ha, fun z => ?_, hgo⟩
    rcases List.mem_cons.mp (I.stkSub a z) with y | y
    · have := I.lt
      rw [← y] at this
      exact absurd (Nat.lt_trans this ha) (Nat.lt_irrefl _)
    · exact I.nofs (Nat.le_of_lt ha) y
  · unfold capSt
    rw [List.length_append, List.length_replicate, List.length_map]
    exact hNl.symm
end
/-- between two turns: what the consumer keeps for itself at the addresses of Sx may have turned, all else stands -/
structure Sl (Sx : List Addr) (s s' : Shared) : Prop where
  os : s'.os = s.os
  bare : AllBare s'.gens
  keep : ∀ b o, b ∉ Sx → s.heap.get? b = some o → s'.heap.get? b = some o
/-- the consumer's own objects, as they stand -/
def Cp (Sx : List Addr) (cp : List (Addr × Obj)) : Prop := cp.map (·.1) = Sx
theorem Inv.slept {X : Cx} {p0 cp cp' : List (Addr × Obj)} {σ : L2.St} {H : Hp} {s s' : Shared} {Sx : List Addr} (I : Inv X (p0 ++ cp) σ H s) (hc : Cp Sx cp) (hy : ∀ b ∈ Sx, X.s_0.heap.objs.size ≤ b ∧ (∀ x c, X.env.cells.lookup x = some c → c ≠ b)) (h0 : ∀ p ∈ X.pn ++ p0, p.1 ∉ Sx) (z : Sl Sx s s')
    (hc' : Cp Sx cp') (hv : ∀ p ∈ cp', s'.heap.get? p.1 = some p.2 ∧ ∀ v, p.2.data ≠ .cell v) : Inv X (p0 ++ cp') σ H s' := by
  have at_ : ∀ b ∈ Sx, ∃ p ∈ cp, p.1 = b := fun b hb => by
    rw [← hc] at hb
    obtain ⟨p, hp, e⟩ := List.mem_map.mp hb
    exact ⟨p, hp, e⟩
  have pf : ∀ b ∈ Sx, s.heap.get? b ≠ none ∧ H b = none ∧ b ≠ X.env.locals ∧ b ∉ X.fs := fun b hb => by
    obtain ⟨p, hp, rfl⟩ := at_ b hb
    obtain ⟨q1, q2, q3, q4, _⟩ := I.pin p (List.mem_append_right _ (List.mem_append_right _ hp))
    exact ⟨by rw [q1]; simp, q2, q3, q4⟩
  have I0 : Inv X p0 σ H s := I.pins_of fun p hp => I.pin p (List.mem_append_right _ (List.mem_append_left _ hp))
  obtain ⟨h', g', d', t', o'⟩ := s'
  obtain ⟨z1, z2, z3⟩ := z
  have z1 : o' = s.os := z1
  subst z1
  have nt : ∀ b u, H b = some u → b ∉ Sx := fun b u e hb => by rw [(pf b hb).2.1] at e; cases e
  have ex : ∀ b ∈ Sx, ∃ o, h'.get? b = some o := fun b hb => by
    rw [← hc'] at hb
    obtain ⟨p, hp, e⟩ := List.mem_map.mp hb
    exact ⟨p.2, by rw [← e]; exact (hv p hp).1⟩
  have J : Inv X p0 σ H { s with heap := h', gens := g', drawn := d', toks := t' } := by
    refine I0.step (g' := g') (t' := t') (d' := d') (ch := Sx) (fun b hb => ⟨.inr (hy b hb).1, (pf b hb).2.2.1, (hy b hb).2, fun p hp e => h0 p hp (by rw [e]; exact hb)⟩)
      (fun b ob _ _ hc q _ => z3 b ob hc q) (fun b ob _ _ hc q _ => ⟨ob.slots, z3 b ob hc q⟩) (fun _ _ _ _ n => n) (fun b ob hc q => ⟨ob, z3 b ob hc q⟩)
      (fun _ _ q => q) (fun _ _ _ q => q) (fun b ps q => ⟨#[], by rw [q]; simp⟩) (fun m hm => ?_) (fun b u q => ?_) z2
    · obtain ⟨ob, es, ep, ho, r⟩ := hm
      exact ⟨ob, es, ep, z3 _ ob (fun hb => (pf _ hb).2.2.1 rfl) ho, r⟩
    · refine (I0.hok b u q).stay (fun c v hc y => z3 c v ?_ y) (fun _ y => y) fun _ _ y => y
      rcases hc with y | y
      · rw [y]; exact nt b u q
      · exact nt c _ y
  refine J.pins_of fun p hp => ?_
  rcases List.mem_append.mp hp with hp | hp
  · exact J.pin p (List.mem_append_right _ hp)
  · have hb : p.1 ∈ Sx := by rw [← hc']; exact List.mem_map.mpr ⟨p, hp, rfl⟩
    obtain ⟨_, q2, q3, q4⟩ := pf _ hb
    exact ⟨(hv p hp).1, q2, q3, q4, (hv p hp).2⟩
/-- the turns: W before a turn (its number, a measure, the consumer's objects), B what the consumer gets, Dn the end -/
def GTurns (J : It) (g : TG) (tt : TT) (te : TE) (W : Nat → Nat → List (Addr × Obj) → L2.St → Hp → Prop) (B : Nat → Nat → List (Addr × Obj) → V → L2.St → Hp → Prop) (Dn : List (Addr × Obj) → L2.St → Hp → Prop) : Prop :=
  ∀ i m cp σ H, W i m cp σ H → (J.stop i H ∧ Dn cp σ H) ∨ (J.go i H ∧ ∃ (Bt : V → L2.St → Hp → Prop) (Nt : L2.St → Hp → Prop), (∀ y σ' H', Bt y σ' H' → B i m cp y σ' H') ∧ (∀ σ' H', Nt σ' H' → ∃ m', m' < m ∧ W (i + 1) m' cp σ' H') ∧
    ∀ x H', J.yld i H x H' → g x σ H' fun σ2 H2 => tt σ2 H2 fun b H3 => if b = true then te σ2 H3 (fun y H4 => Bt y σ2 H4) else Nt σ2 H3)
/-- an item is handed out -/
def YG (X : Cx) (go : Addr × Obj) (Sx : List Addr) (W : Nat → Nat → List (Addr × Obj) → L2.St → Hp → Prop) (B : Nat → Nat → List (Addr × Obj) → V → L2.St → Hp → Prop) : Protocol := fun n s₀ v s kap =>
  ∃ i m cp y σ H, Cp Sx cp ∧ (∀ p ∈ cp, s₀.heap.get? p.1 = some p.2) ∧ RelV y v ∧ Inv X (go :: cp) σ H s ∧ B i m cp y σ H ∧ m ≤ n ∧ ∀ s' m' cp', Sl Sx s s' → Cp Sx cp' → (∀ p ∈ cp', s'.heap.get? p.1 = some p.2 ∧ ∀ v, p.2.data ≠ .cell v) → m' < m → W (i + 1) m' cp' σ H → kap (.send .none) s'
def RG (X : Cx) (go : Addr × Obj) (Sx : List Addr) (Dn : List (Addr × Obj) → L2.St → Hp → Prop) : Nat → Shared → Shared → Prop := fun _ s₀ s => ∃ cp σ H, Cp Sx cp ∧ (∀ p ∈ cp, s₀.heap.get? p.1 = some p.2) ∧ Inv X (go :: cp) σ H s ∧ Dn cp σ H
section
variable {Y : Cx} {A : Around} {go : Addr × Obj} {Sx fp : List Addr} {it : Addr} {tn : Nat → Heap → Prop} {J : It} {tg elt iter : Expr} {ifs : List Expr} {scope : Scope} {gpos : Pos} {g : TG} {tt : TT} {te : TE} {W : Nat → Nat → List (Addr × Obj) → L2.St → Hp → Prop} {B : Nat → Nat → List (Addr × Obj) → V → L2.St → Hp → Prop} {Dn : List (Addr × Obj) → L2.St → Hp → Prop}
theorem seg_turns (hA : Y.A = A.deeper Y.env) (hxe : ∀ e s, Y.xe e s → False) (hcalm : Y.calm = true) (T : Turn Y.prog Y.w Y.K tg J fp it tn) (hg : PG Y tg g) (ht : PTs Y ifs tt) (he : PE Y elt te) (hco : Y.env.scope.isCoroutine = false) (turn : GTurns J g tt te W B Dn)
    (stat : ∀ (cp : List (Addr × Obj)) (H : Hp), Cp Sx cp → (∀ b ∈ fp, H b = none) → ∀ b ∈ fp, FpOk Y (go :: cp) H b) (hy : ∀ b ∈ Sx, Y.s_0.heap.objs.size ≤ b ∧ (∀ x c, Y.env.cells.lookup x = some c → c ≠ b)) (h0 : ∀ p ∈ Y.pn ++ [go], p.1 ∉ Sx) (hfs : ∀ b ∈ fp, b ∉ Sx) :
    ∀ (m n i : Nat) (s₀ s : Shared) (σ : L2.St) (H : Hp) (cp : List (Addr × Obj)), m < n → Cp Sx cp → (∀ p ∈ cp, s₀.heap.get? p.1 = some p.2) → Inv Y (go :: cp) σ H s → tn i s.heap → (∀ b ∈ fp, H b = none) → W i m cp σ H →
      Seg (model Y.prog Y.w) A (fun n s₀ r s₁ => r = .ok .next ∧ RG Y go Sx Dn n s₀ s₁) (YG Y go Sx W B) n s₀
        (.compLoop (.GeneratorExp elt [⟨tg, iter, ifs, 0⟩] scope gpos) 0 (.ref it) .none Y.env) ((model Y.prog Y.w).den (.compLoop (.GeneratorExp elt [⟨tg, iter, ifs, 0⟩] scope gpos) 0 (.ref it) .none Y.env)) [] s := by
  intro m
  induction m using Nat.strongRecOn with
  | ind m ih =>
    intro n i s₀ s σ H cp hmn hcp hs0 I st fr w
    show Seg _ A _ _ n s₀ _ ((compTurn (.GeneratorExp elt [⟨tg, iter, ifs, 0⟩] scope gpos) 0 (.ref it) .none Y.env).onRaise _) [] s
    rw [compTurn_gen, Sem.onRaise_eq_wrap]
    refine seg_bind_wrap (wpAny_standAt ?_)
    rcases turn i m cp σ H w with ⟨stop, dn⟩ | ⟨goes, Bt, Nt, hBt, hNt, step⟩
    · refine seg_bind_wrap ?_
      rw [over_gen, ← hA]
      refine thn (T.done Y rfl rfl rfl hcalm i (go :: cp) s σ H _ I (stat cp H hcp fr) st stop) fun r s4 ⟨hr, I4⟩ => ?_
      subst hr
      exact seg_end (.ok .next) ⟨rfl, cp, σ, H, hcp, hs0, I4, dn⟩
    · refine seg_bind_wrap ?_
      rw [over_gen, ← hA]
      refine thn (T.item Y rfl rfl rfl hcalm i (go :: cp) s σ H _ I (stat cp H hcp fr) st goes) fun r s4 ⟨u, hr, h4⟩ => ?_
      subst hr
      refine seg_bind_wrap ?_
      rw [over_gen, ← hA]
      refine thn h4 fun _ s5 ⟨x, H5, I5, r5, y5, st5, fr5⟩ => ?_
      have I5' := I5.pinned (stat cp H5 hcp fr5) (T.obj _ _ st5)
      refine seg_bind_wrap ?_
      rw [over_gen, ← hA]
      refine wpAny_mono (hg.run _ s5 σ H5 x u _ I5' r5 (step x H5 y5)) (fun _ s6 ⟨σ6, H6, I6, q6⟩ => ?_) fun _ _ z => (hxe _ _ z).elim
      refine seg_bind_wrap ?_
      rw [over_gen, ← hA]
      refine wpAny_mono (ht.run _ s6 σ6 H6 _ I6 q6) (fun ok s7 ⟨H7, I7, q7⟩ => ?_) fun _ _ z => (hxe _ _ z).elim
      have turned : ∀ {σ8 : L2.St} {H8 : Hp} {s8 : Shared}, Inv Y ((go :: cp) ++ pinsAt fp s5.heap) σ8 H8 s8 → tn (i + 1) s8.heap ∧ (∀ b ∈ fp, H8 b = none) ∧ Inv Y (go :: cp) σ8 H8 s8 := fun {σ8 H8 s8} I8 =>
        ⟨T.keep _ _ _ st5 fun b hb o e => (I8.pin (b, o) (List.mem_append_right _ (List.mem_append_right _ (mem_pinsAt hb e)))).1, fun b hb => by
          obtain ⟨o, e, d⟩ := T.obj _ _ st5 b hb
          exact (I8.pin (b, o) (List.mem_append_right _ (List.mem_append_right _ (mem_pinsAt hb e)))).2.1, I8.unpinned⟩
      cases ok with
      | false =>
        rw [if_neg Bool.false_ne_true] at q7
        obtain ⟨m', hm', w'⟩ := hNt _ _ q7
        simp only [Bool.false_eq_true, if_false]
        obtain ⟨t1, t2, t3⟩ := turned I7
        exact seg_again rfl (ih m' hm' n (i + 1) s₀ _ _ _ cp (by omega) hcp hs0 t3 t1 t2 w')
      | true =>
        rw [if_pos rfl] at q7
        simp only [if_true]
        have hyo : ∀ v, yieldOut Y.env v = yieldValue v := fun v => by simp only [yieldOut, hco, Bool.false_eq_true, if_false]
        simp only [hyo]
        rw [Sem.bind_eq_wrap', Sem.bind_eq_wrap', Sem.wrap_wrap, Sem.wrap_wrap]
        refine seg_wrap ?_
        rw [over_gen, ← hA]
        refine wpAny_mono (he.run _ s7 σ6 H7 _ I7 q7) (fun v s8 ⟨y, H8, I8, r8, q8⟩ => ?_) fun _ _ z => (hxe _ _ z).elim
        obtain ⟨n, rfl⟩ : ∃ k, n = k + 1 := ⟨n - 1, by omega⟩
        obtain ⟨t1, t2, t3⟩ := turned I8
        refine seg_at (seg_yield rfl rfl rfl ⟨i, m, cp, y, σ6, H8, hcp, hs0, r8, t3, hBt _ _ _ q8, by omega, fun s' m' cp' z hcp' hv hm' w' => ?_⟩)
        have I9 := Inv.slept (p0 := [go]) t3 hcp hy h0 z hcp' hv
        refine seg_again rfl (ih m' hm' n (i + 1) s' s' _ _ cp' (by omega) hcp' (fun p hp => (hv p hp).1) I9 (T.keep _ _ _ t1 fun b hb o e => z.keep b o (hfs b hb) e) t2 w')
theorem seg_turns0 (hA : Y.A = A.deeper Y.env) (hxe : ∀ e s, Y.xe e s → False) (hcalm : Y.calm = true) (T : Turn Y.prog Y.w Y.K tg J fp it tn) (hg : PG Y tg g) (ht : PTs Y ifs tt) (he : PE Y elt te) (hco : Y.env.scope.isCoroutine = false) (turn : GTurns J g tt te W B Dn)
    (stat : ∀ (cp : List (Addr × Obj)) (H : Hp), Cp Sx cp → (∀ b ∈ fp, H b = none) → ∀ b ∈ fp, FpOk Y (go :: cp) H b) (hy : ∀ b ∈ Sx, Y.s_0.heap.objs.size ≤ b ∧ (∀ x c, Y.env.cells.lookup x = some c → c ≠ b)) (h0 : ∀ p ∈ Y.pn ++ [go], p.1 ∉ Sx) (hfs : ∀ b ∈ fp, b ∉ Sx)
    {m n : Nat} {s₀ s : Shared} {σ : L2.St} {H : Hp} {cp : List (Addr × Obj)} (hmn : m < n) (hcp : Cp Sx cp) (hs0 : ∀ p ∈ cp, s₀.heap.get? p.1 = some p.2) (I : Inv Y (go :: cp) σ H s) (st : tn 0 s.heap) (fr : ∀ b ∈ fp, H b = none) (w : W 0 m cp σ H) :
      Seg (model Y.prog Y.w) A (fun n s₀ r s₁ => r = .ok .next ∧ RG Y go Sx Dn n s₀ s₁) (YG Y go Sx W B) n s₀
        (.compStart (.GeneratorExp elt [⟨tg, iter, ifs, 0⟩] scope gpos) 0 (.ref it) .none Y.env) ((model Y.prog Y.w).den (.compStart (.GeneratorExp elt [⟨tg, iter, ifs, 0⟩] scope gpos) 0 (.ref it) .none Y.env)) [] s := by
  have loop := seg_turns (iter := iter) (scope := scope) (gpos := gpos) hA hxe hcalm T hg ht he hco turn stat hy h0 hfs m n 0 s₀ s σ H cp hmn hcp hs0 I st fr w
  show Seg _ A _ _ _ s₀ _ ((compStart (.GeneratorExp elt [⟨tg, iter, ifs, 0⟩] scope gpos) 0 (.ref it) .none Y.env).onRaise _) [] s
  unfold compStart
  rw [Sem.onRaise_eq_wrap]
  show Seg _ A _ _ _ s₀ _ ((ask >>= _).wrap _ _ _ _) [] s
  refine seg_bind_wrap (wpAny_askSetting ?_)
  split
  · exact seg_again rfl loop
  · first
      | exact seg_bind_wrap (wpAny_rule (seg_bind_wrap (wpAny_standAt (seg_bind_wrap (T.self _ 0 s _ _ st (seg_again rfl loop))))))
      | (refine seg_bind_wrap (wpAny_rule ?_); show Seg _ A _ _ _ s₀ _ ((standAt iter.pos >>= _).wrap _ _ _ _) [] s; exact seg_bind_wrap (wpAny_standAt (seg_bind_wrap (T.self _ 0 s _ _ st (seg_again rfl loop)))))
theorem inv_kept {X : Cx} {pins : List (Addr × Obj)} {σ : L2.St} {H : Hp} {s s' : Shared} (I : Inv X pins σ H s) (ho : s'.os = s.os) (hg : AllBare s'.gens) (k : ∀ b o, s.heap.get? b = some o → s'.heap.get? b = some o) : Inv X pins σ H s' :=
  I.call' (ch := []) ho (Un.kept k) (I.hok.kept k) hg fun b z => absurd z (by simp)
/-- the generator at go, its number gi, sleeps -/
structure Asl (Y : Cx) (A : Around) (go : Addr × Obj) (gi : Nat) (Sx : List Addr) (W : Nat → Nat → List (Addr × Obj) → L2.St → Hp → Prop) (B : Nat → Nat → List (Addr × Obj) → V → L2.St → Hp → Prop) (Dn : List (Addr × Obj) → L2.St → Hp → Prop) (n : Nat) (s : Shared) : Prop where
  gen : s.heap.IsGen go.1 gi
  nl : s.heap.NoLimit
  gs : ∃ gs, s.gens[gi]? = some gs ∧ gs.Goes (model Y.prog Y.w) A (fun n s₀ r s₁ => r = .ok .next ∧ RG Y go Sx Dn n s₀ s₁) (YG Y go Sx W B) n (.send .none) (s.setGen gi .running)
/-- one step of it -/
theorem next_gen {gi n : Nat} {C : Around} {E : Value → Shared → Prop} {Q : Option Value → Shared → Prop} {s : Shared} (hh : C.handled = none) (hroom : C.depth < recursionLimit) (hgo : ∀ h : Heap, h.get? go.1 = some go.2 → h.IsGen go.1 gi) (a : Asl Y C.in1 go gi Sx W B Dn n s)
    (hY : ∀ (i m : Nat) cp y v σ H s', Cp Sx cp → (∀ p ∈ cp, s.heap.get? p.1 = some p.2) → RelV y v → Inv Y (go :: cp) σ H s' → B i m cp y σ H → (∀ s'' cp', Sl Sx s' s'' → s''.gens = s'.gens → Cp Sx cp' → (∀ p ∈ cp', s''.heap.get? p.1 = some p.2 ∧ ∀ v, p.2.data ≠ .cell v) → s''.heap.get? go.1 = some go.2 → s''.heap.NoLimit → ∀ m', m' < m → W (i + 1) m' cp' σ H → ∃ k, k < n ∧ Asl Y C.in1 go gi Sx W B Dn k s'') → Q (some v) s')
    (hD : ∀ cp σ H s', Cp Sx cp → (∀ p ∈ cp, s.heap.get? p.1 = some p.2) → Inv Y (go :: cp) σ H s' → Dn cp σ H → Q none s') : wpAny (model Y.prog Y.w) C (pyNext (.ref go.1)) Q E s := by
  obtain ⟨ag, al, gs, hgs, hgoes⟩ := a
  have hgl : gi < s.gens.size := (Array.getElem?_eq_some_iff.mp hgs).1
  refine wpAny_gsz (n := gi + 1) hgl (wpAny_pyNext_genexpQ (P := RG Y go Sx Dn) hh al hroom ag hgs hgoes (fun v s₁ gs' hbare hv => ?_) fun s₁ hp h' hk => ?_)
  · intro hsz
    obtain ⟨i, m, cp, y, σ, H, hcp, hs0, rv, I, hB, hmn, kap⟩ := hv
    have hsz1 : gi < s₁.gens.size := by
      have q : (s₁.setGen gi gs').gens.size = s₁.gens.size := setGen_size _ _ _
      have hsz' : gi + 1 ≤ (s₁.setGen gi gs').gens.size := hsz
      omega
    have I2 : Inv Y (go :: cp) σ H (s₁.setGen gi gs') := inv_kept I rfl (allBare_setGen I.bare hbare) fun _ _ e => e
    refine hY i m cp y v σ H _ hcp hs0 rv I2 hB fun s'' cp' z hgens hcp' hv hgo' hnl m' hm' w' => ?_
    have kk := kap (s''.setGen gi .running) m' cp' ⟨z.os, allBare_setGen z.bare rfl, fun b o hb e => z.keep b o hb e⟩ hcp' hv hm' w'
    cases n with
    | zero => exact False.elim kk
    | succ n => exact ⟨n, Nat.lt_succ_self n, hgo _ hgo', hnl, gs', by rw [hgens]; exact setGen_at hsz1, kk⟩
  · intro hsz
    obtain ⟨cp, σ, H, hcp, hs0, I, dn⟩ := hp
    exact hD cp σ H _ hcp hs0 (inv_kept I rfl (allBare_setGen I.bare rfl) hk) dn
/-- all(..) walks it -/
theorem all_loop_gen {gi : Nat} {A : Around} {R : Result → Shared → Prop} {Fl : L2.St → Hp → Prop} (hh : A.handled = none) (hroom : A.depth < recursionLimit) (hgo : ∀ h : Heap, h.get? go.1 = some go.2 → h.IsGen go.1 gi)
    (hB : ∀ i m cp y σ H, B i m cp y σ H → ∃ b, y = .bl b ∧ if b = true then ∃ m', m' < m ∧ W (i + 1) m' [] σ H else Fl σ H)
    (hF : ∀ pins σ H s, Inv Y pins σ H s → Fl σ H → R (.ok (.ret (.bool false))) s) (hT : ∀ pins σ H s cp, Inv Y pins σ H s → Dn cp σ H → R (.ok (.ret (.bool true))) s) :
    ∀ (n : Nat) (s : Shared), Asl Y A.in1.in1 go gi [] W B Dn n s → codeAny (model Y.prog Y.w) A (.builtin "all.loop" ⟨[.ref go.1], []⟩) R s := by
  intro n
  induction n using Nat.strongRecOn with
  | ind n ih =>
    intro s a
    refine codeAny_builtin F.entry_all_loop ?_
    rw [Around.under_plainId F.plain_all_loop _]
    show wpAny _ A.in1 (pyNext (.ref go.1) >>= _) _ _ s
    refine wpAny_bind (next_gen (C := A.in1) hh hroom hgo a (fun i m cp y v σ H s' hcp _ rv I hb again => ?_) fun cp σ H s' hcp _ I dn => ?_)
    · obtain ⟨b, rfl, hb'⟩ := hB i m cp y σ H hb
      obtain rfl : v = .bool b := rv
      refine wpAny_bind (wpAny_holding (wpAny_truthy_bool ?_))
      refine wpAny_bind (wpAny_letGo ?_)
      cases b with
      | true =>
        rw [if_pos rfl] at hb'
        obtain ⟨m', hm', w'⟩ := hb'
        simp only [if_true]
        have e0 : cp = [] := by
          have := congrArg List.length hcp
          rw [List.length_map] at this
          exact List.eq_nil_of_length_eq_zero this
        obtain ⟨k, hk, ak⟩ := again s' [] ⟨rfl, I.bare, fun _ _ _ e => e⟩ rfl rfl (fun p hp => nomatch hp) (I.pin go (List.mem_append_right _ List.mem_cons_self)).1 I.nolimit m' hm' w'
        exact wpAny_pure ⟨plainId_quiet F.plain_all_loop _, ih k hk s' ak⟩
      | false =>
        rw [if_neg Bool.false_ne_true] at hb'
        simp only [Bool.false_eq_true, if_false]
        exact wpAny_bind (wpAny_rule (wpAny_pure (hF _ σ H s' I hb')))
    · exact wpAny_bind (wpAny_rule (wpAny_pure (hT _ σ H s' cp I dn)))
end
section
variable {X : Cx} {pins : List (Addr × Obj)} {σ : L2.St} {H : Hp} {s : Shared} {N : List Str} {nt : Nat} {fr : List Nat} {scope : Scope}
/-- a generator that has not begun: the frame's context, where it was made -/
structure Fresh (X : Cx) (pins : List (Addr × Obj)) (σ : L2.St) (N : List Str) (nt : Nat) (fr : List Nat) (scope : Scope) (tg elt iter : Expr) (ifs : List Expr) (gpos : Pos) (J : It) (H2 : Hp) (a : Addr) (s5 : Shared) : Prop where
  ex : ∃ (s4 : Shared) (code : Value) (fp : List Addr) (it : Addr) (tn : Nat → Heap → Prop) (go : Obj) (gi : Nat),
    Inv X pins σ H2 s4 ∧ (∀ b ∈ fp, FpOk X pins H2 b) ∧ (∀ b ∈ fp, b < s4.heap.objs.size) ∧ s4.heap.objs.size < a ∧ a < s5.heap.objs.size ∧ Turn X.prog X.w X.K tg J fp it tn ∧ tn 0 s5.heap ∧ (∀ h : Heap, h.get? a = some go → h.IsGen a gi) ∧ s5.heap.get? a = some go ∧
    s5.gens[gi]? = some (.fresh (.compStart (.GeneratorExp elt [⟨tg, iter, ifs, 0⟩] scope gpos) 0 (.ref it) .none (genEnv scope (cloFrom X.env.cells scope.names []) s4.heap.objs.size code builtinsNs X.env))) ∧
    Inv (gxC X N scope s4.heap.objs.size code fp s4 H2) [(a, go)] (capSt nt fr σ) H2 s5
theorem gen_mkI {c P : Addr} {elt iter tg : Expr} {ifs : List Expr} {gpos : Pos} {wi : TI} {k : Nat} {Q' : Value → Shared → Prop} {R : It → Hp → Prop} (hcalm : X.calm = true)
    (hr : Room k X.A) (TB : TabB X.base X.mg c P) (hcode : X.env.code = .ref c) (S : GnS scope) (hfr : freeOk scope X.env.scope = true) (hcap : capOk N nt fr X.N scope X.env.scope = true) (hi : PI X tg iter wi)
    (hs : ∀ v, genFold iter X.env v = pure v) (I : Inv X pins σ H s) (h : wi σ H fun J H1 => TabG H1 P ∧ ∀ H2, Tabbed P H1 H2 → R J H2)
    (hQ : ∀ J H2 a s5, R J H2 → Fresh X pins σ N nt fr scope tg elt iter ifs gpos J H2 a s5 → Q' (.ref a) s5) :
    wpAny (model X.prog X.w) X.A (eval (.GeneratorExp elt [⟨tg, iter, ifs, 0⟩] scope gpos) X.env) Q' X.xe s := by
  have hcl : closureFor scope X.env = pure (cloFrom X.env.cells scope.names []) := closure_ok fun y hy hf => by
    refine I.ok.has y.1 ?_
    unfold freeOk at hfr
    rw [List.all_eq_true] at hfr
    have := hfr _ hy
    rw [hf] at this
    simp only at this
    split at this
    · rename_i e; exact .inl e
    · rename_i e; exact .inr e
    · cases this
  refine wpAny_GeneratorExp_make S.co hcl S.cell S.dot S.kind (by have := hr.dp; omega) ?_ hs
  refine thn (hi.run pins s σ H _ I h) fun xv s1 h1 => thn h1 fun itv s2 h2 => ?_
  obtain ⟨it, fp, tn, J, H1, e, I2, T, st2, f2, ⟨ps, hP, htr⟩, hR⟩ := h2
  subst e
  have hPs : s2.heap.get? P = some { cls := .none, data := .fields ps } := I2.hok P _ hP
  have hPlt := Heap.lt_size hPs
  have cd : PySem.W.CodeHd s2.heap c P := TB.code.keeps fun b u e => I2.bk b u e
  have fpP : ∀ b ∈ fp, b ≠ P := fun b hb e => by
    have := (f2 b hb).1
    rw [e, hP] at this
    cases this
  refine ⟨I2.nolimit, ?_⟩
  have fin : ∀ (code : Value) (h3 : Heap) (tk : Nat) (qs : Array Value), Heap.ExtBut P s2.heap h3 → s2.heap.objs.size ≤ h3.objs.size → h3.get? P = some { cls := .none, data := .fields qs } → (∃ more, qs = ps ++ more) → TriplesOk qs.toList →
      wpAny (model X.prog X.w) X.A (builtinsFor X.env.globals X.env.builtins) (fun bi s₄ =>
        ∀ h', h'.Ns s₄.heap.objs.size (fun y => if y = ".0" then some (.ref it) else none) → Heap.SameBut s₄.heap.objs.size (s₄.heap.push { cls := .type "frame", data := .dict #[] }) h' →
          Q' (.ref h'.objs.size) { s₄ with
            gens := s₄.gens.push (.fresh (.compStart (.GeneratorExp elt [⟨tg, iter, ifs, 0⟩] scope gpos) 0 (.ref it) .none (genEnv scope (cloFrom X.env.cells scope.names []) s₄.heap.objs.size code bi X.env))),
            toks := s₄.toks + 1 + 1 + 1,
            heap := h'.push { cls := .type "generator", data := .fields #[.int s₄.gens.size 0, .str "<genexpr>" (s₄.toks + 1), .str (X.env.qual ++ "<genexpr>") (s₄.toks + 1 + 1)] } }) X.xe { s2 with heap := h3, toks := tk } := by
    intro code h3 tk qs hx hsz hP3 hmore htq
    obtain ⟨bm, ob, e1, e2, e3, e4, e5, e6, e7, e8⟩ := TB.bm
    have nbP : (builtinsNs : Addr) ≠ P := fun e => by
      obtain ⟨mb, hns, _⟩ := I2.mod.blt
      obtain ⟨o', es, ep, ho, hd, _⟩ := hns
      have ho := I2.bk _ _ ho
      rw [e, hPs] at ho
      cases ho; cases hd
    refine wpAny_builtinsFor (m := X.mg) (by rw [I2.ok.glob]; exact (I2.mod.glob.keeps I2.bk).extBut hx TB.gP) e1 e2 (hx _ _ e4 (I2.bk _ _ e5)) e6 e7 e8 ?_
    obtain ⟨more, em⟩ := hmore
    intro h' hn' hs'
    have I4 := inv_tab (more := more) (h' := h3) (g' := s2.gens) (d' := s2.drawn) (t' := tk) I2 hP (fun b u hb e => hx b u hb e) (by rw [← em]; exact hP3) I2.bare
    have hsz' : h'.objs.size = h3.objs.size + 1 := by rw [hs'.1, Heap.size_push]
    have keep' : ∀ b o, h3.get? b = some o → h'.get? b = some o := fun b o e => hs'.extBut b o (Nat.ne_of_lt (Heap.lt_size e)) (Heap.get?_push_of_some _ e)
    have lt2 : ∀ b ∈ fp, b < s2.heap.objs.size := fun b hb => by
      obtain ⟨o, e, _⟩ := T.obj 0 _ st2 b hb
      exact Heap.lt_size e
    have f4 : ∀ b ∈ fp, FpOk X pins (upd H1 P (.tbl (ps ++ more))) b := fun b hb => ⟨by rw [upd_ne (fpP b hb)]; exact (f2 b hb).1, (f2 b hb).2⟩
    have lt4 : ∀ b ∈ fp, b < h3.objs.size := fun b hb => Nat.lt_of_lt_of_le (lt2 b hb) hsz
    refine hQ J (upd H1 P (.tbl (ps ++ more))) _ _ (hR _ ⟨⟨ps ++ more, upd_same, by rw [← em]; exact htq⟩, fun b hb => upd_ne hb⟩) ⟨_, code, fp, it, tn, _, s2.gens.size, I4, f4, lt4, ?_, ?_, T, ?_, fun h e => ⟨_, _, _, e, rfl, rfl, rfl⟩, Heap.get?_push_size _ rfl, Array.getElem?_push_size .., gen_start hcalm S hfr hcap I4 f4 lt4 hn' (fun b o e => Heap.get?_push_of_some _ (keep' b o e)) (fun o e => Heap.get?_push_of_some _ e) rfl (I2.bare.push rfl) (Heap.get?_push_size _ rfl) ?_ ?_⟩
    · show h3.objs.size < h'.objs.size
      omega
    · show h'.objs.size < (h'.push _).objs.size
      rw [Heap.size_push]; exact Nat.lt_succ_self _
    · exact T.keep 0 _ _ st2 fun b hb o e => Heap.get?_push_of_some _ (keep' b o (hx b o (fpP b hb) e))
    · show h3.objs.size < h'.objs.size
      omega
    · intro v z; cases z
  cases hf : codeAmong gpos ps.toList with
  | none =>
    refine wpAny_genexprCodeX hcode (cd.code hPs htr) (cd.tab hPs) hf fun c' h' tk hx hge hlt hco' _ htab' _ => ?_
    obtain ⟨o1, vs, f1, tf, fl, tg, inF, tx, tt, op, _, _, _, _, _, _, _, _, _, hz, _⟩ := hco'
    exact fin _ h' tk _ hx (Nat.le_trans hge (Nat.le_of_lt hlt)) htab'.2 ⟨_, rfl⟩ hz
  | some cv =>
    refine wpAny_genexprCode_hit hcode (cd.code hPs htr) hf ?_
    exact fin cv s2.heap s2.toks ps (Heap.ExtBut.refl _ _) (Nat.le_refl _) hPs ⟨#[], by simp⟩ htr
/-- the turns of a for, as a reading -/
def tForB (J : It) (g : TG) (tb : TS) : TS := fun D σ H => ∃ W : Nat → Nat → L2.St → Hp → Prop, (∃ m, W 0 m σ H) ∧ ∀ i m σ H, W i m σ H →
  (J.stop i H ∧ D.nx σ H) ∨ (J.go i H ∧ ∃ N : L2.St → Hp → Prop, (∀ σ' H', N σ' H' → ∃ m', m' < m ∧ W (i + 1) m' σ' H') ∧ ∀ x H', J.yld i H x H' → g x σ H' fun σ2 H2 => tb { D with nx := N, ct := N, bk := D.nx } σ2 H2)
def tbAll (tt : TT) (te : TE) : TS := fun D σ H => tt σ H fun b H3 => if b = true then te σ H3 (fun y H4 => ∃ b, y = .bl b ∧ if b = true then D.nx σ H4 else D.rt (.bl false) H4) else D.nx σ H3
/-- all(elt for tg in iter if ..); st: the captured names -/
def tAllG (P : Addr) (wi : TI) (g : TG) (tt : TT) (te : TE) (st : L2.St → L2.St) : TE := fun σ H Q => wi σ H fun J H1 => TabG H1 P ∧ ∀ H2, Tabbed P H1 H2 → tForB J g (tbAll tt te) { nx := fun _ H => Q (.bl true) H, rt := Q } (st σ) H2
theorem back_to {a : Addr} {s4 s' : Shared} {code : Value} {fp : List Addr} {H2 H' : Hp} {pp : List (Addr × Obj)} {σ' : L2.St} (I4 : Inv X pins σ H2 s4) (hf : ∀ b ∈ fp, FpOk X pins H2 b) (J : Inv (gxC X N scope a code fp s4 H2) pp σ' H' s') : Inv X pins σ H' s' :=
  I4.call' (ch := fp) J.os J.base J.hok J.bare fun b hb => ⟨(hf b hb).2.2.2.1, (hf b hb).2.1, (hf b hb).2.2.2.2.1, (hf b hb).2.2.2.2.2⟩
theorem stat_of {a : Addr} {s4 : Shared} {code : Value} {fp : List Addr} {H2 : Hp} {pp : List (Addr × Obj)} (S : GnS scope) (I4 : Inv X pins σ H2 s4) (hf : ∀ b ∈ fp, FpOk X pins H2 b) (hlt : ∀ b ∈ fp, b < s4.heap.objs.size) (hfr : freeOk scope X.env.scope = true) (ha : s4.heap.objs.size ≤ a) (hpp : ∀ p ∈ pp, s4.heap.objs.size ≤ p.1) {H' : Hp} (h0 : ∀ b ∈ fp, H' b = none) :
    ∀ b ∈ fp, FpOk (gxC X N scope a code fp s4 H2) pp H' b := fun b hb => by
  have lt := hlt b hb
  refine ⟨h0 b hb, Nat.ne_of_lt (Nat.lt_of_lt_of_le lt ha), fun z => ?_, .inl hb, fun x c h => ?_, fun p hp e => ?_⟩
  · rcases List.mem_cons.mp (I4.stkSub b z) with y | y
    · exact (hf b hb).2.1 y
    · exact (hf b hb).2.2.1 y
  · obtain ⟨h1, h2⟩ := clo_from h
    unfold freeOk at hfr
    rw [List.all_eq_true] at hfr
    have q := hfr _ h1
    simp only at q
    have : X.env.kindOf x = some .cell ∨ X.env.kindOf x = some .free := by
      split at q
      · rename_i e; exact .inl e
      · rename_i e; exact .inr e
      · cases q
    obtain ⟨c0, e0⟩ := I4.ok.has x this
    rw [h2, e0]
    exact (hf b hb).2.2.2.2.1 x c0 e0
  · have hp : p ∈ pp := by simpa [gxC] using hp
    have := hpp p hp
    rw [e] at this
    exact absurd (Nat.lt_of_lt_of_le lt this) (Nat.lt_irrefl _)
theorem pe_allG {c P : Addr} {elt iter tg : Expr} {ifs : List Expr} {p pos gpos : Pos} {wi : TI} {g : TG} {tt : TT} {te : TE} {k : Nat} (hcalm : X.calm = true) (hr : Room (k + 2) X.A) (B : Blt X.mg) (TB : TabB X.base X.mg c P) (hcode : X.env.code = .ref c)
    (S : GnS scope) (hfr : freeOk scope X.env.scope = true) (hcap : capOk N nt fr X.N scope X.env.scope = true) (hi : PI X tg iter wi)
    (hg : ∀ C code fp s4 H4, Room k (gxC X N scope C code fp s4 H4).A → PG (gxC X N scope C code fp s4 H4) tg g) (ht : ∀ C code fp s4 H4, Room k (gxC X N scope C code fp s4 H4).A → PTs (gxC X N scope C code fp s4 H4) ifs tt)
    (he : ∀ C code fp s4 H4, Room k (gxC X N scope C code fp s4 H4).A → PE (gxC X N scope C code fp s4 H4) elt te)
    (hs : ∀ v, genFold iter X.env v = pure v) (hgl : Gl X "all" := by rfl)
    (hse : starEach [.GeneratorExp elt [⟨tg, iter, ifs, 0⟩] scope gpos] X.env = (false, eval (.GeneratorExp elt [⟨tg, iter, ifs, 0⟩] scope gpos) X.env) :: starEach [] X.env := by rfl) :
    PE X (.Call (.Name "all" p) [.GeneratorExp elt [⟨tg, iter, ifs, 0⟩] scope gpos] [] pos) (tAllG P wi g tt te (capSt nt fr)) := by
  refine ⟨fun pins s σ H Q I h => ?_⟩
  have hh : X.A.handled = none := I.ok.hd hcalm
  refine wpAny_Call_Name_kw (ld_blt I hgl B.all (show bootBuiltins "all" = some (.builtin "all") by decide +kernel) ?_)
  refine PyProof.Rows.callWith_builtin1 ?_ hse (by rfl)
  rw [hse]
  show wpAny _ _ (spliced ((false, eval (.GeneratorExp elt [⟨tg, iter, ifs, 0⟩] scope gpos) X.env) :: backTo pos (starEach [] X.env))) _ _ s
  refine Calls.spliced_cons (gen_mkI (N := N) (nt := nt) (fr := fr) (R := fun J H2 => tForB J g (tbAll tt te) { nx := fun _ H => Q (.bl true) H, rt := Q } (capSt nt fr σ) H2) hcalm hr TB hcode S hfr hcap hi hs I h fun J H2 a s5 hR hF => ?_)
  refine Calls.spliced_nil ?_
  obtain ⟨s4, code, fp, it, tn, go, gi, I4, hf, hlt, ha, ha2, T, st5, hgo, hga, hgs, I5⟩ := hF
  obtain ⟨W, ⟨m0, w0⟩, turn⟩ := hR
  have hrA : Room k (gxC X N scope s4.heap.objs.size code fp s4 H2).A := by
    have r1 := hr.dp
    have r2 := hr.un
    have q1 : (gxC X N scope s4.heap.objs.size code fp s4 H2).A.depth = X.A.depth + 1 := rfl
    have q2 : (gxC X N scope s4.heap.objs.size code fp s4 H2).A.units = X.A.units + 1 + 1 + 3 := rfl
    exact ⟨hh, by omega, by omega⟩
  refine call_function_tree F.kind_all F.plain_all F.entry_all (F.args_all1 _) ?_
  unfold Builtin.«all»
  refine wpAny_bind (m := oneArg "all" _) (wpAny_pure ?_)
  refine wpAny_bind (wpAny_pyIter_gen (hgo _ hga) ?_)
  refine wpAny_pure ⟨plainId_quiet F.plain_all_loop _, ?_⟩
  have depth : X.A.depth < recursionLimit := by have := hr.dp; omega
  refine all_loop_gen (Y := gxC X N scope s4.heap.objs.size code fp s4 H2) (go := (a, go)) (gi := gi) (W := fun i m cp σ H => W i m σ H) (B := fun i m cp y σ H => ∃ b, y = .bl b ∧ if b = true then ∃ m', m' < m ∧ W (i + 1) m' σ H else Q (.bl false) H) (Dn := fun _ _ H => Q (.bl true) H) (Fl := fun _ H => Q (.bl false) H)
    hh depth hgo (fun i m cp y σ H hb => hb) (fun pp σ' H' s' J' q => ⟨.bl false, H', back_to I4 hf J', rfl, q⟩) (fun pp σ' H' s' cp J' q => ⟨.bl true, H', back_to I4 hf J', rfl, q⟩) (m0 + 1) s5 ⟨hgo _ hga, I5.nolimit, _, hgs, rfl, ?_⟩
  refine seg_turns0 (Y := gxC X N scope s4.heap.objs.size code fp s4 H2) (fp := fp) (tn := tn) (J := J) (tg := tg) (g := g) (tt := tt) (te := te) rfl (fun _ _ z => z) rfl T (hg _ _ _ _ _ hrA) (ht _ _ _ _ _ hrA) (he _ _ _ _ _ hrA) S.co (fun i m cp σ H w => ?_)
    (fun cp H' hcp h0 => stat_of S I4 hf hlt hfr (Nat.le_refl _) (fun p hp => ?_) h0) (fun b hb => absurd hb List.not_mem_nil) (fun p hp hb => absurd hb List.not_mem_nil) (fun b hb hb2 => absurd hb2 List.not_mem_nil) (Nat.lt_succ_self m0) (cp := []) rfl (fun p hp => nomatch hp) (inv_kept I5 rfl (allBare_setGen I5.bare rfl) fun _ _ e => e) st5 (fun b hb => (hf b hb).1) w0
  · rcases turn i m σ H w with ⟨q1, q2⟩ | ⟨q1, Nt, hN, q2⟩
    · exact .inl ⟨q1, q2⟩
    · refine .inr ⟨q1, fun y σ' H' => ∃ b, y = .bl b ∧ if b = true then Nt σ' H' else Q (.bl false) H', Nt, fun y σ' H' ⟨b, e, z⟩ => ⟨b, e, ?_⟩, hN, q2⟩
      cases b with
      | true => rw [if_pos rfl] at z ⊢; exact hN _ _ z
      | false => rw [if_neg Bool.false_ne_true] at z ⊢; exact z
  · have e0 : cp = [] := by
      have := congrArg List.length hcp
      rw [List.length_map] at this
      exact List.eq_nil_of_length_eq_zero this
    subst e0
    rw [List.mem_singleton.mp hp]
    exact Nat.le_of_lt ha
end
end SC
/-! several tables of code at once; the state of a law that has them -/
namespace SC
open PySem L2
def Tabs (Ts : List Addr) (H : Hp) : Prop := ∀ P ∈ Ts, GxR.TabG H P
section
variable {Ts S : List Addr} {P st p : Addr} {H0 H H' : Hp} {K : PySem.W.Frag}
theorem Tabs.kp1 (h : Tabs Ts H) (k : Kp [P] H H') (g : GxR.TabG H' P) : Tabs Ts H' := fun Q m => if e : Q = P then e ▸ g else tabG_kp (h Q m) k (by simpa using e)
theorem Tabs.kp (h : Tabs Ts H) (k : Kp S H H') (n : ∀ P ∈ Ts, P ∉ S) : Tabs Ts H' := fun Q m => tabG_kp (h Q m) k (n Q m)
theorem Tabs.kp0 (h : Tabs Ts H) (k : Kp [] H H') : Tabs Ts H' := h.kp k fun _ _ => List.not_mem_nil
theorem Tabs.ne (h : Tabs Ts H) {b : Addr} {o : HO} (e : H b = some o) (no : ∀ ps, o ≠ .tbl ps := by intro ps z; cases z) : b ∉ Ts := fun m => by
  obtain ⟨ps, q, _⟩ := h b m
  rw [e] at q
  exact no ps (Option.some.inj q)
theorem Tabs.ne0 (h : Tabs Ts H) {b : Addr} (e : H b = none) : b ∉ Ts := fun m => by
  obtain ⟨ps, q, _⟩ := h b m
  rw [e] at q
  cases q
theorem Tabs.new (h : Tabs Ts H) (e : H p = none) (o : HO) : Tabs Ts (upd H p o) := h.kp0 (Kp.new e o)
theorem Tabs.tab (h : Tabs Ts H) (t : GxR.Tabbed P H H') (m : P ∈ Ts) : Tabs Ts H' := h.kp1 (Kp.tab (h P m) t (List.mem_singleton.mpr rfl)) t.1
theorem Kp.in1 (k : Kp [P] H H') (m : P ∈ Ts) : Kp Ts H H' := k.mono fun b hb => by rw [List.mem_singleton.mp hb]; exact m
theorem Kp.in0 (k : Kp [] H H') : Kp S H H' := k.mono fun b hb => absurd hb List.not_mem_nil
theorem Kp.get {b : Addr} {o : HO} (k : Kp Ts H H') (g : Tabs Ts H) (h : H b = some o) (no : ∀ ps, o ≠ .tbl ps := by intro ps z; cases z) : H' b = some o := k.keep b o (g.ne h no) h
theorem Kp.tys {v : V} {t : String} (k : Kp Ts H H') (g : Tabs Ts H) (h : tyN H v = some t) : tyN H' v = some t := by
  cases v with
  | ref p =>
    unfold tyN at h
    simp only at h
    split at h
    · rename_i xs q; cases h; exact tyN_lst (k.get g q)
    · rename_i xs q; cases h; exact tyN_tup (k.get g q)
    · rename_i xs q; cases h; exact tyN_dK (k.get g q)
    · cases h
  | _ => exact h
theorem Kp.seqs {a : Addr} {xs : List V} (k : Kp Ts H H') (g : Tabs Ts H) (h : SqL K H a xs) : SqL K H' a xs := by
  rcases h with (h | ⟨o, h⟩) | h
  · exact .inl (.inl (k.get g h))
  · exact .inl (.inr ⟨o, k.get g h⟩)
  · exact .inr h
/-- a law's state: tables may have grown, the stream stands, all else that was there is as it was -/
structure LT (Ts : List Addr) (st : Addr) (H0 H : Hp) : Prop where
  k : Kp Ts H0 H
  g : Tabs Ts H
  s : Strm H st
  g0 : Tabs Ts H0
  fr : H0 st = none
theorem LT.ne (L : LT Ts st H0 H) : st ∉ Ts := let ⟨_, _, e⟩ := L.s; L.g.ne e
/-- what is written: a table, or what was not there at the beginning -/
theorem LT.go (L : LT Ts st H0 H) (k : Kp S H H') (hS : ∀ b ∈ S, b ∈ Ts ∨ H0 b = none) (g : Tabs Ts H') (s : Strm H' st) : LT Ts st H0 H' := by
  refine ⟨⟨fun b o n q => ?_, fun b xs q => k.tup b xs (L.k.tup b xs q)⟩, g, s, L.g0, L.fr⟩
  refine k.keep b o (fun m => ?_) (L.k.keep b o n q)
  rcases hS b m with z | z
  · exact n z
  · rw [q] at z; cases z
theorem LT.take (L : LT Ts st H0 H) (k : Kp [st] H H') (s : Strm H' st) : LT Ts st H0 H' :=
  L.go k (fun b hb => .inr (by rw [List.mem_singleton.mp hb]; exact L.fr)) (L.g.kp k fun P m z => L.ne (by rw [← List.mem_singleton.mp z]; exact m)) s
theorem LT.tabs (L : LT Ts st H0 H) (k : Kp Ts H H') (g : Tabs Ts H') : LT Ts st H0 H' := L.go k (fun b hb => .inl hb) g (L.s.kp k L.ne)
theorem LT.kp0 (L : LT Ts st H0 H) (k : Kp [] H H') : LT Ts st H0 H' := L.go k (fun b hb => absurd hb List.not_mem_nil) (L.g.kp0 k) (L.s.kp k List.not_mem_nil)
theorem LT.new (L : LT Ts st H0 H) (h : H p = none) (o : HO) : LT Ts st H0 (upd H p o) := L.kp0 (Kp.new h o)
theorem LT.free (L : LT Ts st H0 H) (h : H p = none) : H0 p = none := by
  cases e : H0 p with
  | none => rfl
  | some o =>
    exfalso
    by_cases m : p ∈ Ts
    · exact L.g.ne0 h m
    · have := L.k.keep p o m e
      rw [h] at this; cases this
theorem LT.seq {a : Addr} {xs : List V} (L : LT Ts st H0 H) (h : SqL K H0 a xs) : SqL K H a xs := L.k.seqs L.g0 h
theorem LT.lst (L : LT Ts st H0 H) {xs ys : List V} (h0 : H0 p = none) (h : H p = some (.lst xs)) (n : p ≠ st) : LT Ts st H0 (upd H p (.lst ys)) := by
  have k : Kp [p] H (upd H p (.lst ys)) := Kp.lst h (List.mem_singleton.mpr rfl)
  exact L.go k (fun b hb => .inr (by rw [List.mem_singleton.mp hb]; exact h0)) (L.g.kp k fun P m z => by rw [List.mem_singleton.mp z] at m; exact L.g.ne h (by intro ps z; cases z) m) (L.s.kp k (by simpa using n.symm))
end
/-- a method of the class at C that keeps its promise -/
structure CalM (P : Program) (w : World) (K : PySem.W.Frag) (mg : Str → Option Value) (base : Heap) (CX : CXT) (k : Nat) (C : Addr) (x : Str) (sp : Sp) : Prop where
  ex : ∃ f fd ps, FnOk P w K mg base CX k f fd ps sp ∧ Meth K C x f ∧ Binds K fd ps []
  cl : Cls K C
/-- a class that is made without arguments -/
structure CalK (P : Program) (w : World) (K : PySem.W.Frag) (mg : Str → Option Value) (base : Heap) (CX : CXT) (k : Nat) (C : Addr) (x : Str) (sp : Sp) : Prop where
  ex : ∃ f fd ps, FnOk P w K mg base CX k f fd ps sp ∧ Mk K C f ∧ Binds K fd ps []
  mg : mg x = some (.ref C)
section
variable {P : Program} {w : World} {K : PySem.W.Frag} {mg : Str → Option Value} {base : Heap} {CX : CXT} {C : Addr} {x : Str} {sp : Sp}
theorem CalM.mono {j k : Nat} (c : CalM P w K mg base CX j C x sp) (h : j ≤ k) : CalM P w K mg base CX k C x sp :=
  let ⟨f, fd, ps, F, m, b⟩ := c.ex
  ⟨⟨f, fd, ps, F.mono h, m, b⟩, c.cl⟩
theorem CalM.imp {k : Nat} {sp' : Sp} (c : CalM P w K mg base CX k C x sp) (h : ∀ vs H Q E, sp' vs H Q E → sp vs H Q E) : CalM P w K mg base CX k C x sp' :=
  let ⟨f, fd, ps, F, m, b⟩ := c.ex
  ⟨⟨f, fd, ps, F.imp h, m, b⟩, c.cl⟩
end
section
variable {X : Cx} {x : Str} {p pos apos : Pos} {o e : Expr} {es : List Expr} {ta : TE} {t : TA} {sp : Sp} {j k : Nat} {CX : CXT} {E : XK} {C : Addr} {pl : Sem Bool}
theorem CalM.pex (c : CalM X.prog X.w X.K X.mg X.base CX j C x sp) (hr : Room k X.A) (hx : Passes CX X E) (ho : PE X o ta) (ha : PA X (e :: es) t) (hjk : j ≤ k := by first | decide | omega)
    (hst : starEach (e :: es) X.env = (false, eval e X.env) :: starEach es X.env := by rfl) (hpl : (backTo pos (starEach es X.env)).any (·.1) = false := by rfl)
    (ht : eval (.Call (.Attribute o x apos) (e :: es) [] pos) X.env = (do
      let ov ← eval o X.env
      standAt apos.atName
      let (f, first) ← holding [ov] (getMethod ov x pl)
      callWith pos f first (backTo pos (starEach (e :: es) X.env)) (backToKw pos (keywordEach [] X.env))) := by rfl) :
    PE X (.Call (.Attribute o x apos) (e :: es) [] pos) (tMeth C x sp [] E ta t) :=
  let ⟨_, _, _, F, m, b⟩ := c.ex
  pe_meth ho c.cl m F (hr.mono hjk) b .nil hx ha hst hpl ht
theorem CalM.pe (c : CalM X.prog X.w X.K X.mg X.base CX0 j C x sp) (hr : Room k X.A) (ho : PE X o ta) (ha : PA X (e :: es) t) (hjk : j ≤ k := by first | decide | omega)
    (hst : starEach (e :: es) X.env = (false, eval e X.env) :: starEach es X.env := by rfl) (hpl : (backTo pos (starEach es X.env)).any (·.1) = false := by rfl)
    (ht : eval (.Call (.Attribute o x apos) (e :: es) [] pos) X.env = (do
      let ov ← eval o X.env
      standAt apos.atName
      let (f, first) ← holding [ov] (getMethod ov x pl)
      callWith pos f first (backTo pos (starEach (e :: es) X.env)) (backToKw pos (keywordEach [] X.env))) := by rfl) :
    PE X (.Call (.Attribute o x apos) (e :: es) [] pos) (tMeth C x sp [] E0 ta t) := c.pex hr pass0 ho ha hjk hst hpl ht
/-- of a method that may raise, where it does not -/
theorem CalM.peL (c : CalM X.prog X.w X.K X.mg X.base (L2.CX X.prog X.w) j C x sp) (hr : Room k X.A) (ho : PE X o ta) (ha : PA X (e :: es) t) (hjk : j ≤ k := by first | decide | omega)
    (hst : starEach (e :: es) X.env = (false, eval e X.env) :: starEach es X.env := by rfl) (hpl : (backTo pos (starEach es X.env)).any (·.1) = false := by rfl)
    (ht : eval (.Call (.Attribute o x apos) (e :: es) [] pos) X.env = (do
      let ov ← eval o X.env
      standAt apos.atName
      let (f, first) ← holding [ov] (getMethod ov x pl)
      callWith pos f first (backTo pos (starEach (e :: es) X.env)) (backToKw pos (keywordEach [] X.env))) := by rfl) :
    PE X (.Call (.Attribute o x apos) (e :: es) [] pos) (tMeth C x sp [] E0 ta t) := c.pex hr passL ho ha hjk hst hpl ht
theorem CalM.pe0 (c : CalM X.prog X.w X.K X.mg X.base CX0 j C x sp) (hr : Room k X.A) (ho : PE X o ta) (hjk : j ≤ k := by first | decide | omega)
    (ht : eval (.Call (.Attribute o x apos) [] [] pos) X.env = (do
      let ov ← eval o X.env
      standAt apos.atName
      let (f, first) ← holding [ov] (getMethod ov x pl)
      callWith pos f first (backTo pos (starEach [] X.env)) (backToKw pos (keywordEach [] X.env))) := by rfl) :
    PE X (.Call (.Attribute o x apos) [] [] pos) (tMeth C x sp [] E0 ta tNil) :=
  let ⟨_, _, _, F, m, b⟩ := c.ex
  pe_meth0 ho c.cl m F (hr.mono hjk) b .nil pass0 ht
theorem CalK.pe0 (c : CalK X.prog X.w X.K X.mg X.base CX0 j C x sp) (hr : Room k X.A) (hjk : j + 1 ≤ k := by first | decide | omega) (hg : Gl X x := by rfl) (hdb : (x == ("__debug__" : Str)) = false := by decide) :
    PE X (.Call (.Name x p) [] [] pos) (tMake C sp [] E0 tNil) :=
  let ⟨_, _, _, F, m, b⟩ := c.ex
  pe_make0 m F (hr.mono hjk) hg c.mg b .nil pass0 hdb
end
end SC
/-! try with several clauses that name the caught error, all by one name -/
namespace SC
open PySem PySem.Spec PyProof.Rows L2
/-- one clause's class and its suite's reading -/
abbrev Clause := Value × (Addr → Value → Option Addr → TS)
/-- how the name at the slot i goes behind a suite -/
def dropE (i : Nat) (D : Ends) : Ends := { nx := fun τ G => D.nx (τ.set i none) G, rt := D.rt, bk := fun τ G => D.bk (τ.set i none) G, ct := fun τ G => D.ct (τ.set i none) G }
/-- o.m(..) of a method that may raise, the wish by the slots -/
def tMethV (C : Addr) (m : Str) (sp : Sp) (E : L2.St → XK) (ta : TE) (t : TA) : TE := fun σ H Q => ta σ H fun x H1 => ∃ a dx fs, x = .ref a ∧ H1 a = some (.ins C dx fs) ∧ fs.lookup m = none ∧ t σ H1 fun vs H2 => sp (x :: vs) H2 Q (E σ)
section
variable {X : Cx} {x : Str} {pos apos : Pos} {o e : Expr} {es : List Expr} {ta : TE} {t : TA} {sp : Sp} {j k : Nat} {C : Addr} {pl : Sem Bool} {V : WX}
theorem CalM.peV (c : CalM X.prog X.w X.K X.mg X.base (L2.CX X.prog X.w) j C x sp) (hr : Room k X.A) (tk : Takes X V) (ho : PE X o ta) (ha : PA X (e :: es) t) (hjk : j ≤ k := by first | decide | omega)
    (hst : starEach (e :: es) X.env = (false, eval e X.env) :: starEach es X.env := by rfl) (hpl : (backTo pos (starEach es X.env)).any (·.1) = false := by rfl)
    (ht : eval (.Call (.Attribute o x apos) (e :: es) [] pos) X.env = (do
      let ov ← eval o X.env
      standAt apos.atName
      let (f, first) ← holding [ov] (getMethod ov x pl)
      callWith pos f first (backTo pos (starEach (e :: es) X.env)) (backToKw pos (keywordEach [] X.env))) := by rfl) :
    PE X (.Call (.Attribute o x apos) (e :: es) [] pos) (tMethV C x sp (WE V) ta t) := by
  obtain ⟨f, fd, ps, F, M, b⟩ := c.ex
  refine ⟨fun held s σ H Q I pre => PySem.W.methodCall_KW (pl := pl) (thn (ho.run held s σ H _ I pre) fun u s1 gives => ?_) ht⟩
  obtain ⟨v, H1, I1, rel, p, dx, fs, rfl, isIns, noField, args⟩ := gives
  cases (show u = Value.ref p from rel)
  refine getmeth_ok I1 isIns c.cl M noField (PySem.W.callWith_K (first := [.ref p]) (h₀ := X.base) I.ok.mod.kin M.kp (thn (ha.run pos held s1 σ H1 _ I1 args) fun us s2 told => ?_) hst hpl)
  obtain ⟨vs, H2, I2, rels, q⟩ := told
  exact ⟨I2.kIn, run_fnS (us := .ref p :: us) (vs := .ref p :: vs) F (hr.mono hjk) b (passAt tk σ) I2 (.cons rfl rels) q⟩
/-- int(b) -/
theorem call_intB : CallR X (.type "int") (fun xs H Q => ∃ k : Bool, xs = [.bl k] ∧ Q (.int (if k then 1 else 0)) H) := fun pins s σ H xs us Q I r h => call_int1 pins s σ H xs us Q I r (.inr h)
theorem Blt.int_b {p : Pos} (B : Blt X.mg) (ha : PA X (e :: es) t) (hg : Gl X "int" := by rfl) (he : starEach (e :: es) X.env = (false, eval e X.env) :: starEach es X.env := by rfl) (hpl : (backTo pos (starEach es X.env)).any (·.1) = false := by rfl) :
    PE X (.Call (.Name "int" p) (e :: es) [] pos) (tCB (fun xs H Q => ∃ k : Bool, xs = [.bl k] ∧ Q (.int (if k then 1 else 0)) H) t) :=
  pe_callTy call_intB hg B.int (by decide +kernel) ha (he := he) (hpl := hpl)
end
end SC
set_option maxHeartbeats 3200000
/-! sorted(set(xs)) and sorted(xs) of texts, of any number -/
namespace SC
open PySem PySem.Spec PyProof.Rows L2
open PySem.Froz (SD sObj TxOk addTx tailTx add_ok is_str)
section
variable {P : Program} {w : World} {A : Around} {E : Value → Shared → Prop} {s : Shared}
/-- the set at a holds the texts l, each once; its table rises and can be walked -/
structure TxR (P : Program) (w : World) (h : Heap) (a : Addr) (l : List Str) : Prop where
  ex : ∃ D, h.get? a = some (sObj "set" D) ∧ TxOk P w D l ∧ Ris D.2.2.place.toList ∧ (w.params.followText "set-order" = true ∨ D.2.2.led = true)
  nd : l.Nodup
theorem TxR.at {h h' : Heap} {a : Addr} {l : List Str} (R : TxR P w h a l) (k : ∀ o, h.get? a = some o → h'.get? a = some o) : TxR P w h' a l :=
  let ⟨D, e, r⟩ := R.ex
  ⟨⟨D, k _ e, r⟩, R.nd⟩
/-- the set that set() makes, before the first item -/
abbrev newSetObj (w : World) : Obj := { cls := .type "set", dict := none, data := .set #[] 0 (.fresh 0 0 (!w.params.followText "set-order")) }
theorem TxR.fresh {h : Heap} {a : Addr} (e : h.get? a = some (newSetObj w)) : TxR P w h a [] := by
  refine ⟨⟨(#[], 0, .fresh 0 0 (!w.params.followText "set-order")), e, TxOk.nil rfl, List.Pairwise.nil, ?_⟩, List.nodup_nil⟩
  show _ ∨ (!w.params.followText "set-order") = true
  cases w.params.followText "set-order" <;> simp
theorem addTx_walk {hs : Int} {v : Value} {D : SD} (r : Ris D.2.2.place.toList) (g : w.params.followText "set-order" = true ∨ D.2.2.led = true) :
    Ris (addTx hs v D).2.2.place.toList ∧ (w.params.followText "set-order" = true ∨ (addTx hs v D).2.2.led = true) := by
  obtain ⟨es, ep, t⟩ := D
  have r1 := layNew_ris t es hs v r
  have l1 := layNew_led t es hs v
  unfold addTx tailTx
  dsimp only
  generalize layNew t es hs v = L at r1 l1 ⊢
  obtain ⟨e1, t1, wd, gv⟩ := L
  dsimp only at r1 l1 ⊢
  have r2 : Ris (if t1.plain = true then { t1 with plain := false } else t1).place.toList := by split <;> exact r1
  have l2 : (if t1.plain = true then { t1 with plain := false } else t1).led = t.led := by split <;> exact l1
  generalize (if t1.plain = true then { t1 with plain := false } else t1) = t2 at r2 l2 ⊢
  split
  · refine ⟨relayAll_ris t2 e1 _, g.imp id fun q => ?_⟩
    rw [relayAll_led, l2]; exact q
  · exact ⟨r2, g.imp id fun q => by rw [l2]; exact q⟩
/-- one text is put in -/
theorem TxR.add {a : Addr} {l : List Str} {k : Str} {u : Tok} {Q : Bool → Shared → Prop} (R : TxR P w s.heap a l) (few : l.length + 1 < scanBound)
    (q : ∀ h' b, Heap.SameBut a s.heap h' → TxR P w h' a (if k ∈ l then l else k :: l) → Q b { s with heap := h' }) : wpAny (model P w) A (setAddHashed a (.str k u) (hashStr w k)) Q E s := by
  obtain ⟨D, at_, ok, ris, walk⟩ := R.ex
  by_cases m : k ∈ l
  · obtain ⟨es, ep, t⟩ := D
    have few0 : es.size < scanBound := by have : es.size = l.length := ok.sz; omega
    unfold setAddHashed setAddHashedIn
    refine wpAny_holding (wpAny_bind (wpAny_setState_of at_ (show (sObj "set" (es, ep, t)).data = .set es ep t from rfl) ok.fit ?_))
    dsimp only
    rw [byScan_of (x := Value.str k u) rfl few0 ok.el, if_pos rfl]
    unfold setAddByScan
    refine wpAny_bind (wpAny_bind (wpAny_rule (wpAny_bind (wpAny_setScan_of (knd := strKind P w) (k := k) (is_str k u) at_ (show (sObj "set" (es, ep, t)).data = .set es ep t from rfl) ok.fit ok.el ?_))))
    obtain ⟨e, he, hp⟩ := (ok.mem k).mp m
    cases fnd : List.findIdx? (fun e => (strKind P w).is k e.2) es.toList with
    | none =>
      have := List.findIdx?_eq_none_iff.mp fnd e he
      rw [hp] at this; cases this
    | some j =>
      have z := q s.heap false (Heap.SameBut.refl a s.heap) (by rw [if_pos m]; exact R)
      exact wpAny_pure (wpAny_pure z)
  · refine PySem.Froz.add_x at_ ok m few (q _ _ ?_ ?_)
    · exact ⟨by rw [Heap.size_update], fun b hb => Heap.get?_update_other _ _ (Ne.symm hb)⟩
    · rw [if_neg m]
      exact ⟨⟨addTx (hashStr w k) (.str k u) D, PySem.Froz.get_upd _ at_ rfl, add_ok u ok, addTx_walk ris walk⟩, List.nodup_cons.mpr ⟨m, R.nd⟩⟩
/-- what the first i of xs make of the set at S -/
def Upto (P : Program) (w : World) (S : Addr) (xs : List Str) (i : Nat) (h : Heap) : Prop := ∃ l, TxR P w h S l ∧ (∀ z, z ∈ l ↔ z ∈ xs.take i) ∧ l.length ≤ i
theorem Upto.at {h h' : Heap} {S : Addr} {xs : List Str} {i : Nat} (u : Upto P w S xs i h) (k : ∀ o, h.get? S = some o → h'.get? S = some o) : Upto P w S xs i h' := let ⟨l, r, m⟩ := u; ⟨l, r.at k, m⟩
theorem Upto.more {h' : Heap} {S : Addr} {xs l : List Str} {i : Nat} {z : Str} (at_ : xs[i]? = some z) (mem : ∀ y, y ∈ l ↔ y ∈ xs.take i) (len : l.length ≤ i) (R : TxR P w h' S (if z ∈ l then l else z :: l)) : Upto P w S xs (i + 1) h' := by
  refine ⟨_, R, fun y => ?_, ?_⟩
  · rw [List.take_add_one, at_, List.mem_append, Option.toList_some, List.mem_singleton, ← mem y]
    split
    · rename_i m
      exact ⟨.inl, fun q => q.elim id fun e => by rw [e]; exact m⟩
    · rw [List.mem_cons]
      exact or_comm
  · split
    · omega
    · exact Nat.succ_le_succ len
theorem loop_txts {it S : Addr} {fp wr : List Addr} {G : Array GenState → Array GenState → Prop} {n : Nat} {Pv : Nat → Value → Prop} {St : Nat → Shared → Prop} {R : Result → Shared → Prop} {xs : List Str}
    (W : WalksS P w A.in1 it fp wr G n Pv St) (off : S ∉ fp) (len : n = xs.length) (few : xs.length + 1 < scanBound) (vals : ∀ i v, Pv i v → ∃ z u, xs[i]? = some z ∧ v = Value.str z u) :
    ∀ (k i : Nat) (s : Shared), n - i = k → i ≤ n → St i s → Upto P w S xs i s.heap → (∀ s', Moved (S :: wr) G s s' → Upto P w S xs n s'.heap → R (.ok (.ret .none)) s') →
      codeAny (model P w) A (.builtin "set.update.loop" ⟨[.ref S, .ref it], []⟩) R s := by
  have offW : S ∉ wr := fun m => off (W.sub _ m)
  intro k
  induction k with
  | zero =>
    intro i s left le st up out
    obtain rfl : i = n := by omega
    refine codeAny_builtin F.entry_set_update_loop (by
      rw [Around.under_plainId F.plain_set_update_loop _]
      exact wpAny_bind (m := pyNext (.ref it)) (W.done s _ _ st fun s' moved => wpAny_pure (out s' (moved.mono fun b hb => List.mem_cons_of_mem _ hb) (up.at fun o e => moved.heap S o offW e))))
  | succ k ih =>
    intro i s left le st up out
    have lt : i < n := by omega
    refine codeAny_builtin F.entry_set_update_loop (by
      rw [Around.under_plainId F.plain_set_update_loop _]
      refine wpAny_bind (m := pyNext (.ref it)) (W.item i s _ _ lt st fun v s' is_ st' moved => ?_)
      obtain ⟨z, u, at_, rfl⟩ := vals i v is_
      obtain ⟨l, tr, mem, ll⟩ := up.at (h' := s'.heap) fun o e => moved.heap S o offW e
      refine wpAny_bind (m := holding [Value.str z u] (setAdd S (.str z u))) (wpAny_holding ?_)
      unfold setAdd
      refine wpAny_holding (wpAny_bind ((strKind P w).pyHash (k := z) (is_str z u) ?_))
      refine TxR.add (s := { s' with toks := s'.toks + 1 }) tr (by omega) fun h' b same R2 => ?_
      have frame : ∀ c ∈ fp, ∀ o, s'.heap.get? c = some o → h'.get? c = some o := fun c hc o e => by rw [same.2 c (fun z : c = S => off (by rw [← z]; exact hc))]; exact e
      refine wpAny_pure ⟨plainId_quiet F.plain_set_update_loop _, ih (i + 1) _ (by omega) lt (W.frame _ s' _ _ st' (Nat.le_succ _) frame) (Upto.more at_ mem ll R2) fun s2 moved2 up2 => out s2 (Moved.trans W.gtrans (((moved.mono fun b hb => List.mem_cons_of_mem _ hb)).then_heap (Nat.le_succ _) fun b o off2 e => ?_) moved2) up2⟩
      rw [same.2 b fun z : b = S => off2 (by rw [z]; exact List.mem_cons_self)]
      exact e)
local macro_rules | `(tactic| walk_at "go") => `(tactic| repeat (any_goals (first | assumption | wp_step)))
/-- set(xs), xs a list of texts -/
theorem set_of_txts {l : Addr} {items : Array Value} {xs : List Str} {Q : Value → Shared → Prop} (hh : A.handled = none) (isL : s.heap.IsList l items) (txt : StrsAre items.toList xs) (few : xs.length + 1 < scanBound)
    (q : ∀ (h' : Heap) (tk : Nat), Upto P w s.heap.objs.size xs xs.length h' → (∀ b o, s.heap.get? b = some o → h'.get? b = some o) → Q (.ref s.heap.objs.size) { s with heap := h', toks := tk }) :
    wpAny (model P w) A (call (.type "set") [.ref l]) Q E s := by
  have size : items.size = xs.length := by have z := StrsAre.length txt; rwa [Array.length_toList] at z
  let S := s.heap.objs.size
  let h1 := s.heap.push (newSetObj w)
  have at1 : h1.get? S = some (newSetObj w) := Heap.get?_push_size _ rfl
  have size1 : h1.objs.size = S + 1 := Heap.size_push ..
  obtain ⟨c, tl, mro⟩ := F.called_set.mro
  have made := F.called_set.made
  have sub := F.called_set.sub
  refine wpAny_call (codeAny_of_tree (wpAny_pure ⟨Code.quiet_builtin _ (by decide +kernel), codeAny_builtin F.entry_type_call ?_⟩))
  rw [Around.under_plain (weight_type_call_type "set" [.ref l] []) rfl]
  have nt := F.called_set.notType
  have cc := F.called_set.canCreate
  have tc := F.typeCall_set_1 (.ref l)
  walk_at "go"
  refine codeAny_mono (code_set_led1 (.ref l) (E := E) (Q₁ := fun obj t => obj = .ref S ∧ t = { s with heap := h1 }) ⟨rfl, rfl⟩) fun r t hr => ?_
  cases r with
  | error e => exact hr
  | ok fl =>
    cases fl with
    | next => exact hr.elim
    | brk => exact hr.elim
    | cont => exact hr.elim
    | ret obj =>
      obtain ⟨rfl, rfl⟩ := hr
      have ty : Shared.TypeIs { s with heap := h1 } (.ref S) "set" := ⟨_, at1, rfl⟩
      have li := F.called_set.init.lookup
      have bi := F.called_set.init.bind (.ref S)
      walk_at "go"
      refine codeAny_mono (codeAny_call_builtin (R := wants (fun r t2 => r = .none ∧ ∃ h' tk, t2 = { s with heap := h', toks := tk } ∧ Upto P w S xs xs.length h' ∧ ∀ b o, s.heap.get? b = some o → h'.get? b = some o) E) F.called_set.init.plain F.entry_set_init (check_set_init_1 ty ?_)) fun r2 t2 hr2 => ?_
      · obtain ⟨⟨cls, dct, dat, sls⟩, got, isCls, nn, isDat⟩ := isL
        simp only at isCls isDat
        subst isCls isDat
        have got1 : h1.get? l = some { cls := .type "list", dict := dct, data := .seq items nn, slots := sls } := Heap.get?_push_of_some _ got
        have q1 := F.sub_list_set
        have q2 := F.sub_list_frozenset
        have q3 : (Value.type "list" == Value.type "dict") = false := by decide
        have isL1 : h1.IsList l items := ⟨_, got1, rfl, nn, rfl⟩
        have ltS : l < S := Heap.lt_size got
        unfold Builtin.«set.__init__» noKeywords Builtin.Frozenset.updateFrom
        generalize keepIter : pyIter = PI
        wp_walk
        subst keepIter
        refine wpAny_pyIter_list isL1 (wpAny_bind (wpAny_runValue ?_))
        have calm : A.in1.in1.in1.handled = none := by simp [hh]
        have neIt : l ≠ h1.objs.size := by rw [size1]; exact Nat.ne_of_lt (Nat.lt_succ_of_lt ltS)
        have off : S ∉ [h1.objs.size, l] := by
          rw [size1]
          intro m
          rcases List.mem_cons.mp m with z | z
          · exact Nat.ne_of_lt (Nat.lt_succ_self _) z
          · exact Nat.ne_of_gt ltS (List.mem_singleton.mp z)
        have vals : ∀ (i : Nat) (v : Value), items[i]? = some v → ∃ z u, xs[i]? = some z ∧ v = Value.str z u := fun i v hv => by
          have hi : i < xs.length := by rw [← size]; exact (Array.getElem?_eq_some_iff.mp hv).1
          obtain ⟨u, e⟩ := SS.strs_at txt i v (by rw [Array.getElem?_toList]; exact hv)
          refine ⟨xs[i], u, List.getElem?_eq_getElem hi, e.trans ?_⟩
          rw [List.getD_eq_getElem?_getD, List.getElem?_eq_getElem hi]
          all_goals rfl
        refine loop_txts (xs := xs) (P := P) (w := w) ((Walks.list calm _ l neIt items).toS) off size few vals (items.size - 0) 0 _ (by omega) (Nat.zero_le _) ⟨⟨_, Heap.get?_push_size _ rfl, rfl, rfl⟩, isL1.push _⟩ ?first ?last
        case first => exact ⟨[], TxR.fresh (Heap.get?_push_of_some _ at1), fun z => by simp, Nat.le_refl _⟩
        case last =>
          rintro ⟨h', g', d', tk', os'⟩ moved up
          obtain rfl : g' = s.gens := moved.gens
          obtain rfl : d' = s.drawn := moved.drawn
          obtain rfl : os' = s.os := moved.os
          rw [size] at up
          refine wpAny_pure (wpAny_pure ⟨rfl, h', tk', rfl, up, fun b o e => ?_⟩)
          have ltb : b < S := Heap.lt_size e
          refine moved.heap b o (fun m => ?_) (Heap.get?_push_of_some _ (Heap.get?_push_of_some _ e))
          rcases List.mem_cons.mp m with z | z
          · exact Nat.ne_of_lt ltb z
          · have z := List.mem_singleton.mp z
            rw [size1] at z
            exact absurd z (Nat.ne_of_lt (Nat.lt_succ_of_lt ltb))
      · cases r2 with
        | error e => exact hr2
        | ok fl2 =>
          cases fl2 with
          | next => exact hr2.elim
          | brk => exact hr2.elim
          | cont => exact hr2.elim
          | ret r =>
            obtain ⟨rfl, h', tk, rfl, up, kept⟩ := hr2
            walk_at "go"
            exact q _ _ up kept
end
end SC
namespace SC
open PySem PySem.Spec PyProof.Rows L2
open PySem.Froz (SD sObj TxOk)
/-! the order of texts -/
def lt (x y : Str) : Bool := ltCps (TL.tl x) (TL.tl y)
theorem ltc_irr : ∀ a : List Nat, ltCps a a = false
  | [] => rfl
  | x :: r => by
    show (decide (x < x) || (x == x && ltCps r r)) = false
    rw [ltc_irr r, decide_eq_false (Nat.lt_irrefl x), Bool.and_false]; rfl
theorem ltc_trans : ∀ a b c : List Nat, ltCps a b = true → ltCps b c = true → ltCps a c = true
  | [], [], _, h, _ => by cases h
  | [], _ :: _, [], _, h => by cases h
  | [], _ :: _, _ :: _, _, _ => rfl
  | _ :: _, [], _, h, _ => by cases h
  | _ :: _, _ :: _, [], _, h => by cases h
  | x :: a, y :: b, z :: c, h1, h2 => by
    have k1 : (decide (x < y) || (x == y && ltCps a b)) = true := h1
    have k2 : (decide (y < z) || (y == z && ltCps b c)) = true := h2
    show (decide (x < z) || (x == z && ltCps a c)) = true
    clear h1 h2
    simp only [Bool.or_eq_true, Bool.and_eq_true, decide_eq_true_eq, beq_iff_eq] at k1 k2 ⊢
    rcases k1 with k1 | ⟨e1, k1⟩
    · rcases k2 with k2 | ⟨e2, _⟩
      · exact .inl (Nat.lt_trans k1 k2)
      · exact .inl (by omega)
    · rcases k2 with k2 | ⟨e2, k2⟩
      · exact .inl (by omega)
      · exact .inr ⟨e1.trans e2, ltc_trans a b c k1 k2⟩
theorem ltc_tri : ∀ a b : List Nat, a = b ∨ ltCps a b = true ∨ ltCps b a = true
  | [], [] => .inl rfl
  | [], _ :: _ => .inr (.inl rfl)
  | _ :: _, [] => .inr (.inr rfl)
  | x :: a, y :: b => by
    show _ ∨ (decide (x < y) || (x == y && ltCps a b)) = true ∨ (decide (y < x) || (y == x && ltCps b a)) = true
    simp only [Bool.or_eq_true, Bool.and_eq_true, decide_eq_true_eq, beq_iff_eq]
    rcases Nat.lt_trichotomy x y with h | rfl | h
    · exact .inr (.inl (.inl h))
    · rcases ltc_tri a b with rfl | h | h
      · exact .inl rfl
      · exact .inr (.inl (.inr ⟨rfl, h⟩))
      · exact .inr (.inr (.inr ⟨rfl, h⟩))
    · exact .inr (.inr (.inl h))
theorem lt_irr (x : Str) : lt x x = false := ltc_irr _
theorem lt_trans {x y z : Str} (h1 : lt x y = true) (h2 : lt y z = true) : lt x z = true := ltc_trans _ _ _ h1 h2
theorem lt_tri (x y : Str) : x = y ∨ lt x y = true ∨ lt y x = true := (ltc_tri (TL.tl x) (TL.tl y)).imp TL.ext_tl id
theorem lt_asym {x y : Str} (h : lt x y = true) : lt y x = false := by
  cases e : lt y x with
  | false => rfl
  | true =>
    have := lt_trans h e
    rw [lt_irr] at this; cases this
/-- strictly ascending -/
def asc : List Str → Bool
  | [] => true
  | x :: r => (match r with | [] => true | y :: _ => lt x y) && asc r
theorem asc_cons {x : Str} {r : List Str} : asc (x :: r) = true ↔ (∀ y ∈ r, lt x y = true) ∧ asc r = true := by
  induction r generalizing x with
  | nil => exact ⟨fun _ => ⟨fun y h => absurd h List.not_mem_nil, rfl⟩, fun _ => rfl⟩
  | cons y r ih =>
    show (lt x y && asc (y :: r)) = true ↔ _
    rw [Bool.and_eq_true]
    constructor
    · rintro ⟨h1, h2⟩
      refine ⟨fun z hz => ?_, h2⟩
      rcases List.mem_cons.mp hz with rfl | hz
      · exact h1
      · exact lt_trans h1 ((ih.mp h2).1 z hz)
    · rintro ⟨h1, h2⟩
      exact ⟨h1 y List.mem_cons_self, h2⟩
theorem asc_nodup : ∀ {l : List Str}, asc l = true → l.Nodup
  | [], _ => List.nodup_nil
  | x :: r, h => by
    obtain ⟨h1, h2⟩ := asc_cons.mp h
    refine List.nodup_cons.mpr ⟨fun m => ?_, asc_nodup h2⟩
    have := h1 x m
    rw [lt_irr] at this; cases this
/-- an ascending list is known by its members -/
theorem asc_eq : ∀ {l m : List Str}, asc l = true → asc m = true → (∀ z, z ∈ l ↔ z ∈ m) → l = m
  | [], [], _, _, _ => rfl
  | [], y :: _, _, _, h => absurd ((h y).mpr List.mem_cons_self) List.not_mem_nil
  | x :: _, [], _, _, h => absurd ((h x).mp List.mem_cons_self) List.not_mem_nil
  | x :: l, y :: m, h1, h2, h => by
    obtain ⟨a1, a2⟩ := asc_cons.mp h1
    obtain ⟨b1, b2⟩ := asc_cons.mp h2
    have e : x = y := by
      rcases List.mem_cons.mp ((h x).mp List.mem_cons_self) with e | e
      · exact e
      rcases List.mem_cons.mp ((h y).mpr List.mem_cons_self) with e2 | e2
      · exact e2.symm
      have := lt_asym (b1 x e)
      rw [a1 y e2] at this; cases this
    subst e
    congr 1
    refine asc_eq a2 b2 fun z => ?_
    constructor
    · intro hz
      rcases List.mem_cons.mp ((h z).mp (List.mem_cons_of_mem _ hz)) with e | e
      · subst e
        have := a1 z hz
        rw [lt_irr] at this; cases this
      · exact e
    · intro hz
      rcases List.mem_cons.mp ((h z).mpr (List.mem_cons_of_mem _ hz)) with e | e
      · subst e
        have := b1 z hz
        rw [lt_irr] at this; cases this
      · exact e
theorem rise_cons : ∀ (p : Str) (l : List Str), risingS p l = true → (p :: l).Nodup → asc (p :: l) = true
  | _, [], _, _ => rfl
  | p, x :: r, h, n => by
    have h : (!ltCps x.cps.toList p.cps.toList && risingS x r) = true := h
    rw [Bool.and_eq_true] at h
    show (lt p x && asc (x :: r)) = true
    rw [rise_cons x r h.2 (List.nodup_cons.mp n).2, Bool.and_true]
    rcases lt_tri p x with e | e | e
    · exact absurd (by rw [e]; exact List.mem_cons_self) (List.nodup_cons.mp n).1
    · exact e
    · have e : ltCps x.cps.toList p.cps.toList = true := e
      rw [e] at h; cases h.1
theorem asc_of {l : List Str} (h : sortedS l = true) (n : l.Nodup) : asc l = true := by
  cases l with
  | nil => rfl
  | cons x r => exact rise_cons x r h n
theorem perm_sub {α : Type} [DecidableEq α] : ∀ (l m : List α), l.Nodup → (∀ x ∈ l, x ∈ m) → m.length ≤ l.length → l.Perm m
  | [], m, _, _, h => by
    have : m = [] := List.eq_nil_of_length_eq_zero (Nat.le_zero.mp h)
    rw [this]
  | x :: l, m, n, s, h => by
    obtain ⟨n1, n2⟩ := List.nodup_cons.mp n
    have hx := s x List.mem_cons_self
    have p := List.perm_cons_erase hx
    refine ((perm_sub l (m.erase x) n2 (fun y hy => ?_) ?_).cons x).trans p.symm
    · exact (List.mem_erase_of_ne (fun e => n1 (by rw [← e]; exact hy))).mpr (s y (List.mem_cons_of_mem _ hy))
    · have := p.length_eq
      rw [List.length_cons] at this
      rw [List.length_cons] at h
      omega
section
variable {P : Program} {w : World} {A : Around} {E : Value → Shared → Prop} {s : Shared}
def txtOf : Value → Str
  | .str z _ => z
  | _ => Str.empty
theorem strsAre_map : ∀ (vs : List Value), (∀ v ∈ vs, ∃ z u, v = Value.str z u) → StrsAre vs (vs.map txtOf)
  | [], _ => .nil
  | v :: r, h => by
    obtain ⟨z, u, rfl⟩ := h v List.mem_cons_self
    exact .cons z u (strsAre_map r fun y hy => h y (List.mem_cons_of_mem _ hy))
/-- sorted(S), S a set of texts -/
theorem sorted_txts {a : Addr} {l : List Str} {Q : Value → Shared → Prop} (R : TxR P w s.heap a l) (few : l.length < scanBound) (hh : A.handled = none)
    (q : ∀ (s' : Shared) (p : Addr) (out : Array Value) (c : Nat) (ys : List Str), (∀ b o, s.heap.get? b = some o → s'.heap.get? b = some o) → s'.gens = s.gens → s'.os = s.os → s.heap.objs.size ≤ p → s'.heap.get? p = some (seqObj "list" out c) → StrsAre out.toList ys → ys.Perm l → sortedS ys = true → Q (.ref p) s') :
    wpAny (model P w) A (call (.builtin "sorted") [.ref a]) Q E s := by
  obtain ⟨⟨es, ep, t⟩, at_, ok, ris, walk⟩ := R.ex
  have size : es.size = l.length := ok.sz
  refine Calls.call_function_entry kind_sorted plain_sorted entry_sorted (args_sorted1 _) ?_
  unfold Builtin.«sorted»
  refine wpAny_bind (m := checkCount "sorted" 1 1 _) (wpAny_pure (wpAny_bind (collect_set (A := A.in1) hh ⟨_, at_, rfl, rfl⟩ ok.fit (by rw [size]; exact few) ris walk fun s1 vs kept bigger gens os perm => ?_)))
  have lenV : vs.length = l.length := by rw [perm.length_eq, List.length_map, Array.length_toList]; exact size
  have allT : ∀ v ∈ vs, ∃ z u, v = Value.str z u ∧ z ∈ l := fun v hv => by
    obtain ⟨e, he, rfl⟩ := List.mem_map.mp (perm.mem_iff.mp hv)
    obtain ⟨⟨k, isK, _⟩, _⟩ := ok.el e he
    have m : k ∈ l := (ok.mem k).mpr ⟨e, he, isK⟩
    have isK : Value.isStrOf k e.2 = true := isK
    cases q : e.2 <;> rw [q] at isK <;> first | (cases isK; done) | skip
    rename_i z u
    have : z = k := by simpa [Value.isStrOf] using isK
    exact ⟨z, u, rfl, by rw [this]; exact m⟩
  have txt := strsAre_map vs fun v hv => let ⟨z, u, e, _⟩ := allT v hv; ⟨z, u, e⟩
  have permL : (vs.map txtOf).Perm l := by
    refine (perm_sub l (vs.map txtOf) R.nd (fun z hz => ?_) (by rw [List.length_map, lenV]; exact Nat.le_refl _)).symm
    obtain ⟨e, he, isK⟩ := (ok.mem z).mp hz
    have mv : e.2 ∈ vs := perm.mem_iff.mpr (List.mem_map.mpr ⟨e, he, rfl⟩)
    obtain ⟨y, u, ey, _⟩ := allT _ mv
    have isK : Value.isStrOf z e.2 = true := isK
    rw [ey] at isK mv
    have : y = z := by simpa [Value.isStrOf] using isK
    exact List.mem_map.mpr ⟨_, mv, this⟩
  have fits : vs.length ≤ sizeLine := by rw [lenV]; exact Nat.le_trans (Nat.le_of_lt few) (by rw [sizeLine_eq]; decide)
  refine wpAny_bind (wpAny_newList ?_ fits)
  have atL : (s1.heap.push (seqObj "list" vs.toArray 0)).get? s1.heap.objs.size = some (seqObj "list" vs.toArray 0) := Heap.get?_push_size _ rfl
  refine wpAny_bind (wpAny_holding (wpAny_call_entry slot_list_sort ⟨_, atL, rfl⟩ entry_list_sort (list_sort_treeKAny strKind_oneLt atL txt.keysOf (fun v1 v2 rest e => keyKind_strs (by rw [← e]; exact txt)) fits fun st hp hs => ?_) (args_list_sort _)))
  obtain ⟨ys, isY, permY, srt⟩ := sorted_out_str txt hp hs
  obtain ⟨c, atS⟩ := sortedHeap_at (vs := vs) (out := (arrOf st).map (·.2)) atL
  refine ⟨_, rfl, wpAny_pure ⟨_, rfl, q _ s1.heap.objs.size _ c ys (fun b u e => ?_) gens os bigger atS isY (permY.trans permL) srt⟩⟩
  have old := Heap.lt_size (kept b u e)
  show (sortedHeap (s1.heap.push (seqObj "list" vs.toArray 0)) s1.heap.objs.size vs ((arrOf st).map (·.2))).get? b = some u
  rw [sortedHeap_old (Nat.ne_of_lt old) (by rw [Heap.size_push]; exact Nat.lt_succ_of_lt old)]
  exact Heap.get?_push_of_some _ (kept b u e)
end
section
variable {X : Cx}
theorem strsOf : ∀ {ys : List Str} {us : List Value}, Vals (ys.map V.str) us → StrsAre us ys
  | [], _, .nil => .nil
  | y :: ys, _, .cons r t => by
    obtain ⟨k, rfl⟩ := r
    exact .cons y k (strsOf t)
/-- sorted(xs) of texts, of any number -/
def rSortedA (K : PySem.W.Frag) : List V → Hp → VK → Prop := fun vs H Q => ∃ (a : Addr) (xs : List Str), vs = [V.ref a] ∧ SqL K H a (xs.map V.str) ∧ ∀ (ys : List Str) (p : Addr), ys.Perm xs → sortedS ys = true → H p = none → Q (.ref p) (upd H p (.lst (ys.map V.str)))
theorem cr_sortedA : CallR X (.builtin "sorted") (rSortedA X.K) := by
  intro pins s σ H vs us Q I r h
  obtain ⟨a, xs, rfl, isL, q⟩ := h
  obtain ⟨its, rv, hl, fits⟩ := I.list isL
  rw [Vals.ref1 r]
  refine sorted_strsAny hl.isList (strsOf rv) (by rw [← rv.length]; exact fits) fun out ys isY perm srt => ?_
  obtain ⟨c, atS⟩ := sortedAll_at s.heap its out
  have len : (ys.map V.str).length ≤ sizeLine := by
    rw [List.length_map] at fits ⊢
    rw [perm.length_eq]; exact fits
  have J := I.laid (a := s.heap.objs.size + 1) (o := .lst (ys.map V.str)) (t' := s.toks) (fun _ _ => sortedAll_old) (Nat.le_succ _) ⟨len, out.toList, c, vals_of_strs isY, atS⟩
  exact ⟨.ref _, _, J, rfl, q ys _ perm srt (I.hok.fresh (Nat.le_succ _))⟩
/-- sorted(set(xs)), xs a list of texts -/
def tSortSet (K : PySem.W.Frag) (ta : TE) : TE := fun σ H Q => ta σ H fun x H1 => ∃ (l : Addr) (xs : List Str), x = .ref l ∧ SqL K H1 l (xs.map V.str) ∧ xs.length ≤ 1000 ∧
  ∀ (ys : List Str) (p : Addr), asc ys = true → (∀ z, z ∈ ys ↔ z ∈ xs) → H1 p = none → Q (.ref p) (upd H1 p (.lst (ys.map V.str)))
theorem pe_sortSet {e : Expr} {ta : TE} {p1 p2 p3 p4 : Pos} (calm : X.calm = true) (g1 : Gl X "sorted") (m1 : X.mg "sorted" = none) (g2 : Gl X "set") (m2 : X.mg "set" = none) (he : PE X e ta)
    (one : starEach [e] X.env = (false, eval e X.env) :: starEach [] X.env := by rfl) : PE X (.Call (.Name "sorted" p1) [.Call (.Name "set" p2) [e] [] p3] [] p4) (tSortSet X.K ta) := by
  refine ⟨fun held s σ H Q I pre => Call_ (ld_blt I g1 m1 (show bootBuiltins "sorted" = some (.builtin "sorted") by decide +kernel) (callWith_builtin1 (args_cons (Call_ (ld_blt I g2 m2 (show bootBuiltins "set" = some (.type "set") by decide +kernel) (callWith_type1 (args_cons (thn (he.run held s σ H _ I pre) fun u s1 gives => args_nil ?_) one) one rfl))) rfl) rfl rfl))⟩
  obtain ⟨v, H1, I1, rel, l, xs, rfl, isL, few, q⟩ := gives
  cases (show u = Value.ref l from rel)
  obtain ⟨its, rv, hl, _⟩ := I1.list isL
  have bound : xs.length + 1 < scanBound := Nat.lt_of_le_of_lt (Nat.succ_le_succ few) (by decide)
  have hh : X.A.handled = none := I1.ok.hd calm
  refine set_of_txts hh hl.isList (by simpa using strsOf rv) bound fun h' tk up kept => args_nil ?_
  obtain ⟨ms, tr, mem, le⟩ := up
  rw [List.take_of_length_le (Nat.le_refl _)] at mem
  have lms : ms.length < scanBound := Nat.lt_of_le_of_lt le (Nat.lt_of_succ_lt bound)
  refine sorted_txts (s := { s1 with heap := h', toks := tk }) tr lms hh fun s' p out c ys kept2 gens os bigger atS isY perm srt => ?_
  have old : ∀ b o, s1.heap.get? b = some o → s'.heap.get? b = some o := fun b o q => kept2 b o (kept b o q)
  obtain ⟨_, atD, _⟩ := id tr.ex
  have ge : s1.heap.objs.size ≤ p := Nat.le_trans (Nat.le_of_lt (Heap.lt_size atD)) bigger
  have free : H1 p = none := I1.hok.fresh ge
  have len : (ys.map V.str).length ≤ sizeLine := by
    rw [List.length_map, perm.length_eq]
    exact Nat.le_trans (Nat.le_of_lt lms) (by rw [sizeLine_eq]; decide)
  have J : Inv X held σ (upd H1 p (.lst (ys.map V.str))) { s1 with heap := s'.heap, gens := s'.gens, drawn := s'.drawn, toks := s'.toks } :=
    I1.call (ch := []) (Un.laid old ge free) (I1.hok.laid old ge ⟨len, out.toList, c, vals_of_strs isY, atS⟩) (by rw [gens]; exact I1.bare) (fun _ z => nomatch z)
  have same : s' = { s1 with heap := s'.heap, gens := s'.gens, drawn := s'.drawn, toks := s'.toks } := by
    obtain ⟨a1, a2, a3, a4, a5⟩ := s'
    obtain rfl : a5 = s1.os := os
    rfl
  rw [same]
  exact ⟨.ref p, _, J, rfl, q ys p (asc_of srt (perm.nodup_iff.mpr tr.nd)) (fun z => (perm.mem_iff).trans (mem z)) free⟩
end
end SC
set_option maxHeartbeats 2000000 -- from here on
/-! sum(..) over a generator expression whose element is any expression of the layer -/
/-! values as data: documents that are drawn, and what is spoilt in them; x * n of texts, t[::-1] of tuples -/
namespace SC
open PySem L2
mutual
/-- a value of the tracked heap, as data -/
inductive Rq (H : Hp) : V → PyData → Prop
  | non : Rq H .non .none
  | bl (b : Bool) : Rq H (.bl b) (.bool b)
  | int (i : Int) : Rq H (.int i) (.int i)
  | str (z : Str) : Rq H (.str z) (.str z)
  | lst {a : Addr} {xs : List V} {ds : List PyData} : H a = some (.lst xs) → RqA H xs ds → Rq H (.ref a) (.list ds)
  | tup {a : Addr} {xs : List V} {ds : List PyData} : H a = some (.tup xs) → RqA H xs ds → Rq H (.ref a) (.tuple ds)
inductive RqA (H : Hp) : List V → List PyData → Prop
  | nil : RqA H [] []
  | cons {v : V} {vs : List V} {d : PyData} {ds : List PyData} : Rq H v d → RqA H vs ds → RqA H (v :: vs) (d :: ds)
end
def tyD : PyData → String
  | .none => "NoneType" | .bool _ => "bool" | .int _ => "int" | .str _ => "str" | .list _ => "list" | .tuple _ => "tuple" | .dict _ => "dict"
theorem Rq.ty {H : Hp} {v : V} {d : PyData} (h : Rq H v d) : tyN H v = some (tyD d) := by
  cases h with
  | lst e _ => exact tyN_lst e
  | tup e _ => exact tyN_tup e
  | _ => rfl
theorem Rq.tyx {H : Hp} {v : V} {d : PyData} (h : Rq H v d) : ∃ t, tyN H v = some t := ⟨_, h.ty⟩
theorem RqA.len {H : Hp} : ∀ {xs : List V} {ds : List PyData}, RqA H xs ds → xs.length = ds.length
  | _, _, .nil => rfl
  | _, _, .cons _ h => congrArg (· + 1) h.len
theorem RqA.app {H : Hp} : ∀ {xs ys : List V} {ds es : List PyData}, RqA H xs ds → RqA H ys es → RqA H (xs ++ ys) (ds ++ es)
  | _, _, _, _, .nil, h => h
  | _, _, _, _, .cons a b, h => .cons a (b.app h)
theorem RqA.get {H : Hp} : ∀ {xs : List V} {ds : List PyData} {i : Nat} {x : V}, RqA H xs ds → xs[i]? = some x → ∃ d, ds[i]? = some d ∧ Rq H x d
  | _, _, _, _, .nil, h => by simp at h
  | _, _, 0, _, .cons a _, h => by
    have e := Option.some.inj h
    subst e
    exact ⟨_, rfl, a⟩
  | _, _, i + 1, _, .cons _ b, h => b.get (i := i) h
theorem RqA.at {H : Hp} {xs : List V} {ds : List PyData} (r : RqA H xs ds) {i : Nat} (h : i < ds.length) : ∃ x, xs[i]? = some x ∧ Rq H x (ds.getD i .none) := by
  obtain ⟨d, e, q⟩ := r.get (i := i) (x := xs[i]'(by rw [r.len]; exact h)) (List.getElem?_eq_getElem _)
  refine ⟨_, List.getElem?_eq_getElem (by rw [r.len]; exact h), ?_⟩
  rw [List.getD_eq_getElem?_getD, e]
  exact q
theorem RqA.ix {H : Hp} {xs : List V} {ds : List PyData} (r : RqA H xs ds) {i : Nat} (h : i < ds.length) : ∃ x, atI xs (i : Int) = some x ∧ Rq H x (ds.getD i .none) :=
  let ⟨x, e, q⟩ := r.at h
  ⟨x, atI_nat e, q⟩
theorem RqA.take {H : Hp} : ∀ {xs : List V} {ds : List PyData} (n : Nat), RqA H xs ds → RqA H (xs.take n) (ds.take n)
  | _, _, 0, _ => .nil
  | _, _, _ + 1, .nil => .nil
  | _, _, n + 1, .cons a b => .cons a (b.take n)
theorem RqA.drop {H : Hp} : ∀ {xs : List V} {ds : List PyData} (n : Nat), RqA H xs ds → RqA H (xs.drop n) (ds.drop n)
  | _, _, 0, h => h
  | _, _, _ + 1, .nil => .nil
  | _, _, n + 1, .cons _ b => b.drop n
mutual
theorem Rq.tabs {Ts : List Addr} {H H' : Hp} (k : Kp Ts H H') (g : Tabs Ts H) : ∀ {v : V} {d : PyData}, Rq H v d → Rq H' v d
  | _, _, .non => .non
  | _, _, .bl b => .bl b
  | _, _, .int i => .int i
  | _, _, .str z => .str z
  | _, _, .lst e r => .lst (k.get g e) (r.tabs k g)
  | _, _, .tup e r => .tup (k.tup _ _ e) (r.tabs k g)
theorem RqA.tabs {Ts : List Addr} {H H' : Hp} (k : Kp Ts H H') (g : Tabs Ts H) : ∀ {vs : List V} {ds : List PyData}, RqA H vs ds → RqA H' vs ds
  | _, _, .nil => .nil
  | _, _, .cons a b => .cons (a.tabs k g) (b.tabs k g)
end
theorem tabs_nil {H : Hp} : Tabs [] H := fun _ m => absurd m List.not_mem_nil
theorem Rq.kp0 {H H' : Hp} {v : V} {d : PyData} (h : Rq H v d) (k : Kp [] H H') : Rq H' v d := h.tabs k tabs_nil
theorem RqA.kp0 {H H' : Hp} {v : List V} {d : List PyData} (h : RqA H v d) (k : Kp [] H H') : RqA H' v d := h.tabs k tabs_nil
mutual
theorem Rq.dp {K : PySem.W.Frag} {H : Hp} : ∀ {v : V} {d : PyData}, Rq H v d → Dp K H v d
  | _, _, .non => .non
  | _, _, .bl b => .bl b
  | _, _, .int i => .int i
  | _, _, .str z => .str z
  | _, _, .lst e r => .lst (SqL.of e) r.dp
  | _, _, .tup e r => .tup (SqT.of e) r.dp
theorem RqA.dp {K : PySem.W.Frag} {H : Hp} : ∀ {vs : List V} {ds : List PyData}, RqA H vs ds → DpAll K H vs ds
  | _, _, .nil => .nil
  | _, _, .cons a b => .cons a.dp b.dp
end
mutual
/-- sizes of what is spoilt -/
def okD (n : Nat) : PyData → Bool
  | .none => true
  | .bool _ => true
  | .int i => decide (-99999999999999999999 ≤ i) && decide (i ≤ 99999999999999999999)
  | .str z => decide (z.length ≤ 200000) && PyData.strOk z
  | .list ds => match n with
    | 0 => false
    | m + 1 => decide (ds.length ≤ 200000) && okDs m ds
  | .tuple ds => match n with
    | 0 => false
    | m + 1 => decide (ds.length ≤ 200000) && okDs m ds
  | .dict _ => false
def okDs (n : Nat) : List PyData → Bool
  | [] => true
  | d :: ds => okD n d && okDs n ds
end
mutual
/-- what a law draws: ints, texts, tuples -/
def inD (n : Nat) : PyData → Bool
  | .int i => decide (0 ≤ i) && decide (i ≤ 1000000000000)
  | .str z => decide (z.length ≤ 100) && z.cps.toList.all fun c => decide (c < 128)
  | .tuple ds => match n with
    | 0 => false
    | m + 1 => decide (ds.length ≤ 100) && inDs m ds
  | _ => false
def inDs (n : Nat) : List PyData → Bool
  | [] => true
  | d :: ds => inD n d && inDs n ds
end
theorem okDs_all {n : Nat} : ∀ {ds : List PyData}, okDs n ds = true ↔ ∀ d ∈ ds, okD n d = true
  | [] => ⟨fun _ d m => absurd m List.not_mem_nil, fun _ => rfl⟩
  | d :: ds => by
    show (okD n d && okDs n ds) = true ↔ _
    rw [Bool.and_eq_true, okDs_all (ds := ds), List.forall_mem_cons]
theorem inDs_all {n : Nat} : ∀ {ds : List PyData}, inDs n ds = true ↔ ∀ d ∈ ds, inD n d = true
  | [] => ⟨fun _ d m => absurd m List.not_mem_nil, fun _ => rfl⟩
  | d :: ds => by
    show (inD n d && inDs n ds) = true ↔ _
    rw [Bool.and_eq_true, inDs_all (ds := ds), List.forall_mem_cons]
theorem okD_tup {n : Nat} {ds : List PyData} : okD (n + 1) (.tuple ds) = true ↔ ds.length ≤ 200000 ∧ ∀ d ∈ ds, okD n d = true := by
  show (decide (ds.length ≤ 200000) && okDs n ds) = true ↔ _
  rw [Bool.and_eq_true, decide_eq_true_eq, okDs_all]
theorem inD_tup {n : Nat} {ds : List PyData} : inD (n + 1) (.tuple ds) = true ↔ ds.length ≤ 100 ∧ ∀ d ∈ ds, inD n d = true := by
  show (decide (ds.length ≤ 100) && inDs n ds) = true ↔ _
  rw [Bool.and_eq_true, decide_eq_true_eq, inDs_all]
theorem okD_str {n : Nat} {z : Str} : okD n (.str z) = true ↔ z.length ≤ 200000 ∧ PyData.strOk z = true := by
  rw [show okD n (.str z) = (decide (z.length ≤ 200000) && PyData.strOk z) by cases n <;> rfl, Bool.and_eq_true, decide_eq_true_eq]
theorem okD_int {n : Nat} {i : Int} : okD n (.int i) = true ↔ -99999999999999999999 ≤ i ∧ i ≤ 99999999999999999999 := by
  rw [show okD n (.int i) = (decide (-99999999999999999999 ≤ i) && decide (i ≤ 99999999999999999999)) by cases n <;> rfl, Bool.and_eq_true, decide_eq_true_eq, decide_eq_true_eq]
theorem inD_str {n : Nat} {z : Str} : inD n (.str z) = true ↔ z.length ≤ 100 ∧ ∀ c ∈ z.cps.toList, c < 128 := by
  rw [show inD n (.str z) = (decide (z.length ≤ 100) && z.cps.toList.all fun c => decide (c < 128)) by cases n <;> rfl, Bool.and_eq_true, decide_eq_true_eq, List.all_eq_true]
  simp only [decide_eq_true_eq]
theorem inD_int {n : Nat} {i : Int} : inD n (.int i) = true ↔ 0 ≤ i ∧ i ≤ 1000000000000 := by
  rw [show inD n (.int i) = (decide (0 ≤ i) && decide (i ≤ 1000000000000)) by cases n <;> rfl, Bool.and_eq_true, decide_eq_true_eq, decide_eq_true_eq]
theorem strOk_low {z : Str} (h : ∀ c ∈ z.cps.toList, c < 128) : PyData.strOk z = true := by
  unfold PyData.strOk
  rw [← Array.all_toList, List.all_eq_true]
  exact fun c hc => decide_eq_true (Nat.lt_of_lt_of_le (h c hc) (by decide))
mutual
theorem in_ok : ∀ (n : Nat) (d : PyData), inD n d = true → okD n d = true
  | n, .int i, h => okD_int.mpr (by have := inD_int.mp h; omega)
  | n, .str z, h => okD_str.mpr ⟨by have := (inD_str.mp h).1; omega, strOk_low (inD_str.mp h).2⟩
  | 0, .tuple _, h => by cases h
  | n + 1, .tuple ds, h => by
    have q : (decide (ds.length ≤ 100) && inDs n ds) = true := h
    rw [Bool.and_eq_true, decide_eq_true_eq] at q
    show (decide (ds.length ≤ 200000) && okDs n ds) = true
    rw [decide_eq_true (by omega), ins_ok n ds q.2]; rfl
  | n, .none, h => by cases n <;> cases h
  | n, .bool _, h => by cases n <;> cases h
  | n, .list _, h => by cases n <;> cases h
  | n, .dict _, h => by cases n <;> cases h
theorem ins_ok : ∀ (n : Nat) (ds : List PyData), inDs n ds = true → okDs n ds = true
  | _, [], _ => rfl
  | n, d :: ds, h => by
    have h : (inD n d && inDs n ds) = true := h
    rw [Bool.and_eq_true] at h
    show (okD n d && okDs n ds) = true
    rw [in_ok n d h.1, ins_ok n ds h.2]; rfl
end
mutual
theorem ok_mono : ∀ (n m : Nat) (d : PyData), n ≤ m → okD n d = true → okD m d = true
  | n, m, .int i, _, h => okD_int.mpr (okD_int.mp h)
  | n, m, .str z, _, h => okD_str.mpr (okD_str.mp h)
  | _, m, .none, _, _ => by cases m <;> rfl
  | _, m, .bool _, _, _ => by cases m <;> rfl
  | 0, _, .tuple _, _, h => by cases h
  | 0, _, .list _, _, h => by cases h
  | n + 1, 0, .tuple _, q, _ => by omega
  | n + 1, 0, .list _, q, _ => by omega
  | n + 1, m + 1, .tuple ds, q, h => by
    have z : (decide (ds.length ≤ 200000) && okDs n ds) = true := h
    rw [Bool.and_eq_true] at z
    show (decide (ds.length ≤ 200000) && okDs m ds) = true
    rw [z.1, oks_mono n m ds (by omega) z.2]; rfl
  | n + 1, m + 1, .list ds, q, h => by
    have z : (decide (ds.length ≤ 200000) && okDs n ds) = true := h
    rw [Bool.and_eq_true] at z
    show (decide (ds.length ≤ 200000) && okDs m ds) = true
    rw [z.1, oks_mono n m ds (by omega) z.2]; rfl
  | n, _, .dict _, _, h => by cases n <;> cases h
theorem oks_mono : ∀ (n m : Nat) (ds : List PyData), n ≤ m → okDs n ds = true → okDs m ds = true
  | _, _, [], _, _ => rfl
  | n, m, d :: ds, q, h => by
    have h : (okD n d && okDs n ds) = true := h
    rw [Bool.and_eq_true] at h
    show (okD m d && okDs m ds) = true
    rw [ok_mono n m d q h.1, oks_mono n m ds q h.2]; rfl
end
mutual
theorem ok_lay : ∀ (n : Nat) (d : PyData), okD n d = true → PyData.canLay0 d = true ∧ PyData.depth d ≤ n
  | n, .int _, _ => ⟨by simp [PyData.canLay0], by simp [PyData.depth]⟩
  | n, .str z, h => ⟨by simp [PyData.canLay0, (okD_str.mp h).2], by simp [PyData.depth]⟩
  | n, .none, _ => ⟨by simp [PyData.canLay0], by simp [PyData.depth]⟩
  | n, .bool _, _ => ⟨by simp [PyData.canLay0], by simp [PyData.depth]⟩
  | 0, .tuple _, h => by cases h
  | 0, .list _, h => by cases h
  | n + 1, .tuple ds, h => by
    have z : (decide (ds.length ≤ 200000) && okDs n ds) = true := h
    rw [Bool.and_eq_true] at z
    obtain ⟨a, b⟩ := oks_lay n ds z.2
    exact ⟨by simp [PyData.canLay0, a], by simp only [PyData.depth]; omega⟩
  | n + 1, .list ds, h => by
    have z : (decide (ds.length ≤ 200000) && okDs n ds) = true := h
    rw [Bool.and_eq_true] at z
    obtain ⟨a, b⟩ := oks_lay n ds z.2
    exact ⟨by simp [PyData.canLay0, a], by simp only [PyData.depth]; omega⟩
  | n, .dict _, h => by cases n <;> cases h
theorem oks_lay : ∀ (n : Nat) (ds : List PyData), okDs n ds = true → PyData.canLayAll0 ds = true ∧ PyData.depthAll ds ≤ n
  | n, [], _ => ⟨by simp [PyData.canLayAll0], by simp [PyData.depthAll]⟩
  | n, d :: ds, h => by
    have h : (okD n d && okDs n ds) = true := h
    rw [Bool.and_eq_true] at h
    obtain ⟨a1, a2⟩ := ok_lay n d h.1
    obtain ⟨b1, b2⟩ := oks_lay n ds h.2
    exact ⟨by simp [PyData.canLayAll0, a1, b1], by simp only [PyData.depthAll]; omega⟩
end
theorem ok_shaped {n : Nat} {d : PyData} (h : okD n d = true) (hn : n ≤ 64) : SeqAt.shaped d = true := by
  obtain ⟨a, b⟩ := ok_lay n d h
  unfold SeqAt.shaped
  rw [a, decide_eq_true (by omega)]; rfl
mutual
theorem Rq.pur {S : List Addr} {H H' : Hp} (k : Kp S H H') : ∀ (n : Nat) {v : V} {d : PyData}, Rq H v d → inD n d = true → Rq H' v d
  | _, _, _, .int i, _ => .int i
  | _, _, _, .str z, _ => .str z
  | 0, _, _, .tup _ _, h => by cases h
  | n + 1, _, _, .tup (ds := ds) e r, h => by
    have z : (decide (ds.length ≤ 100) && inDs n ds) = true := h
    rw [Bool.and_eq_true] at z
    exact .tup (k.tup _ _ e) (r.pur k n z.2)
  | n, _, _, .non, h => by cases n <;> cases h
  | n, _, _, .bl _, h => by cases n <;> cases h
  | n, _, _, .lst _ _, h => by cases n <;> cases h
theorem RqA.pur {S : List Addr} {H H' : Hp} (k : Kp S H H') : ∀ (n : Nat) {vs : List V} {ds : List PyData}, RqA H vs ds → inDs n ds = true → RqA H' vs ds
  | _, _, _, .nil, _ => .nil
  | n, _, _, .cons (d := d) (ds := ds) a b, h => by
    have h : (inD n d && inDs n ds) = true := h
    rw [Bool.and_eq_true] at h
    exact .cons (a.pur k n h.1) (b.pur k n h.2)
end
mutual
/-- no list within -/
def purD : PyData → Bool
  | .list _ => false
  | .dict _ => false
  | .tuple ds => purDs ds
  | _ => true
def purDs : List PyData → Bool
  | [] => true
  | d :: ds => purD d && purDs ds
end
theorem purDs_all : ∀ {ds : List PyData}, purDs ds = true ↔ ∀ d ∈ ds, purD d = true
  | [] => ⟨fun _ d m => absurd m List.not_mem_nil, fun _ => rfl⟩
  | d :: ds => by
    show (purD d && purDs ds) = true ↔ _
    rw [Bool.and_eq_true, purDs_all (ds := ds), List.forall_mem_cons]
theorem purD_tup {ds : List PyData} : purD (.tuple ds) = true ↔ ∀ d ∈ ds, purD d = true := by
  show purDs ds = true ↔ _
  exact purDs_all
mutual
theorem in_pur : ∀ (n : Nat) (d : PyData), inD n d = true → purD d = true
  | _, .int _, _ => rfl
  | _, .str _, _ => rfl
  | 0, .tuple _, h => by cases h
  | n + 1, .tuple ds, h => by
    have q : (decide (ds.length ≤ 100) && inDs n ds) = true := h
    rw [Bool.and_eq_true, decide_eq_true_eq] at q
    exact ins_pur n ds q.2
  | _, .none, _ => rfl
  | _, .bool _, _ => rfl
  | n, .list _, h => by cases n <;> cases h
  | n, .dict _, h => by cases n <;> cases h
theorem ins_pur : ∀ (n : Nat) (ds : List PyData), inDs n ds = true → purDs ds = true
  | _, [], _ => rfl
  | n, d :: ds, h => by
    have h : (inD n d && inDs n ds) = true := h
    rw [Bool.and_eq_true] at h
    show (purD d && purDs ds) = true
    rw [in_pur n d h.1, ins_pur n ds h.2]; rfl
end
mutual
theorem Rq.pure {S : List Addr} {H H' : Hp} (k : Kp S H H') : ∀ {v : V} {d : PyData}, Rq H v d → purD d = true → Rq H' v d
  | _, _, .int i, _ => .int i
  | _, _, .str z, _ => .str z
  | _, _, .non, _ => .non
  | _, _, .bl b, _ => .bl b
  | _, _, .tup e r, h => .tup (k.tup _ _ e) (r.pure k h)
  | _, _, .lst _ _, h => by cases h
theorem RqA.pure {S : List Addr} {H H' : Hp} (k : Kp S H H') : ∀ {vs : List V} {ds : List PyData}, RqA H vs ds → purDs ds = true → RqA H' vs ds
  | _, _, .nil, _ => .nil
  | _, _, .cons (d := d) (ds := ds) a b, h => by
    have h : (purD d && purDs ds) = true := h
    rw [Bool.and_eq_true] at h
    exact .cons (a.pure k h.1) (b.pure k h.2)
end
/-! the parts of a value -/
def tupB (a b : Nat) : PyData → Bool
  | .tuple ds => decide (a ≤ ds.length) && decide (ds.length ≤ b)
  | _ => false
def itD : PyData → List PyData
  | .tuple ds => ds
  | _ => []
def ixD (d : PyData) (i : Nat) : PyData := (itD d).getD i .none
def numB (lo hi : Int) : PyData → Bool
  | .int i => decide (lo ≤ i) && decide (i ≤ hi)
  | _ => false
def strD : PyData → Str
  | .str z => z
  | _ => Str.empty
def isS : PyData → Bool
  | .str _ => true
  | _ => false
def eqS (s : Str) : PyData → Bool
  | .str z => decide (z = s)
  | _ => false
theorem tupB_of {a b : Nat} {H : Hp} {v : V} {d : PyData} (r : Rq H v d) (h : tupB a b d = true) : ∃ (p : Addr) (xs : List V) (ds : List PyData), v = .ref p ∧ H p = some (.tup xs) ∧ d = .tuple ds ∧ RqA H xs ds ∧ a ≤ ds.length ∧ ds.length ≤ b := by
  cases r with
  | tup e r =>
    rename_i p xs ds
    have h : (decide (a ≤ ds.length) && decide (ds.length ≤ b)) = true := h
    rw [Bool.and_eq_true, decide_eq_true_eq, decide_eq_true_eq] at h
    exact ⟨_, _, _, rfl, e, rfl, r, h.1, h.2⟩
  | _ => cases h
theorem isS_of {H : Hp} {v : V} {d : PyData} (r : Rq H v d) (h : isS d = true) : ∃ z, v = .str z ∧ d = .str z := by
  cases r with
  | str z => exact ⟨z, rfl, rfl⟩
  | _ => cases h
theorem rqa_strs {H : Hp} : ∀ {xs : List V} {ds : List PyData}, RqA H xs ds → (∀ d ∈ ds, isS d = true) → xs = (ds.map strD).map V.str
  | _, _, .nil, _ => rfl
  | _, _, .cons a b, h => by
    obtain ⟨z, rfl, rfl⟩ := isS_of a (h _ List.mem_cons_self)
    rw [rqa_strs b fun d m => h d (List.mem_cons_of_mem _ m)]
    rfl
theorem getD_mem {ds : List PyData} {i : Nat} (h : i < ds.length) : ds.getD i .none ∈ ds := by
  rw [List.getD_eq_getElem?_getD, List.getElem?_eq_getElem h]
  exact List.getElem_mem h
/-- all(p(x) for x in a tuple), p a promise -/
theorem all_rq {K : PySem.W.Frag} {Ts : List Addr} {b : Addr} {xs : List V} {ds : List PyData} {f : PyData → Bool} {te : TE} {D : Ends} {H2 : Hp} {o : Option V} {cap : L2.St} (eb : H2 b = some (.tup xs)) (r : RqA H2 xs ds) (g : Tabs Ts H2)
    (step : ∀ (x : V) (d : PyData) (H' : Hp) (R : VK), Rq H' x d → d ∈ ds → Kp Ts H2 H' → Tabs Ts H' → (∀ H'', Kp Ts H' H'' → Tabs Ts H'' → R (.bl (f d)) H'') → te (some x :: cap) H' R)
    (qf : ∀ H', Kp Ts H2 H' → Tabs Ts H' → ds.all f = false → D.rt (.bl false) H') (qt : ∀ σ H', Kp Ts H2 H' → Tabs Ts H' → ds.all f = true → D.nx σ H') :
    tForB (Itt K b) (gName 0) (tbAll tYes te) D (o :: cap) H2 := by
  refine for_tup (K := K) (a := b) (xs := xs) (fun i σ H' => (∃ o : Option V, σ = o :: cap) ∧ Kp Ts H2 H' ∧ Tabs Ts H' ∧ (ds.take i).all f = true)
    ⟨⟨_, rfl⟩, Kp.refl _ _, g, rfl⟩ (fun i σ H' _ ⟨_, k, _, _⟩ => SqT.of (k.get g eb)) (fun i x σ H' hx ⟨⟨o, hσ⟩, k3, g3, ha⟩ => ?_) (fun σ H' ⟨⟨o, hσ⟩, k3, g3, ha⟩ => ?_)
  · subst hσ
    obtain ⟨d, hd, Rd⟩ := r.get hx
    have tk : ds.take (i + 1) = ds.take i ++ [d] := by rw [List.take_add_one, hd]; rfl
    have md := List.mem_of_getElem? hd
    unfold tbAll
    simp only [tYes, if_true, gName, List.set_cons_zero]
    refine step x d H' _ (Rd.tabs k3 g) md k3 g3 fun H4 k4 g4 => ⟨_, rfl, ?_⟩
    cases hb : f d with
    | true =>
      rw [if_pos rfl]
      exact ⟨⟨_, rfl⟩, k3.trans k4, g4, by rw [tk, List.all_append, ha]; simp [hb]⟩
    | false =>
      rw [if_neg (by decide)]
      have e : ds.all f = false := by
        rw [List.all_eq_false]
        exact ⟨d, md, by rw [hb]; decide⟩
      exact qf H4 (k3.trans k4) g4 e
  · rw [r.len, List.take_length] at ha
    exact qt _ H' k3 g3 ha
end SC
namespace SC
open PySem L2
theorem rq2 {H : Hp} {xs : List V} {ds : List PyData} (r : RqA H xs ds) (l : ds.length = 2) : ∃ x0 x1 d0 d1, xs = [x0, x1] ∧ ds = [d0, d1] ∧ Rq H x0 d0 ∧ Rq H x1 d1 := by
  cases r with
  | nil => cases l
  | cons a r =>
  cases r with
  | nil => cases l
  | cons b r =>
  cases r with
  | nil => exact ⟨_, _, _, _, rfl, rfl, a, b⟩
  | cons c r => simp at l
theorem rq3 {H : Hp} {xs : List V} {ds : List PyData} (r : RqA H xs ds) (l : ds.length = 3) : ∃ x0 x1 x2 d0 d1 d2, xs = [x0, x1, x2] ∧ ds = [d0, d1, d2] ∧ Rq H x0 d0 ∧ Rq H x1 d1 ∧ Rq H x2 d2 := by
  cases r with
  | nil => cases l
  | cons a r =>
    obtain ⟨x0, x1, d0, d1, rfl, rfl, b, c⟩ := rq2 r (by simpa using l)
    exact ⟨_, _, _, _, _, _, rfl, rfl, a, b, c⟩
theorem rq4 {H : Hp} {xs : List V} {ds : List PyData} (r : RqA H xs ds) (l : ds.length = 4) : ∃ x0 x1 x2 x3 d0 d1 d2 d3, xs = [x0, x1, x2, x3] ∧ ds = [d0, d1, d2, d3] ∧ Rq H x0 d0 ∧ Rq H x1 d1 ∧ Rq H x2 d2 ∧ Rq H x3 d3 := by
  cases r with
  | nil => cases l
  | cons a r =>
    obtain ⟨x0, x1, x2, d0, d1, d2, rfl, rfl, b, c, d⟩ := rq3 r (by simpa using l)
    exact ⟨_, _, _, _, _, _, _, _, rfl, rfl, a, b, c, d⟩
theorem rq6 {H : Hp} {xs : List V} {ds : List PyData} (r : RqA H xs ds) (l : ds.length = 6) : ∃ x0 x1 x2 x3 x4 x5 d0 d1 d2 d3 d4 d5, xs = [x0, x1, x2, x3, x4, x5] ∧ ds = [d0, d1, d2, d3, d4, d5] ∧ Rq H x0 d0 ∧ Rq H x1 d1 ∧ Rq H x2 d2 ∧ Rq H x3 d3 ∧ Rq H x4 d4 ∧ Rq H x5 d5 := by
  cases r with
  | nil => cases l
  | cons a r =>
  cases r with
  | nil => cases l
  | cons b r =>
    obtain ⟨x0, x1, x2, x3, d0, d1, d2, d3, rfl, rfl, c, d, e, f⟩ := rq4 r (by simpa using l)
    exact ⟨_, _, _, _, _, _, _, _, _, _, _, _, rfl, rfl, a, b, c, d, e, f⟩
/-- t[lo:hi] -/
theorem sl_q {K : PySem.W.Frag} {H : Hp} {a : Addr} {xs : List V} {lo hi : Option Int} {Q : VK} (e : H a = some (.tup xs)) (q : ∀ (z : Addr) (H' : Hp), Kp [] H H' → H' z = some (.tup (cutV xs lo hi)) → Q (.ref z) H') : rSlA K (.ref a) lo hi H Q := by
  refine ⟨a, xs, rfl, SqT.of e, fun h => q a H (Kp.refl _ _) ?_, fun _ d hd => q d _ (Kp.new hd _) upd_same⟩
  rw [e]
  unfold cutV
  rw [h.1, h.2, List.drop_zero, Nat.sub_zero, List.take_length]
def cutD (ds : List PyData) (lo hi : Option Int) : List PyData := (ds.drop (HT.sIx ds.length 0 lo)).take (HT.sIx ds.length ds.length hi - HT.sIx ds.length 0 lo)
theorem RqA.cut {H : Hp} {xs : List V} {ds : List PyData} (r : RqA H xs ds) (lo hi : Option Int) : RqA H (cutV xs lo hi) (cutD ds lo hi) := by
  unfold cutV cutD
  rw [r.len]
  exact (r.drop _).take _
end SC
/-! t[::-1] of a tuple -/
/-! any(..) over a generator expression whose element is any expression of the layer -/
namespace SC
open PySem PySem.Spec PyProof.Rows L2 GenW
open GxR (TabB TabG Tabbed inv_tab sh_eta)
def tbAny (tt : TT) (te : TE) : TS := fun D σ H => tt σ H fun b H3 => if b = true then te σ H3 (fun y H4 => ∃ b, y = .bl b ∧ if b = true then D.rt (.bl true) H4 else D.nx σ H4) else D.nx σ H3
def tAnyG (P : Addr) (wi : TI) (g : TG) (tt : TT) (te : TE) (st : L2.St → L2.St) : TE := fun σ H Q => wi σ H fun J H1 => TabG H1 P ∧ ∀ H2, Tabbed P H1 H2 → tForB J g (tbAny tt te) { nx := fun _ H => Q (.bl false) H, rt := Q } (st σ) H2
section
variable {Y : Cx} {A : Around} {go : Addr × Obj} {Sx fp : List Addr} {it : Addr} {tn : Nat → Heap → Prop} {J : It} {tg elt iter : Expr} {ifs : List Expr} {scope : Scope} {gpos : Pos} {g : TG} {tt : TT} {te : TE} {W : Nat → Nat → List (Addr × Obj) → L2.St → Hp → Prop} {B : Nat → Nat → List (Addr × Obj) → V → L2.St → Hp → Prop} {Dn : List (Addr × Obj) → L2.St → Hp → Prop}
theorem any_loop_gen {gi : Nat} {A : Around} {R : Result → Shared → Prop} {Fl : L2.St → Hp → Prop} (hh : A.handled = none) (hroom : A.depth < recursionLimit) (hgo : ∀ h : Heap, h.get? go.1 = some go.2 → h.IsGen go.1 gi)
    (hB : ∀ i m cp y σ H, B i m cp y σ H → ∃ b, y = .bl b ∧ if b = true then Fl σ H else ∃ m', m' < m ∧ W (i + 1) m' [] σ H)
    (hF : ∀ pins σ H s, Inv Y pins σ H s → Fl σ H → R (.ok (.ret (.bool true))) s) (hT : ∀ pins σ H s cp, Inv Y pins σ H s → Dn cp σ H → R (.ok (.ret (.bool false))) s) :
    ∀ (n : Nat) (s : Shared), Asl Y A.in1.in1 go gi [] W B Dn n s → codeAny (model Y.prog Y.w) A (.builtin "any.loop" ⟨[.ref go.1], []⟩) R s := by
  intro n
  induction n using Nat.strongRecOn with
  | ind n ih =>
    intro s a
    refine codeAny_builtin F.entry_any_loop ?_
    rw [Around.under_plainId F.plain_any_loop _]
    show wpAny _ A.in1 (pyNext (.ref go.1) >>= _) _ _ s
    refine wpAny_bind (next_gen (C := A.in1) hh hroom hgo a (fun i m cp y v σ H s' hcp _ rv I hb again => ?_) fun cp σ H s' hcp _ I dn => ?_)
    · obtain ⟨b, rfl, hb'⟩ := hB i m cp y σ H hb
      obtain rfl : v = .bool b := rv
      refine wpAny_bind (wpAny_holding (wpAny_truthy_bool ?_))
      refine wpAny_bind (wpAny_letGo ?_)
      cases b with
      | true =>
        rw [if_pos rfl] at hb'
        simp only [if_true]
        exact wpAny_bind (wpAny_rule (wpAny_pure (hF _ σ H s' I hb')))
      | false =>
        rw [if_neg Bool.false_ne_true] at hb'
        obtain ⟨m', hm', w'⟩ := hb'
        simp only [Bool.false_eq_true, if_false]
        have e0 : cp = [] := by
          have := congrArg List.length hcp
          rw [List.length_map] at this
          exact List.eq_nil_of_length_eq_zero this
        obtain ⟨k, hk, ak⟩ := again s' [] ⟨rfl, I.bare, fun _ _ _ e => e⟩ rfl rfl (fun p hp => nomatch hp) (I.pin go (List.mem_append_right _ List.mem_cons_self)).1 I.nolimit m' hm' w'
        exact wpAny_pure ⟨plainId_quiet F.plain_any_loop _, ih k hk s' ak⟩
    · exact wpAny_bind (wpAny_rule (wpAny_pure (hT _ σ H s' cp I dn)))
end
section
variable {X : Cx} {pins : List (Addr × Obj)} {σ : L2.St} {H : Hp} {s : Shared} {N : List Str} {nt : Nat} {fr : List Nat} {scope : Scope}
theorem pe_anyG {c P : Addr} {elt iter tg : Expr} {ifs : List Expr} {p pos gpos : Pos} {wi : TI} {g : TG} {tt : TT} {te : TE} {k : Nat} (hcalm : X.calm = true) (hr : Room (k + 2) X.A) (hany : X.mg "any" = none) (TB : TabB X.base X.mg c P) (hcode : X.env.code = .ref c)
    (S : GnS scope) (hfr : freeOk scope X.env.scope = true) (hcap : capOk N nt fr X.N scope X.env.scope = true) (hi : PI X tg iter wi)
    (hg : ∀ C code fp s4 H4, Room k (gxC X N scope C code fp s4 H4).A → PG (gxC X N scope C code fp s4 H4) tg g) (ht : ∀ C code fp s4 H4, Room k (gxC X N scope C code fp s4 H4).A → PTs (gxC X N scope C code fp s4 H4) ifs tt)
    (he : ∀ C code fp s4 H4, Room k (gxC X N scope C code fp s4 H4).A → PE (gxC X N scope C code fp s4 H4) elt te)
    (hs : ∀ v, genFold iter X.env v = pure v) (hgl : Gl X "any" := by rfl)
    (hse : starEach [.GeneratorExp elt [⟨tg, iter, ifs, 0⟩] scope gpos] X.env = (false, eval (.GeneratorExp elt [⟨tg, iter, ifs, 0⟩] scope gpos) X.env) :: starEach [] X.env := by rfl) :
    PE X (.Call (.Name "any" p) [.GeneratorExp elt [⟨tg, iter, ifs, 0⟩] scope gpos] [] pos) (tAnyG P wi g tt te (capSt nt fr)) := by
  refine ⟨fun pins s σ H Q I h => ?_⟩
  have hh : X.A.handled = none := I.ok.hd hcalm
  refine wpAny_Call_Name_kw (ld_blt I hgl hany (show bootBuiltins "any" = some (.builtin "any") by decide +kernel) ?_)
  refine PyProof.Rows.callWith_builtin1 ?_ hse (by rfl)
  rw [hse]
  show wpAny _ _ (spliced ((false, eval (.GeneratorExp elt [⟨tg, iter, ifs, 0⟩] scope gpos) X.env) :: backTo pos (starEach [] X.env))) _ _ s
  refine Calls.spliced_cons (gen_mkI (N := N) (nt := nt) (fr := fr) (R := fun J H2 => tForB J g (tbAny tt te) { nx := fun _ H => Q (.bl false) H, rt := Q } (capSt nt fr σ) H2) hcalm hr TB hcode S hfr hcap hi hs I h fun J H2 a s5 hR hF => ?_)
  refine Calls.spliced_nil ?_
  obtain ⟨s4, code, fp, it, tn, go, gi, I4, hf, hlt, ha, ha2, T, st5, hgo, hga, hgs, I5⟩ := hF
  obtain ⟨W, ⟨m0, w0⟩, turn⟩ := hR
  have hrA : Room k (gxC X N scope s4.heap.objs.size code fp s4 H2).A := by
    have r1 := hr.dp
    have r2 := hr.un
    have q1 : (gxC X N scope s4.heap.objs.size code fp s4 H2).A.depth = X.A.depth + 1 := rfl
    have q2 : (gxC X N scope s4.heap.objs.size code fp s4 H2).A.units = X.A.units + 1 + 1 + 3 := rfl
    exact ⟨hh, by omega, by omega⟩
  refine call_function_tree F.kind_any F.plain_any F.entry_any (F.args_any1 _) ?_
  unfold Builtin.«any»
  refine wpAny_bind (m := oneArg "any" _) (wpAny_pure ?_)
  refine wpAny_bind (wpAny_pyIter_gen (hgo _ hga) ?_)
  refine wpAny_pure ⟨plainId_quiet F.plain_any_loop _, ?_⟩
  have depth : X.A.depth < recursionLimit := by have := hr.dp; omega
  refine any_loop_gen (Y := gxC X N scope s4.heap.objs.size code fp s4 H2) (go := (a, go)) (gi := gi) (W := fun i m cp σ H => W i m σ H) (B := fun i m cp y σ H => ∃ b, y = .bl b ∧ if b = true then Q (.bl true) H else ∃ m', m' < m ∧ W (i + 1) m' σ H) (Dn := fun _ _ H => Q (.bl false) H) (Fl := fun _ H => Q (.bl true) H)
    hh depth hgo (fun i m cp y σ H hb => hb) (fun pp σ' H' s' J' q => ⟨.bl true, H', back_to I4 hf J', rfl, q⟩) (fun pp σ' H' s' cp J' q => ⟨.bl false, H', back_to I4 hf J', rfl, q⟩) (m0 + 1) s5 ⟨hgo _ hga, I5.nolimit, _, hgs, rfl, ?_⟩
  refine seg_turns0 (Y := gxC X N scope s4.heap.objs.size code fp s4 H2) (fp := fp) (tn := tn) (J := J) (tg := tg) (g := g) (tt := tt) (te := te) rfl (fun _ _ z => z) rfl T (hg _ _ _ _ _ hrA) (ht _ _ _ _ _ hrA) (he _ _ _ _ _ hrA) S.co (fun i m cp σ H w => ?_)
    (fun cp H' hcp h0 => stat_of S I4 hf hlt hfr (Nat.le_refl _) (fun p hp => ?_) h0) (fun b hb => absurd hb List.not_mem_nil) (fun p hp hb => absurd hb List.not_mem_nil) (fun b hb hb2 => absurd hb2 List.not_mem_nil) (Nat.lt_succ_self m0) (cp := []) rfl (fun p hp => nomatch hp) (inv_kept I5 rfl (allBare_setGen I5.bare rfl) fun _ _ e => e) st5 (fun b hb => (hf b hb).1) w0
  · rcases turn i m σ H w with ⟨q1, q2⟩ | ⟨q1, Nt, hN, q2⟩
    · exact .inl ⟨q1, q2⟩
    · refine .inr ⟨q1, fun y σ' H' => ∃ b, y = .bl b ∧ if b = true then Q (.bl true) H' else Nt σ' H', Nt, fun y σ' H' ⟨b, e, z⟩ => ⟨b, e, ?_⟩, hN, q2⟩
      cases b with
      | true => rw [if_pos rfl] at z ⊢; exact z
      | false => rw [if_neg Bool.false_ne_true] at z ⊢; exact hN _ _ z
  · have e0 : cp = [] := by
      have := congrArg List.length hcp
      rw [List.length_map] at this
      exact List.eq_nil_of_length_eq_zero this
    subst e0
    rw [List.mem_singleton.mp hp]
    exact Nat.le_of_lt ha
end
end SC
/-! a def that raises out of an except suite what it caught otherwise: its body's callees let out exceptions without a context -/
/-! a caught error that is handed to a def of the program; isinstance of it there, with or without fields -/
namespace SC
open PySem PySem.Spec PyProof.Rows L2
/-! ### a def that is handed the error that its caller handles: what is known of it is said once -/
structure FnP (P : Program) (w : World) (K : PySem.W.Frag) (mg : Str → Option Value) (base : Heap) (k : Nat) (f : Addr) (fd : FuncData) (ps : List Str) (p : Addr × Obj) (sp : Sp) : Prop where
  len : ∀ vs H Q E, sp vs H Q E → vs.length = ps.length
  run : ∀ (A : Around) (outer : List Env) (s : Shared) (H : Hp) (args : Args) (us : List Value) (vs : List V) (Q : VK) (E : XK), L2H.RoomH k A → L2H.Hot1 A p → L2H.PinOk outer H s p → Env0 P w K mg base A outer s H → BindsTo s fd args (ps.zip us) → Vals vs us → sp vs H Q E →
    codeAny (model P w) A (.call (.ref f) args) (CR CX0 outer P w H s Q E) s
structure CalP (P : Program) (w : World) (K : PySem.W.Frag) (mg : Str → Option Value) (base : Heap) (k : Nat) (x : Str) (who : Addr × Obj → Prop) (sp : Addr × Obj → Sp) : Prop where
  ex : ∃ f fd ps, (∀ p, who p → FnP P w K mg base k f fd ps p (sp p)) ∧ mg x = some (.ref f) ∧ PySem.W.keepIn K (.ref f) = true ∧ Binds K fd ps []
section
variable {X : Cx} {x : Str} {q pos : Pos} {e : Expr} {es : List Expr} {t : TA} {j k : Nat} {who : Addr × Obj → Prop} {sp : Addr × Obj → Sp} {p : Addr × Obj}
/-- x(e, ..) in the suite that handles p -/
theorem CalP.pe (c : CalP X.prog X.w X.K X.mg X.base j x who sp) (hr : L2H.RoomH k X.A) (hot : L2H.Hot1 X.A p) (hp : p ∈ X.pn) (hw : who p) (ha : PA X (e :: es) t) (hjk : j ≤ k := by first | decide | omega) (hg : Gl X x := by rfl) (hdb : (x == ("__debug__" : Str)) = false := by decide)
    (he : starEach (e :: es) X.env = (false, eval e X.env) :: starEach es X.env := by rfl) (hpl : (backTo pos (starEach es X.env)).any (·.1) = false := by rfl) :
    PE X (.Call (.Name x q) (e :: es) [] pos) (tCallS (sp p) (fun _ => E0) t) := by
  obtain ⟨f, fd, ps, F, hm, hk, hb⟩ := c.ex
  have F := F p hw
  refine ⟨fun pins s σ H Q I h => wpAny_Call_Name_kw (ld_glob I hg hm (PySem.W.callWith_K (h₀ := X.base) I.ok.mod.kin hk (thn (ha.run pos pins s σ H _ I h) fun us s1 told => ?_) he hpl) hdb)⟩
  obtain ⟨vs, H1, I1, r, wish⟩ := told
  have lens : us.length = ps.length := by rw [← r.length]; exact F.len _ _ _ _ wish
  have b := hb s1 us I1.kIn (by rw [List.append_nil]; exact lens)
  rw [List.append_nil] at b
  have pinned := I1.pin p (List.mem_append_left _ hp)
  have there : L2H.PinOk X.stack H1 s1 p := ⟨pinned.1, pinned.2.1, fun m => (List.mem_cons.mp (I1.stkSub p.1 m)).elim pinned.2.2.1 pinned.2.2.2.1, pinned.2.2.2.2⟩
  refine ⟨I1.kIn, wpAny_call (codeAny_mono (F.run X.A X.stack s1 H1 ⟨us, []⟩ us vs Q E0 (hr.mono hjk) hot there I1.env0 b r wish) fun res s2 ended => ?_)⟩
  match res, ended with
  | .error _, z => exact False.elim z
  | .ok (.ret u), z => exact I1.after z
  | .ok .next, z => exact False.elim z
  | .ok .brk, z => exact False.elim z
  | .ok .cont, z => exact False.elim z
end
end SC
/-! methods without arguments that may raise; tables of texts -/
namespace SC
open PySem PySem.Spec PyProof.Rows L2
/-- the reading is found first, then what was wished for -/
theorem by_given {X : Cx} {b : List Stmt} {t u : TS} (h : PSs X b t) (e : t = u) : PSs X b u := e ▸ h
/-! try with several clauses, some of which name the caught error -/
inductive ClauseM where
  | named (k : Clause)
  | bare (k : Clause)
/-- the wishes of the clauses, from the first -/
def wClM (K : PySem.W.Frag) (i : Nat) (out : WX) (D : Ends) : List ClauseM → WX
  | [] => out
  | .named k :: r => fun cv dd τ G => ∃ yes, PySem.W.exmOne K cv k.1 = some yes ∧ if yes = true then (∀ e, G e = none → k.2 e cv dd (dropE i D) (τ.set i (some (.ref e))) G) else wClM K i out D r cv dd τ G
  | .bare k :: r => fun cv dd τ G => ∃ yes, PySem.W.exmOne K cv k.1 = some yes ∧ if yes = true then (∀ e, G e = none → k.2 e cv dd D τ G) else wClM K i out D r cv dd τ G
inductive WrittenM (X : Cx) (n : Str) : List ExceptHandler → List ClauseM → Prop
  | none : WrittenM X n [] []
  | one {cn : Str} {k : Clause} {st : Stmt} {more : List Stmt} {p1 p2 : Pos} {hs : List ExceptHandler} {ks : List ClauseM} (named : Names X cn k.1)
      (runs : ∀ (e : Addr) (ob : Obj) (cv : Value) (dd : Option Addr) (held : List (Addr × Obj)), Zc cv dd ob → (∃ fs, ob.data = .fields fs) → PSs (X.suite e ((e, ob) :: held)) (st :: more) (k.2 e cv dd)) (rest : WrittenM X n hs ks) :
      WrittenM X n (.ExceptHandler (some (.Name cn p1)) (some n) (st :: more) p2 :: hs) (.named k :: ks)
  | bare {cn : Str} {k : Clause} {st : Stmt} {more : List Stmt} {p1 p2 : Pos} {hs : List ExceptHandler} {ks : List ClauseM} (named : Names X cn k.1)
      (runs : ∀ (e : Addr) (ob : Obj) (cv : Value) (dd : Option Addr) (held : List (Addr × Obj)), Zc cv dd ob → (∃ fs, ob.data = .fields fs) → PSs (X.suite e ((e, ob) :: held)) (st :: more) (k.2 e cv dd)) (rest : WrittenM X n hs ks) :
      WrittenM X n (.ExceptHandler (some (.Name cn p1)) none (st :: more) p2 :: hs) (.bare k :: ks)
section
variable {X : Cx} {n : Str} {i : Nat} {body : List Stmt} {first : ExceptHandler} {others : List ExceptHandler} {ks : List ClauseM} {pos : Pos} {tb : WX → TS} {out : WX}
theorem ps_try_mix (stk : X.stack = X.env :: X.outer) (frm : X.env.frame = some X.env.locals) (nodup : X.N.Nodup) (slot : X.N[i]? = some n) (isLoc : X.env.kindOf n = some .local) (leaves : Takes X out)
    (runBody : ∀ (V : WX) (held : List (Addr × Obj)) (ex : Value → Shared → Prop), Takes (X.tr held ex) V → PassesOwn (model X.prog X.w) X.A X.env ex → PSs (X.tr held ex) body (tb V))
    (clauses : WrittenM X n (first :: others) ks) : PS X (.Try body (first :: others) [] [] pos) (fun D τ G => tb (wClM X.K i out D ks) D τ G) := by
  refine ⟨fun held s τ G D I pre => ?_⟩
  have good := I.ok
  have around : X.A.frames = some (X.env :: X.outer) := by rw [good.frames, stk]
  refine wpAny_Try_except ?_
  let after : Value → Shared → Prop := fun ev t1 => wpAny (model X.prog X.w) X.A (noteFrame ev X.env)
    (fun _ t2 => wpAny (model X.prog X.w) X.A (setFlight ev none) (fun _ t3 => wpAny (model X.prog X.w) X.A (handleBy ev X.env (first :: others)) (SP X held D) X.xe t3) X.xe t2) X.xe t1
  refine wpAny_mono ((runBody (wClM X.K i out D ks) (X.pn ++ held) after (fun ev t thrown => ?_) PassesOwn.looking).run [] s τ G D (I.toTry _) pre) (fun flow t done => ?_) (fun _ _ z => z)
  · obtain ⟨e, base, sT, heldT, τ1, G1, cv, dd, rfl, IT, newer, upT, skyT, freeE, osT, gensT, wish⟩ := thrown
    have I1 : Inv X held τ1 G1 sT := IT.ofTry good
    show wpAny (model X.prog X.w) X.A (noteFrame (.ref e) X.env) _ _ _
    refine Sky.land Zc.steady around frm (by rw [← stk]; exact skyT) fun hA fly upA => ?_
    have IA : Inv X held τ1 G1 { t with heap := hA } := I1.landed newer fly.1 (upT.trans upA) osT gensT
    obtain ⟨ob, fs, obAt, obZ, obF⟩ := fly.there
    have offFrames : e ∉ frs (X.env :: X.outer) := fun inFrames => by
      obtain ⟨_, ob2, at2, notFields⟩ := fly.2.2.1.mem inFrames
      rw [obAt] at at2
      exact notFields _ (Option.some.inj at2 ▸ obF)
    have offLocals : e ≠ X.env.locals := fun z => offFrames (List.mem_filterMap.mpr ⟨X.env, List.mem_cons_self, by rw [frm, z]⟩)
    have offOuter : e ∉ X.fs := fun m =>
      let ⟨en, enIn, q⟩ := List.mem_filterMap.mp m
      offFrames (List.mem_filterMap.mpr ⟨en, List.mem_cons_of_mem _ enIn, q⟩)
    have inSuite := IA.suite obAt obF freeE offLocals offOuter
    clear pre
    suffices each : ∀ {hs : List ExceptHandler} {cs : List ClauseM}, WrittenM X n hs cs → wClM X.K i out D cs cv dd τ1 G1 →
        wpAny (model X.prog X.w) X.A (handleBy (.ref e) X.env hs) (SP X held D) X.xe { t with heap := hA } from each clauses wish
    intro hs cs written
    induction written with
    | none =>
      intro goesOn
      refine wpAny_handleBy_nil ?_
      obtain ⟨_, _, _, ob3, fs3, tb3, _, _, at3, _, f3, g3, _⟩ := id fly
      unfold PySem.passOn
      refine wpAny_bind (wpAny_field at3 f3 g3 ?_)
      rw [if_neg (by simp)]
      have again : wpAny (model X.prog X.w) X.A (setFlight (.ref e) X.env.frame) (fun _ t4 => wpAny (model X.prog X.w) X.A (throw (.ref e) : Sem Flow) (SP X held D) X.xe t4) X.xe { t with heap := hA } := by
        rw [frm]
        exact HandSPX.setFlight_upZ fly fun hB heldB upB => wpAny_throw (leaves _ _ ⟨e, base, sT, held, τ1, G1, cv, dd, rfl, I1, newer, (upT.trans upA).trans upB, .inr (.inr (by rw [stk]; exact heldB)), freeE, osT, gensT, goesOn⟩)
      first
        | exact wpAny_bind (wpAny_pure (wpAny_bind again))
        | exact wpAny_bind again
    | @one cn k st more p1 p2 hs2 ks2 named runs rest ih =>
      rintro ⟨yes, match1, w2⟩
      have looks := PySem.W.exm_one (M := model X.prog X.w) IA.kIn (fun A Q E u kk q => wpAny_typeOf_ref (kk _ _ obAt) (by rw [obZ.1]; exact q) : PySem.W.Looks (model X.prog X.w) hA (typeOf (.ref e)) cv) match1
      refine wpAny_handleBy_cons (codeAny_handlers_test ?_) (by intro q; cases q)
      have reads : ∀ {Q E : Value → Shared → Prop}, Q k.1 { t with heap := hA } → wpAny (model X.prog X.w) (X.A.mark (some (.ref e))) (eval (.Name cn p1) X.env) Q E { t with heap := hA } := fun {Q E} q => by
        rcases named with ⟨gl, nodbg, isMod | ⟨isMod, isB, nn⟩⟩
        · exact ld_glob (X := X.suite e ((e, ob) :: (X.pn ++ held))) inSuite gl isMod q nodbg
        · exact ld_blt (X := X.suite e ((e, ob) :: (X.pn ++ held))) inSuite gl isMod isB q nn nodbg
      refine reads (looks.here ?_)
      cases yes with
      | false =>
        rw [if_neg (by decide)] at w2
        show wpAny _ X.A (handleBy (.ref e) X.env hs2) _ _ _
        exact ih w2
      | true =>
        rw [if_pos rfl] at w2
        refine codeAny_handlers_suite_as (HandSPX.lands_againZ fly fun hB flyB upB => ?_)
        have IB : Inv X held τ1 G1 { t with heap := hB } := I1.landed newer flyB.1 ((upT.trans upA).trans upB) osT gensT
        obtain ⟨obB, fsB, atB, zB, fB⟩ := flyB.there
        refine store_ok (X := X.suite e ((e, obB) :: (X.pn ++ held))) (v := .ref e) (IB.suite atB fB freeE offLocals offOuter) nodup slot (.inl isLoc) rfl (fun t5 I5 => ?_) (.inr isLoc)
        refine wpAny_mono ((runs e obB cv dd (X.pn ++ held) zB ⟨_, fB⟩).run [] t5 _ G1 _ I5 (w2 e freeE)) (fun flow t6 ended => ?_) (fun _ _ z => False.elim z)
        have gone : ∀ {τ6 : L2.St} {G6 : Hp} {Q : Shared → Prop}, Inv (X.suite e ((e, obB) :: (X.pn ++ held))) [] τ6 G6 t6 → (∀ t7, Inv X held (τ6.set i none) G6 t7 → Q t7) →
            wpAny (model X.prog X.w) X.A (do bindName X.env n .none; unbindBehindTheSuite X.env n p2) (fun _ t7 => Q t7) X.xe t6 := fun {τ6 G6 Q} I6 q => gone_ok (I6.unsuite good) nodup slot isLoc q
        cases flow with
        | ret u => exact let ⟨_, _, _, I6, r6, q6⟩ := ended; gone I6 fun _ I7 => ⟨_, _, _, I7, r6, q6⟩
        | next => exact let ⟨_, _, I6, q6⟩ := ended; gone I6 fun _ I7 => ⟨_, _, I7, q6⟩
        | brk => exact let ⟨_, _, I6, q6⟩ := ended; gone I6 fun _ I7 => ⟨_, _, I7, q6⟩
        | cont => exact let ⟨_, _, I6, q6⟩ := ended; gone I6 fun _ I7 => ⟨_, _, I7, q6⟩
    | @bare cn k st more p1 p2 hs2 ks2 named runs rest ih =>
      rintro ⟨yes, match1, w2⟩
      have looks := PySem.W.exm_one (M := model X.prog X.w) IA.kIn (fun A Q E u kk q => wpAny_typeOf_ref (kk _ _ obAt) (by rw [obZ.1]; exact q) : PySem.W.Looks (model X.prog X.w) hA (typeOf (.ref e)) cv) match1
      refine wpAny_handleBy_cons (codeAny_handlers_test ?_) (by intro q; cases q)
      have reads : ∀ {Q E : Value → Shared → Prop}, Q k.1 { t with heap := hA } → wpAny (model X.prog X.w) (X.A.mark (some (.ref e))) (eval (.Name cn p1) X.env) Q E { t with heap := hA } := fun {Q E} q => by
        rcases named with ⟨gl, nodbg, isMod | ⟨isMod, isB, nn⟩⟩
        · exact ld_glob (X := X.suite e ((e, ob) :: (X.pn ++ held))) inSuite gl isMod q nodbg
        · exact ld_blt (X := X.suite e ((e, ob) :: (X.pn ++ held))) inSuite gl isMod isB q nn nodbg
      refine reads (looks.here ?_)
      cases yes with
      | false =>
        rw [if_neg (by decide)] at w2
        show wpAny _ X.A (handleBy (.ref e) X.env hs2) _ _ _
        exact ih w2
      | true =>
        rw [if_pos rfl] at w2
        refine codeAny_handlers_suite ?_
        refine HandSPX.lands_againZ fly fun hB flyB upB => ?_
        have IB : Inv X held τ1 G1 { t with heap := hB } := I1.landed newer flyB.1 ((upT.trans upA).trans upB) osT gensT
        obtain ⟨obB, fsB, atB, zB, fB⟩ := flyB.there
        have SB := IB.suite atB fB freeE offLocals offOuter
        have w3 : k.2 e cv dd D τ1 G1 := w2 e freeE
        refine wpAny_mono ((runs e obB cv dd (X.pn ++ held) zB ⟨_, fB⟩).run [] _ _ G1 _ SB w3) (fun flow t6 ended => ?_) (fun _ _ z => False.elim z)
        cases flow with
        | ret u => exact let ⟨_, _, _, I6, r6, q6⟩ := ended; ⟨_, _, _, I6.unsuite good, r6, q6⟩
        | next => exact let ⟨_, _, I6, q6⟩ := ended; ⟨_, _, I6.unsuite good, q6⟩
        | brk => exact let ⟨_, _, I6, q6⟩ := ended; ⟨_, _, I6.unsuite good, q6⟩
        | cont => exact let ⟨_, _, I6, q6⟩ := ended; ⟨_, _, I6.unsuite good, q6⟩
  · cases flow with
    | ret u => exact let ⟨_, _, _, J, r, q⟩ := done; ⟨_, _, _, J.ofTry good, r, q⟩
    | next => exact let ⟨_, _, J, q⟩ := done; wpAny_execs_nil ⟨_, _, J.ofTry good, q⟩
    | brk => exact let ⟨_, _, J, q⟩ := done; ⟨_, _, J.ofTry good, q⟩
    | cont => exact let ⟨_, _, J, q⟩ := done; ⟨_, _, J.ofTry good, q⟩
end
/-! tables of texts -/
def getT (tx : List (Str × Str)) (n : Str) : Option Str := (tx.find? fun p => decide (p.1 = n)).map (·.2)
theorem cutV_to (xs : List V) (m : Nat) : cutV xs none (some (m : Int)) = xs.take m := by
  unfold cutV
  rw [HT.sIx_nat, HT.sIx_none, List.drop_zero, Nat.sub_zero]
  rcases Nat.le_total m xs.length with h | h
  · rw [Nat.min_eq_left h]
  · rw [Nat.min_eq_right h, List.take_of_length_le (Nat.le_refl _), List.take_of_length_le h]
theorem cutV_from (xs : List V) (m : Nat) : cutV xs (some (m : Int)) none = xs.drop m := by
  unfold cutV
  rw [HT.sIx_nat, HT.sIx_none, List.take_of_length_le (by rw [List.length_drop]; exact Nat.le_refl _)]
  rcases Nat.le_total m xs.length with h | h
  · rw [Nat.min_eq_left h]
  · rw [Nat.min_eq_right h, List.drop_of_length_le (Nat.le_refl _), List.drop_of_length_le h]
end SC
/-! errors with errors behind them: a raise out of an except suite, whatever the chain of contexts is -/
namespace SC
open PySem PySem.Spec PyProof.Rows L2
/-- errors, each one the context of the one before -/
def Lnk : List (Addr × Obj) → Prop
  | [] => True
  | p :: r => (∃ fs : Array Value, p.2.data = .fields fs ∧ fs[2]? = some (match r with | [] => Value.none | q :: _ => Value.ref q.1)) ∧ Lnk r
theorem Lnk.fields : ∀ {l : List (Addr × Obj)}, Lnk l → ∀ p ∈ l, ∃ fs : Array Value, p.2.data = .fields fs
  | [], _, p, m => absurd m List.not_mem_nil
  | q :: r, h, p, m => by
    rcases List.mem_cons.mp m with rfl | m
    · exact ⟨_, h.1.choose_spec.1⟩
    · exact Lnk.fields h.2 p m
/-! ### an error in the air, with the errors behind it -/
/-- what is kept of the error's object: class, dict, and the errors behind it -/
def Zg (ps : List (Addr × Obj)) (cls : Value) (d : Option Addr) : Obj → Prop := fun o => (o.cls = cls ∧ o.dict = d) ∧ ∀ fs, o.data = .fields fs → fs[2]? = some (match ps with | [] => Value.none | q :: _ => Value.ref q.1)
theorem Zg.steady {ps : List (Addr × Obj)} {cls : Value} {d : Option Addr} : PySem.PXN.Steady1 (Zg ps cls d) := fun o v h => by
  refine ⟨⟨PySem.PXN.steady_cls o v h.1.1, PySem.PXN.steady_dict o v h.1.2⟩, ?_⟩
  have h2 := h.2
  clear h
  obtain ⟨c, dd, dt, sl⟩ := o
  cases dt with
  | fields gs =>
    intro fs e
    have e2 : gs.setIfInBounds 1 v = fs := Data.fields.inj e
    have e3 : (gs.setIfInBounds 1 v)[2]? = gs[2]? := by
      first
      | exact Array.getElem?_setIfInBounds_ne (by decide)
      | simp [Array.getElem?_setIfInBounds]
    rw [← e2, e3]
    exact h2 gs rfl
  | _ =>
    intro fs e
    first
    | exact Data.noConfusion e
    | cases e
/-- the errors behind it stand on the ground, untracked -/
def Row (B : Heap) (H : Hp) (ps : List (Addr × Obj)) : Prop := Lnk ps ∧ ∀ p ∈ ps, B.get? p.1 = some p.2 ∧ H p.1 = none
theorem Row.nil {B : Heap} {H : Hp} : Row B H [] := ⟨trivial, fun p m => absurd m List.not_mem_nil⟩
def AirG (X : Cx) (W : WX) (u : Value) (s' : Shared) : Prop :=
  ∃ (a : Addr) (B : Heap) (sI : Shared) (held : List (Addr × Obj)) (τ : L2.St) (G : Hp) (cls : Value) (d : Option Addr) (ps : List (Addr × Obj)),
    u = .ref a ∧ Inv X held τ G sI ∧ (∀ b o, sI.heap.get? b = some o → b ∉ frs X.stack → B.get? b = some o) ∧ sI.heap.UpToSlots s'.heap ∧
      Sky B X.stack a (Zg ps cls d) X.env.locals s'.heap ∧ Row B G ps ∧ G a = none ∧ s'.os = sI.os ∧ AllBare s'.gens ∧ W cls d τ G
section
variable {X : Cx} {held : List (Addr × Obj)} {τ : L2.St} {H G : Hp} {sI s s' : Shared} {B : Heap} {W : WX} {E : XK}
/-- an error that is new in the air -/
theorem AirG.fresh {a : Addr} {ob : Obj} {fs : Array Value} {cls : Value} {d : Option Addr} {ps : List (Addr × Obj)} (I : Inv X held τ H sI) (keeps : ∀ b o, sI.heap.get? b = some o → s'.heap.get? b = some o) (was : sI.heap.get? a = none) (is : s'.heap.get? a = some ob)
    (z : Zg ps cls d ob) (isFields : ob.data = .fields fs) (noTrace : fs[1]? = some .none) (lk : Lnk ps) (pinned : ∀ p ∈ ps, sI.heap.get? p.1 = some p.2 ∧ H p.1 = none ∧ p.1 ∉ frs X.stack) (na : H a = none) (os : s'.os = sI.os) (ag : AllBare s'.gens) (wish : W cls d τ H) : AirG X W (.ref a) s' := by
  refine ⟨a, PySem.W.hideAll sI.heap (frs X.stack), sI, held, τ, H, cls, d, ps, rfl, I, fun b o e m => PySem.W.hideAll_get _ e m, Heap.UpToSlots.of_keeps keeps,
    .inl ⟨fun b o e => keeps b o (PySem.W.of_hideAll _ e), ?_, Heap.FunFrames.of_keeps (fun b o e _ => ⟨o, keeps b o e, rfl⟩) (funFrames_none I.stack fun b m => PySem.W.hideAll_none _ m), ob, fs, is, z, isFields, noTrace⟩,
    ⟨lk, fun p m => let ⟨q1, q2, q3⟩ := pinned p m; ⟨PySem.W.hideAll_get _ q1 q3, q2⟩⟩, na, os, ag, wish⟩
  cases q : (PySem.W.hideAll sI.heap (frs X.stack)).get? a with
  | none => rfl
  | some o =>
    have y := PySem.W.of_hideAll _ q
    rw [was] at y
    cases y
end
/-! ### raise out of a suite -/
/-- the context bears the handled error and those behind it -/
def HotG (X : Cx) : Prop := ∃ (p : Addr × Obj) (r : List (Addr × Obj)), X.A.handled = some (.ref p.1) ∧ Lnk (p :: r) ∧ ∀ q ∈ p :: r, q ∈ X.pn
/-! ### try, with clauses of one class or two, named or not, whose suites may raise -/
inductive Guard (X : Cx) : Expr → List Value → Prop
  | one {x : Str} {c : Value} {p : Pos} : Names X x c → Guard X (.Name x p) [c]
  | two {x y : Str} {c d : Value} {p q pos : Pos} {k : Nat} : Names X x c → Names X y d → Guard X (.Tuple [.Name x p, .Name y q] k pos) [c, d]
theorem Guard.suite {X : Cx} {g : Expr} {l : List Value} {e : Addr} {pn : List (Addr × Obj)} (h : Guard X g l) : Guard (X.suite e pn) g l := by
  cases h with
  | one a => exact .one a
  | two a b => exact .two a b
/-! ### an error with an __init__ of its own, made where another one is handled or where none is -/
structure FnG (P : Program) (w : World) (K : PySem.W.Frag) (mg : Str → Option Value) (base : Heap) (k : Nat) (f : Addr) (fd : FuncData) (ps : List Str) (sp : Sp) : Prop where
  len : ∀ vs H Q E, sp vs H Q E → vs.length = ps.length
  run : ∀ (A : Around) (outer : List Env) (s : Shared) (H : Hp) (args : Args) (us : List Value) (vs : List V) (Q : VK) (E : XK) (p : Addr × Obj), L2H.RoomH k A → L2H.PinOk outer H s p → Env0 P w K mg base A outer s H → BindsTo s fd args (ps.zip us) → Vals vs us → sp vs H Q E →
    codeAny (model P w) A (.call (.ref f) args) (CR CX0 outer P w H s Q E) s
section
variable {P : Program} {w : World} {K : PySem.W.Frag} {mg : Str → Option Value} {base : Heap}
theorem FnG.mono {j k : Nat} {f : Addr} {fd : FuncData} {ps : List Str} {sp : Sp} (F : FnG P w K mg base j f fd ps sp) (h : j ≤ k) : FnG P w K mg base k f fd ps sp := ⟨F.len, fun A outer s H args us vs Q E p hr => F.run A outer s H args us vs Q E p (hr.mono h)⟩
end
theorem HotG.pin {X : Cx} (hot : HotG X) {held : List (Addr × Obj)} {σ : L2.St} {H : Hp} {s : Shared} (I : Inv X held σ H s) : ∃ p : Addr × Obj, L2H.PinOk X.stack H s p := by
  obtain ⟨p, r, _, _, inPins⟩ := hot
  have pinned := I.pin p (List.mem_append_left _ (inPins p List.mem_cons_self))
  exact ⟨p, pinned.1, pinned.2.1, fun m => (List.mem_cons.mp (I.stkSub p.1 m)).elim pinned.2.2.1 pinned.2.2.2.1, pinned.2.2.2.2⟩
/-! ### calls that may let such errors out -/
/-! ### instances whose __init__ may let such errors out -/
section
variable {X : Cx} {x : Str} {p pos : Pos} {e : Expr} {es : List Expr} {t : TA} {sp : Sp} {j k : Nat} {CX : CXT} {E : XK} {C : Addr} {U : WX}
theorem CalK.pex (c : CalK X.prog X.w X.K X.mg X.base CX j C x sp) (hr : Room k X.A) (hx : Passes CX X E) (ha : PA X (e :: es) t) (hjk : j + 1 ≤ k := by first | decide | omega) (hg : Gl X x := by rfl) (hdb : (x == ("__debug__" : Str)) = false := by decide)
    (he : starEach (e :: es) X.env = (false, eval e X.env) :: starEach es X.env := by rfl) (hpl : (backTo pos (starEach es X.env)).any (·.1) = false := by rfl) :
    PE X (.Call (.Name x p) (e :: es) [] pos) (tMake C sp [] E t) :=
  let ⟨_, _, _, F, m, b⟩ := c.ex
  pe_make m F (hr.mono hjk) hg c.mg b .nil hx ha hdb he hpl
end
end SC
/-! the head by one run of the kernel: what the end leans on is looked at there, nothing of the top is written out -/
namespace SC
open PySem PySem.Spec PyProof.Rows L2 LamX
/-- the law's end: F is given the part of the heap -/
theorem walk_tabE {l : PySem.W.OpenLaw} {n k : Nat} {q : Program} {loose : List Str} {XP : (Str → Option Value) → Heap → Prop} {YP : World → Heap → Prop} {d : DefRec} {CX : CXT} {x : Str} {Sx : PySem.W.Frag → Prop} {nm : Str}
    (hn : l.most = some n) (hn2 : n ≤ sizeLine) (hdf : d.params.defaults = []) (hx : d.name = nm) (hr : Room k callerA) (hY : ∀ (w : World) (h : Heap), YP w h → ∃ K : PySem.W.Frag, K.In h ∧ Sx K)
    (hCX : ∀ (H : Hp) (s : Shared) (e : Value) (s' : Shared), CX [] H s (fun _ _ _ => False) e s' → False)
    (F : ∀ (w : World) (mg mb : Str → Option Value) (lo : List Str) (mean : ExcName → Option Value) (fa : Addr) (h : Heap) (K : PySem.W.Frag), Top q lo mean mg mb h → K.In h → Sx K → h.Ns mainGlobals mg → mg nm = some (.ref fa) → LawAtS l w K CX k n x mg fa h) :
    PySem.W.WalkO q loose XP YP l.row.toRowW d [] (fun f vs => PySem.call f vs) := by
  refine Att.attach_callB hn hdf fun w s0 s1 mg mb fa o pm cd doc a vs ns G Y ho hd hcd hmg hobj hints hlen hbits hg => ?_
  obtain ⟨K, KX, c⟩ := hY w _ Y
  obtain ⟨fd, cs, sp, hT, nT, C, hb, hsp, hF⟩ := F w mg mb _ _ fa _ K G.T KX c G.T.g (by rw [← hx]; exact hmg)
  exact law_callTs KX G.T.g G.T.b G.T.builtins G.T.nolimit hg hT nT C G.T.bmain hobj hints (Nat.le_trans hlen hn2) hr hF hb (fun H hH hS => hsp H a ns hlen hbits hH hS) fun H e s' => hCX H s1 e s'
/-- the run's equation out of its parts (each a run of its own: less memory at a time) -/
theorem run_of3 {r : PySem.W.OpenRow} {q : Program} {H : PySem.W.Hook} {ob : PySem.W.SharedT → H.α} {M : Nat} {loose : List Str} {w : World}
    (a : ∀ os : OsState, (HandSHeadRun.endF (HandSHeadRun.stepQ (HandSHeadRun.denQ HandSHeadRun.tabQ) r.prog w) M r.prog w os).map (fun s => HandSHeadRun.looksF r.prog (PySem.W.boot_heap w.params) s.abs) = some true)
    (b : ∀ os : OsState, (HandSHeadRun.endF (HandSHeadRun.stepQ (HandSHeadRun.denQ HandSHeadRun.tabQ) r.prog w) M r.prog w os).map (fun s => HandSHeadRun.seenQ q loose (importedModules r.prog.main.body) (fun s => PySem.W.xlAt q [] s && PySem.W.recOk r.toRowW.records s) s.abs) = some (PySem.W.openGood q loose))
    (c : ∀ os : OsState, (HandSHeadRun.endF (HandSHeadRun.stepQ (HandSHeadRun.denQ HandSHeadRun.tabQ) r.prog w) M r.prog w os).map ob = some (H.val w)) : HandSHeadRun.RunEq r q H ob M loose w := by
  intro os
  have a := a os
  have b := b os
  have c := c os
  cases e : HandSHeadRun.endF (HandSHeadRun.stepQ (HandSHeadRun.denQ HandSHeadRun.tabQ) r.prog w) M r.prog w os with
  | none => rw [e] at a; cases a
  | some s =>
    rw [e] at a b c
    have a := Option.some.inj a
    have b := Option.some.inj b
    have c := Option.some.inj c
    exact congrArg some (Prod.ext a (Prod.ext b c))
/-! ### the part of the heap that is looked at -/
/-- what an object names (a code object's tables left out) -/
def refsH (o : Obj) : List Addr := match o.data with
  | .dict es _ => es.toList.flatMap fun e => He.refV e.val
  | .func fd => He.refV fd.code
  | .cls cd => cd.ns :: cd.mro.flatMap He.refV
  | _ => []
def stepH (g : Addr → Option Obj) (as : List Addr) : List Addr := as.flatMap fun a => match g a with
  | some o => refsH o
  | none => []
def asH (g : Addr → Option Obj) : List Addr :=
  [mainGlobals] ++ (stepH g [mainGlobals] ++ (stepH g (stepH g [mainGlobals]) ++ (stepH g (stepH g (stepH g [mainGlobals])) ++ stepH g (stepH g (stepH g (stepH g [mainGlobals]))))))
noncomputable def frL (g : Addr → Option Obj) (as : List Addr) : PySem.W.Frag := @List.rec Addr (fun _ => PySem.W.Frag) [] (fun a _ ih => match g a with
  | some o => (a, o) :: ih
  | none => ih) as
theorem frL_eq (g : Addr → Option Obj) : ∀ as, frL g as = He.frG g as
  | [] => rfl
  | a :: r => by
    have h1 : frL g (a :: r) = (match g a with | some o => (a, o) :: frL g r | none => frL g r) := rfl
    rw [h1, frL_eq g r]
    unfold He.frG
    rw [List.filterMap_cons]
    cases g a <;> rfl
/-! ### looks -/
noncomputable def lk (K : PySem.W.Frag) (a : Addr) : Option Obj := @List.rec (Addr × Obj) (fun _ => Option Obj) none (fun p _ ih => @Bool.rec (fun _ => Option Obj) ih (some p.2) (Nat.beq a p.1)) K
theorem lk_eq (a : Addr) : ∀ K : PySem.W.Frag, lk K a = K.lookup a
  | [] => rfl
  | (b, o) :: r => by
    have h1 : lk ((b, o) :: r) a = @Bool.rec (fun _ => Option Obj) (lk r a) (some o) (Nat.beq a b) := rfl
    have h2 : List.lookup a ((b, o) :: r) = match a == b with | true => some o | false => List.lookup a r := rfl
    rw [h1, h2, lk_eq a r]
    have e : (a == b) = Nat.beq a b := by rw [Bool.eq_iff_iff, beq_iff_eq, Nat.beq_eq]
    rw [e]
    cases Nat.beq a b <;> rfl
/-- a key of a namespace -/
noncomputable def keyB (v : Value) (x : Str) : Bool := match v with
  | .str s _ => PySem.W.Fast.sEq s x
  | _ => false
theorem keyB_eq (v : Value) (x : Str) : keyB v x = v.isStr x := by
  cases v with
  | str s t =>
    show PySem.W.Fast.sEq s x = (s == x)
    rw [Bool.eq_iff_iff, PySem.W.Fast.sEq_iff, beq_iff_eq]
  | _ => rfl
noncomputable def findE (es : List DictEntry) (x : Str) : Option Value := @List.rec DictEntry (fun _ => Option Value) none (fun e _ ih => @Bool.rec (fun _ => Option Value) ih (some e.val) (keyB e.key x)) es
theorem findE_eq (x : Str) : ∀ es : List DictEntry, findE es x = (es.find? (·.key.isStr x)).map (·.val)
  | [] => rfl
  | e :: r => by
    have h1 : findE (e :: r) x = @Bool.rec (fun _ => Option Value) (findE r x) (some e.val) (keyB e.key x) := rfl
    rw [h1, findE_eq x r, keyB_eq, List.find?_cons]
    cases e.key.isStr x <;> rfl
noncomputable def nsV (K : PySem.W.Frag) (ns : Addr) (x : Str) : Option Value := match lk K ns with
  | some ⟨_, _, .dict es _, _⟩ => findE es.toList x
  | _ => none
theorem nsV_in {K : PySem.W.Frag} {ns : Addr} {x : Str} {v : Value} (h : nsV K ns x = some v) : PySem.W.nsIn K ns x = some (some v) := by
  unfold nsV at h
  rw [lk_eq] at h
  unfold PySem.W.nsIn
  split at h
  · rename_i q
    rw [q]
    rw [findE_eq] at h
    obtain ⟨e, he, rfl⟩ := Option.map_eq_some_iff.mp h
    simp only [he]
  · cases h
noncomputable def gA (K : PySem.W.Frag) (x : Str) : Addr := match nsV K mainGlobals x with
  | some (.ref a) => a
  | _ => 0
/-- a method of the class itself -/
noncomputable def ownV (K : PySem.W.Frag) (C : Addr) (m : Str) : Option Value := match lk K C with
  | some ⟨_, _, .cls cd, _⟩ => (match cd.mro with
    | .ref D :: _ => (match Nat.beq D C with
      | true => nsV K cd.ns m
      | false => none)
    | _ => none)
  | _ => none
theorem ownV_in {K : PySem.W.Frag} {C : Addr} {m : Str} {v : Value} (h : ownV K C m = some v) : PySem.W.findIn K (.ref C) m = some (some v) := by
  unfold ownV at h
  rw [lk_eq] at h
  split at h
  · rename_i q
    split at h
    · rename_i D r e
      split at h
      · rename_i eD
        have eD := Nat.eq_of_beq_eq_true eD
        subst eD
        unfold PySem.W.findIn
        simp only [q, e]
        unfold PySem.W.alongIn PySem.W.ownIn
        simp only [q, nsV_in h]
      · cases h
    · cases h
  · cases h
noncomputable def mA (K : PySem.W.Frag) (C : Addr) (m : Str) : Addr := match ownV K C m with
  | some (.ref a) => a
  | _ => 0
noncomputable def fA (K : PySem.W.Frag) (p : Str × Option Str) : Addr := match p.2 with
  | none => gA K p.1
  | some m => mA K (gA K p.1) m
noncomputable def refAt (K : PySem.W.Frag) (p : Str × Option Str) : Bool := match (match p.2 with
  | none => nsV K mainGlobals p.1
  | some m => ownV K (gA K p.1) m) with
  | some (.ref _) => true
  | _ => false
/-- a class stands under its name -/
noncomputable def gloB (K : PySem.W.Frag) (x : Str) : Bool := refAt K (x, none)
theorem glo_of {K : PySem.W.Frag} {x : Str} (h : gloB K x = true) : PySem.W.nsIn K mainGlobals x = some (some (.ref (gA K x))) := by
  have h : (match nsV K mainGlobals x with | some (.ref _) => true | _ => false) = true := h
  unfold gA
  split at h
  · rename_i a e
    exact nsV_in e
  · cases h
theorem met_of {K : PySem.W.Frag} {C m : Str} (h : refAt K (C, some m) = true) : PySem.W.findIn K (.ref (gA K C)) m = some (some (.ref (mA K (gA K C) m))) := by
  have h : (match ownV K (gA K C) m with | some (.ref _) => true | _ => false) = true := h
  unfold mA
  split at h
  · rename_i a e
    exact ownV_in e
  · cases h
noncomputable def codeB (K : PySem.W.Frag) (cd : Value) (q : Str) : Bool := match cd with
  | .ref c => (match lk K c with
      | some ⟨_, _, .fields vs, _⟩ => (match vs.toList with | _ :: .str n _ :: _ => PySem.W.Fast.sEq n q | _ => false)
      | _ => false)
  | _ => false
theorem codeB_in {K : PySem.W.Frag} {cd : Value} {q : Str} (h : codeB K cd q = true) : PySem.W.codeIn K cd q = true := by
  unfold codeB at h
  split at h
  · rename_i c
    rw [lk_eq] at h
    split at h
    · rename_i e
      split at h
      · rename_i e2
        unfold PySem.W.codeIn
        simp only [e, e2]
        rw [PySem.W.Fast.sEq_iff.mp h, beq_self_eq_true]
      · cases h
    · cases h
  · cases h
/-- a def: where it stands, a function, its code object -/
noncomputable def okF (K : PySem.W.Frag) (d : He.FnD) : Bool := match refAt K d.at_ with
  | true => (match lk K (fA K d.at_) with
    | some ⟨.type "function", _, .func fd, _⟩ => codeB K fd.code d.qual
    | _ => false)
  | false => false
noncomputable def fnO (K : PySem.W.Frag) (p : Str × Option Str) : He.FnV := match lk K (fA K p) with
  | some ⟨_, _, .func fd, _⟩ => some (fd.name, fd.qualname, fd.params, fd.body, fd.scope, fd.globals, fd.closure, fd.defaults, fd.builtins)
  | _ => none
theorem okF_of {K : PySem.W.Frag} {d : He.FnD} (o : okF K d = true) (e : fnO K d.at_ = d.val) : refAt K d.at_ = true ∧ PySem.W.isFn K (.ref (fA K d.at_)) = true ∧ PySem.W.keepIn K (.ref (fA K d.at_)) = true ∧
    ∃ oc od osl kV doc pm an cdv ct, K.lookup (fA K d.at_) = some ⟨oc, od, .func (PySem.W.fnOf d.name d.qual d.params d.body d.scope .none kV doc pm an cdv ct), osl⟩ ∧ PySem.W.codeIn K cdv d.qual = true := by
  unfold okF at o
  split at o
  · rename_i hr
    refine ⟨hr, ?_⟩
    rw [lk_eq] at o
    split at o
    · rename_i od fd osl q
      unfold fnO at e
      rw [lk_eq, q] at e
      obtain ⟨n1, n2, n3, n4, n5, n6, n7, n8, n9, n10, n11, n12, n13, n14, n15⟩ := fd
      have e2 : (some (n1, n2, n3, n4, n5, n6, n7, n8, n15) : He.FnV) = some (d.name, d.qual, d.params, .stmts d.body, d.scope, mainGlobals, [], .none, builtinsNs) := e
      simp only [Option.some.injEq, Prod.mk.injEq] at e2
      obtain ⟨h1, h2, h3, h4, h5, h6, h7, h8, h9⟩ := e2
      subst h1 h2 h3 h4 h5 h6 h7 h8 h9
      refine ⟨?_, ?_, _, od, osl, n9, n10, n11, n12, n13, n14, q, codeB_in o⟩
      · unfold PySem.W.isFn PySem.W.typeIn
        simp only [q, Option.map_some]
        rfl
      · unfold PySem.W.keepIn
        simp only [q]
    · cases o
  · cases o
/-- a def's table: written, not looked at -/
noncomputable def okTb (K : PySem.W.Frag) (d : He.FnD) : Bool := match lk K (fA K d.at_) with
  | some ⟨_, _, .func fd, _⟩ => (match fd.code with
    | .ref c => (match lk K c with
      | some ⟨_, _, .fields vs, _⟩ => (match (vs[11]? : Option Value) with
        | some (.ref P) => (lk K P).isNone
        | _ => false)
      | _ => false)
    | _ => false)
  | _ => false
/-- a tuple of texts -/
def strsB (K : PySem.W.Frag) (a : Addr) (zs : List Str) : Bool := match K.lookup a with
  | some ⟨.type c, none, .seq its _, _⟩ => decide (c = "tuple") && (decide (its.size ≤ 1000) && He.relAll (zs.map V.str) its.toList)
  | _ => false
theorem strsB_ok {K : PySem.W.Frag} {a : Addr} {zs : List Str} (h : strsB K a zs = true) : ∃ (o : Obj) (its : Array Value) (n : Nat), K.lookup a = some o ∧ o.cls = .type "tuple" ∧ o.dict = none ∧ o.data = .seq its n ∧ its.size ≤ sizeLine ∧ Vals (zs.map V.str) its.toList := by
  unfold strsB at h
  split at h
  · rename_i c its n sl q
    obtain ⟨h1, h⟩ := Bool.and_eq_true_iff.mp h
    obtain ⟨h2, h3⟩ := Bool.and_eq_true_iff.mp h
    have h1 := of_decide_eq_true h1
    subst h1
    exact ⟨_, its, n, q, rfl, rfl, rfl, by rw [sizeLine_eq]; have := of_decide_eq_true h2; omega, He.relAll_ok h3⟩
  · cases h
theorem int_in {K : PySem.W.Frag} {x : Str} {i : Int} (c : (He.Fa.int x i).ok K = true) : ∃ t, PySem.W.nsIn K mainGlobals x = some (some (.int i t)) := by
  have c2 : (match PySem.W.nsIn K mainGlobals x with
    | some (some (.int j _)) => decide (j = i)
    | _ => false) = true := c
  split at c2
  · rename_i j t e
    rw [← of_decide_eq_true c2]
    exact ⟨t, e⟩
  · cases c2
theorem str_in {K : PySem.W.Frag} {x z : Str} (c : (He.Fa.str x z).ok K = true) : ∃ t, PySem.W.nsIn K mainGlobals x = some (some (.str z t)) := by
  have c2 : (match PySem.W.nsIn K mainGlobals x with
    | some (some (.str y _)) => decide (y = z)
    | _ => false) = true := c
  split at c2
  · rename_i j t e
    rw [← of_decide_eq_true c2]
    exact ⟨t, e⟩
  · cases c2
/-! ### the Hook -/
abbrev FxL : Type := List (List (PySem.W.Frag → Bool))
abbrev AlH : Type := Bool × (Bool × (Bool × List (List He.FnV)))
noncomputable def obsH (fx : FxL) (fn : List (List He.FnD)) (tf : List He.FnD) (K : PySem.W.Frag) : AlH :=
  (fx.all fun g => g.all fun f => f K, fn.all fun g => g.all fun d => okF K d, tf.all fun d => okTb K d, fn.map fun g => g.map fun d => fnO K d.at_)
def valH (fn : List (List He.FnD)) : AlH := (true, true, true, fn.map fun g => g.map He.FnD.val)
def SaysH (fx : FxL) (fn : List (List He.FnD)) (tf : List He.FnD) (K : PySem.W.Frag) : Prop := obsH fx fn tf K = valH fn
noncomputable def obsHG (fx : FxL) (fn : List (List He.FnD)) (tf : List He.FnD) (g : Addr → Option Obj) : AlH := obsH fx fn tf (frL g (asH g))
noncomputable def hookH (fx : FxL) (fn : List (List He.FnD)) (tf : List He.FnD) : PySem.W.Hook where
  α := AlH
  obs := fun s => obsHG fx fn tf s.heap.get?
  val := fun _ => valH fn
  says := fun _ h => ∃ K : PySem.W.Frag, K.In h ∧ SaysH fx fn tf K
  of := fun _ _ e => ⟨_, by rw [frL_eq]; exact He.frG_in, e⟩
  keeps := fun _ _ _ ⟨K, hK, c⟩ k => ⟨K, PySem.W.Frag.In.keeps hK k, c⟩
theorem obsHG_eq {fx : FxL} {fn : List (List He.FnD)} {tf : List He.FnD} (s : PySem.W.SharedT) : obsHG fx fn tf (HandSHeadRun.getT s) = (hookH fx fn tf).obs s.abs := by
  have e : HandSHeadRun.getT s = s.abs.heap.get? := funext fun a => HandSHeadRun.getT_eq s a
  rw [e] <;> rfl
section
variable {fx : FxL} {fn : List (List He.FnD)} {tf : List He.FnD} {K : PySem.W.Frag}
theorem SaysH.fact (c : SaysH fx fn tf K) (j i : Nat) {g : List (PySem.W.Frag → Bool)} {f : PySem.W.Frag → Bool} (h : fx[j]? = some g) (h2 : g[i]? = some f) : f K = true := by
  have c1 : (fx.all fun g => g.all fun f => f K) = true := congrArg (fun z : AlH => z.1) c
  exact List.all_eq_true.mp (List.all_eq_true.mp c1 g (List.mem_of_getElem? h)) f (List.mem_of_getElem? h2)
theorem SaysH.func (c : SaysH fx fn tf K) (j i : Nat) {g : List He.FnD} {d : He.FnD} (h : fn[j]? = some g) (h2 : g[i]? = some d) : okF K d = true ∧ fnO K d.at_ = d.val := by
  have c1 : (fn.all fun g => g.all fun d => okF K d) = true := congrArg (fun z : AlH => z.2.1) c
  have o := List.all_eq_true.mp (List.all_eq_true.mp c1 g (List.mem_of_getElem? h)) d (List.mem_of_getElem? h2)
  have e : fn.map (fun g => g.map fun d => fnO K d.at_) = fn.map fun g => g.map He.FnD.val := congrArg (fun z : AlH => z.2.2.2) c
  have e2 : (fn.map fun g => g.map fun d => fnO K d.at_)[j]? = (fn.map fun g => g.map He.FnD.val)[j]? := by rw [e]
  rw [List.getElem?_map, List.getElem?_map, h] at e2
  have e3 : g.map (fun d => fnO K d.at_) = g.map He.FnD.val := Option.some.inj e2
  have e4 : (g.map fun d => fnO K d.at_)[i]? = (g.map He.FnD.val)[i]? := by rw [e3]
  rw [List.getElem?_map, List.getElem?_map, h2] at e4
  exact ⟨o, Option.some.inj e4⟩
theorem SaysH.glo (c : SaysH fx fn tf K) (j i : Nat) {g : List He.FnD} {d : He.FnD} {x : Str} (h : fn[j]? = some g) (h2 : g[i]? = some d) (h3 : d.at_ = (x, none)) :
    PySem.W.nsIn K mainGlobals x = some (some (.ref (fA K d.at_))) ∧ PySem.W.keepIn K (.ref (fA K d.at_)) = true ∧ ∃ oc od osl kV doc pm an cdv ct, K.lookup (fA K d.at_) = some ⟨oc, od, .func (PySem.W.fnOf d.name d.qual d.params d.body d.scope .none kV doc pm an cdv ct), osl⟩ ∧ PySem.W.codeIn K cdv d.qual = true := by
  obtain ⟨o, e⟩ := SaysH.func c j i h h2
  obtain ⟨a, b, k, r⟩ := okF_of o e
  refine ⟨?_, k, r⟩
  rw [h3] at a ⊢
  exact glo_of a
theorem SaysH.met (c : SaysH fx fn tf K) (j i : Nat) {g : List He.FnD} {d : He.FnD} {x m : Str} (h : fn[j]? = some g) (h2 : g[i]? = some d) (h3 : d.at_ = (x, some m)) :
    PySem.W.findIn K (.ref (gA K x)) m = some (some (.ref (fA K d.at_))) ∧ PySem.W.isFn K (.ref (fA K d.at_)) = true ∧ PySem.W.keepIn K (.ref (fA K d.at_)) = true ∧ ∃ oc od osl kV doc pm an cdv ct, K.lookup (fA K d.at_) = some ⟨oc, od, .func (PySem.W.fnOf d.name d.qual d.params d.body d.scope .none kV doc pm an cdv ct), osl⟩ ∧ PySem.W.codeIn K cdv d.qual = true := by
  obtain ⟨o, e⟩ := SaysH.func c j i h h2
  obtain ⟨a, b, k, r⟩ := okF_of o e
  refine ⟨?_, b, k, r⟩
  rw [h3] at a ⊢
  exact met_of a
theorem SaysH.tab (c : SaysH fx fn tf K) (i : Nat) {d : He.FnD} (h : tf[i]? = some d) {oc : Value} {od : Option Addr} {osl : Array (Option Value)} {fd : FuncData} (l : K.lookup (fA K d.at_) = some ⟨oc, od, .func fd, osl⟩) :
    ∃ (cc : Addr) (cK : Value) (dc : Option Addr) (vs : Array Value) (sc : Array (Option Value)) (P : Addr), fd.code = .ref cc ∧ K.lookup cc = some ⟨cK, dc, .fields vs, sc⟩ ∧ vs[11]? = some (.ref P) ∧ K.lookup P = none := by
  have c1 : (tf.all fun d => okTb K d) = true := congrArg (fun z : AlH => z.2.2.1) c
  have o := List.all_eq_true.mp c1 d (List.mem_of_getElem? h)
  unfold okTb at o
  rw [lk_eq, l] at o
  dsimp only at o
  split at o
  · rename_i c0 e0
    rw [lk_eq] at o
    split at o
    · rename_i x1 x2 vs x3 e1
      split at o
      · rename_i P e2
        rw [lk_eq] at o
        exact ⟨c0, _, _, vs, _, P, e0, e1, e2, Option.isNone_iff_eq_none.mp o⟩
      · cases o
    · cases o
  · cases o
end
end SC
namespace SC
open PySem L2
def top (i : Nat) : Stmt := PySem.Challenge.pw_sealchart_k33_search_by_the_rules.main.body.getD i (.Pass ⟨0, 0, 0, 0⟩)
local macro_rules | `(tactic| walk_at "wp") => `(tactic| simp (config := { decide := false }) only [tFmtX, gCons, gNil, tSeq, tAsg, tIfS, tRet, tTest, tOp, tUn, tVar, tC, tCB, tCall, tCons, tNil, tLst, tTup, tAnd, tOr, tNot, tAndV, tOrV, tNotV, tB, tChain, tIf, tIsT, tSl, rSlS, tNoPart, tPart, tErr, tAug, ipI, tDrop, tM1, tBM, rAppend, tFld, sFld, sDPut, tDGet1, tDNewT, tDNewK, tDisp, tPairs, tDGet, tDIn, tDNotIn, tDPop1, tDPop2, tDGet2, sDDel, sFldAug, tMeth, tMake, gSub, gName, tNext, rI, rI0, rU, rEq, rNe, scal, rSetL, L2.start, List.map_cons, List.map_nil, List.length_cons, List.length_nil, List.replicate, List.cons_append, List.nil_append, List.append_nil, List.getElem?_cons_zero, List.getElem?_cons_succ, List.set_cons_zero, List.set_cons_succ, cxOf,
    Option.some.injEq, V.int.injEq, V.ref.injEq, V.str.injEq, V.bl.injEq, V.ty.injEq, HO.lst.injEq, HO.tup.injEq, List.cons.injEq, exists_eq_left, exists_eq_left', exists_eq_right, exists_and_left, exists_eq, and_true, true_and, and_assoc, reduceCtorEq, false_and, and_false, exists_false, or_false, false_or, decide_eq_true_eq, Bool.not_eq_true', decide_eq_false_iff_not, decide_true, decide_false, Bool.false_eq_true, upd_same, at0, at1, ixN_20, ixN_21, ixN_10, if_true, if_false, ite_true, ite_false, Nat.reduceAdd, Nat.reduceSub, tyN_non, tyN_bl, tyN_int, tyN_str, isaB_all])
local macro_rules | `(tactic| walk_at "wt") => `(tactic| simp (config := { decide := false }) only [tTest, tOp, tVar, tC, tCB, tCons, tNil, tSl, rSlS, tNoPart, tPart, tB, tAnd, tOr, tNot, tAndV, tOrV, tNotV, tChain, tIsT, rI, rI0, rU, rEq, rNe, scal, List.getElem?_cons_zero, List.getElem?_cons_succ,
    Option.some.injEq, V.int.injEq, V.ref.injEq, V.str.injEq, V.bl.injEq, V.ty.injEq, HO.lst.injEq, HO.tup.injEq, List.cons.injEq, exists_eq_left, exists_eq_left', exists_eq_right, exists_and_left, exists_eq, and_true, true_and, and_assoc, reduceCtorEq, false_and, and_false, exists_false, or_false, false_or, decide_eq_true_eq, Bool.not_eq_true', decide_eq_false_iff_not, decide_true, decide_false, Bool.false_eq_true, upd_same, at0, at1, ixN_20, ixN_21, ixN_10, if_true, if_false, ite_true, ite_false, Nat.reduceAdd, Nat.reduceSub, tyN_non, tyN_bl, tyN_int, tyN_str, isaB_all])
local macro_rules | `(tactic| walk_at "wq") => `(tactic| simp (config := { decide := false }) only [tFmtX, gCons, gNil, tSeq, tAsg, tIfS, tRet, tTest, tOp, tUn, tVar, tC, tCB, tCall, tCons, tNil, tLst, tTup, tAnd, tOr, tNot, tAndV, tOrV, tNotV, tB, tChain, tIf, tIsT, tSl, rSlS, tNoPart, tPart, tErr, tAug, ipI, tDrop, tM1, tBM, rAppend, tFld, sFld, sDPut, tDGet1, tDNewT, tMethV, WE, tDNewK, tDisp, tPairs, tDGet, tDIn, tDNotIn, tDPop1, tDPop2, tDGet2, sDDel, sFldAug, tMeth, tMake, gSub, gName, tNext, rI, rI0, rU, rEq, rNe, scal, rSetL, L2.start, List.map_cons, List.map_nil, List.length_cons, List.length_nil, List.replicate, List.cons_append, List.nil_append, List.append_nil, List.getElem?_cons_zero, List.getElem?_cons_succ, List.set_cons_zero, List.set_cons_succ, cxOf,
    Option.some.injEq, V.int.injEq, V.ref.injEq, V.str.injEq, V.bl.injEq, V.ty.injEq, HO.lst.injEq, HO.tup.injEq, List.cons.injEq, exists_eq_left, exists_eq_left', exists_eq_right, exists_and_left, exists_eq, and_true, true_and, and_assoc, reduceCtorEq, false_and, and_false, exists_false, or_false, false_or, decide_eq_true_eq, Bool.not_eq_true', decide_eq_false_iff_not, decide_true, decide_false, Bool.false_eq_true, upd_same, at0, at1, ixN_20, ixN_21, ixN_10, if_true, if_false, ite_true, ite_false, Nat.reduceAdd, Nat.reduceSub, tyN_non, tyN_bl, tyN_int, tyN_str, isaB_all])
/-! the law's own helpers: cell, stream, take, char, string -/
section
variable {P : Program} {w : World} {K : PySem.W.Frag} {mg : Str → Option Value} {base : Heap} {f : Addr} {fd : FuncData}
theorem two200 {m : Int} (h0 : 0 < m) (h : m < 2 ^ 200) : CDivW a m := by
  refine wide_div (b := 200) h0 ?_ (by decide) (by decide)
  have : (2 : Int) ^ 200 = ((2 ^ 200 : Nat) : Int) := by decide +kernel
  rw [this] at h
  omega
end
/-! the program's is_printable, is_integer; the law's says -/
abbrev s_is_integer : Stmt := top 26
abbrev N_is_integer : List Str := ["value", "least", "greatest"]
theorem sc_is_integer : FnScope N_is_integer ["value", "least", "greatest"] (defScope s_is_integer) := ⟨rfl, rfl, rfl, by decide +kernel, rfl, by decide +kernel, by decide +kernel⟩
def inV (lo hi : Int) : V → Bool
  | .int i => decide (lo ≤ i) && decide (i ≤ hi)
  | _ => false
def spIntg : Sp := fun vs H Q _ => ∃ (v : V) (lo hi : Int), vs = [v, .int lo, .int hi] ∧ (∃ t, tyN H v = some t) ∧ Q (.bl (inV lo hi v)) H
section
variable {P : Program} {w : World} {K : PySem.W.Frag} {mg : Str → Option Value} {base : Heap} {f : Addr} {fd : FuncData}
theorem ok_integer (F : Fun K "is_integer" "is_integer" s_is_integer f fd) (B : Blt mg) : FnOk P w K mg base CX0 1 f fd ["value", "least", "greatest"] spIntg := by
  refine F.ok sc_is_integer (fun vs H Q E h => ?_) (fun cdv A outer s H vs Q E hr h => ?_)
  · obtain ⟨v, lo, hi, rfl, _⟩ := h; rfl
  obtain ⟨v, lo, hi, rfl, ⟨t, ht⟩, q⟩ := h
  refine ⟨_, (pss_cons (ps_if (PW.pt (pw_or (pt_not (pt_val (B.isT (pv 0) B.v_int))) (pw_or1 (pt_val (B.isT (pv 0) B.v_bool))))) (pss_one (ps_ret pe_bl)) pss_nil)
    (pss_one (ps_ret (pe_chain op_le op_le (pv 1) (pv 0) (pv 2))))), ?_⟩
  walk_at "wp"
  refine ⟨t, ht, ?_⟩
  cases c1 : isaB t "int" with
  | false =>
    rw [if_pos rfl]
    have e : inV lo hi v = false := by
      cases v with
      | int z => cases ht; exact absurd c1 (by decide)
      | _ => rfl
    rw [e] at q
    exact q
  | true =>
    rw [if_neg (by decide)]
    refine ⟨t, ht, ?_⟩
    rcases isa_int ht c1 with ⟨z, rfl⟩ | ⟨b, rfl⟩
    · cases ht
      rw [if_neg (by decide)]
      have q : Q (.bl (decide (lo ≤ z) && decide (z ≤ hi))) H := q
      refine ⟨z, rfl, ?_⟩
      by_cases c2 : lo ≤ z
      · rw [if_pos c2]
        rw [decide_eq_true c2] at q
        exact ⟨z, rfl, q⟩
      · rw [if_neg c2]
        rw [decide_eq_false c2] at q
        exact q
    · cases ht
      rw [if_pos (by decide)]
      exact q
end
/-! list names and keys -/
abbrev s_consists_of : Stmt := top 21
abbrev N_consists_of : List Str := ["text", "marks"]
theorem sc_consists_of : FnScope N_consists_of ["text", "marks"] (defScope s_consists_of) := ⟨rfl, rfl, rfl, by decide +kernel, rfl, by decide +kernel, by decide +kernel⟩
abbrev s_is_list_name : Stmt := top 15
abbrev N_is_list_name : List Str := ["value"]
theorem sc_is_list_name : FnScope N_is_list_name ["value"] (defScope s_is_list_name) := ⟨rfl, rfl, rfl, by decide +kernel, rfl, by decide +kernel, by decide +kernel⟩
abbrev s_is_key : Stmt := top 16
abbrev N_is_key : List Str := ["value"]
theorem sc_is_key : FnScope N_is_key ["value"] (defScope s_is_key) := ⟨rfl, rfl, rfl, by decide +kernel, rfl, by decide +kernel, by decide +kernel⟩
structure NmC (mg : Str → Option Value) : Prop where
  c_DIGITS : ∃ t, mg "_DIGITS" = some (.str "0123456789" t)
  c_MOST_NAME : ∃ t, mg "_MOST_NAME" = some (.int 12 t)
def inT (m z : Str) : Bool := z.cps.toList.all fun c => decide (c ∈ m.cps.toList)
def lnS (z : Str) : Bool := decide (1 ≤ z.length) && decide (z.length ≤ 12) && inT (Str.ofString "abcdefghijklmnopqrstuvwxyz") z
def kyS (z : Str) : Bool := decide (2 ≤ z.length) && decide (z.length ≤ 12) && decide (z.cps.toList.head? = some 107) && inT (Str.ofString "0123456789") (cutS z (some 1) none)
def lnV : V → Bool
  | .str z => lnS z
  | _ => false
def kyV : V → Bool
  | .str z => kyS z
  | _ => false
def szV : V → Prop
  | .str z => z.length ≤ sizeLine
  | _ => True
/-- _consists_of(z, m), Pc the table of its code -/
def spCons (Pc : Addr) : Sp := fun vs H Q _ => ∃ z m : Str, vs = [.str z, .str m] ∧ GxR.TabG H Pc ∧ ∀ H', Kp [Pc] H H' → GxR.TabG H' Pc → Q (.bl (inT m z)) H'
def spNm (f : V → Bool) (Pc : Addr) : Sp := fun vs H Q _ => ∃ v : V, vs = [v] ∧ GxR.TabG H Pc ∧ (∃ t, tyN H v = some t) ∧ szV v ∧ ∀ H', Kp [Pc] H H' → GxR.TabG H' Pc → Q (.bl (f v)) H'
section
variable {P : Program} {w : World} {K : PySem.W.Frag} {mg : Str → Option Value} {base : Heap} {f : Addr} {fd : FuncData}
theorem ok_consists {oc kV doc pm ct : Value} {od an : Option Addr} {osl : Array (Option Value)} {c Pc : Addr} (B : Blt mg) (TB : GxR.TabB base mg c Pc)
    (lk : K.lookup f = some ⟨oc, od, .func (PySem.W.fnOf "_consists_of" "_consists_of" (defArgs s_consists_of) (defBody s_consists_of) (defScope s_consists_of) .none kV doc pm an (.ref c) ct), osl⟩) (hcd : PySem.W.codeIn K (.ref c) "_consists_of" = true) :
    FnOk P w K mg base CX0 3 f (PySem.W.fnOf "_consists_of" "_consists_of" (defArgs s_consists_of) (defBody s_consists_of) (defScope s_consists_of) .none kV doc pm an (.ref c) ct) ["text", "marks"] (spCons Pc) := by
  refine fn_of lk hcd sc_consists_of (fun vs H Q E h => ?_) (fun A outer s H vs Q E hr h => ?_)
  · obtain ⟨z, m, rfl, _⟩ := h; rfl
  obtain ⟨z, m, rfl, hG, q⟩ := h
  refine ⟨_, PSs.nox (pss_one (ps_ret (pe_allC (iy := 1) hr B TB rfl (gs0Of (by decide +kernel) (by decide +kernel)) (by show freeOk _ (defScope s_consists_of) = true; decide +kernel) (pv 0) (elt_in rfl rfl rfl) (by rfl) (by rfl) (fun _ => rfl) (fun _ => rfl)))), ?_⟩
  exact ⟨m, rfl, _, rfl, z, rfl, hG, fun H2 hT => q H2 (Kp.tab hG hT (List.mem_singleton.mpr rfl)) hT.1⟩
theorem cps_lenN (z : Str) : z.cps.toList.length = z.length := by
  show _ = z.cps.size
  exact Array.length_toList
theorem spNm_no {g : V → Bool} {v : V} {t : String} {H : Hp} {Pc : Addr} {Q : VK} (hg : ∀ v, (∀ z, v ≠ .str z) → g v = false) (ht : tyN H v = some t) (c1 : isaB t "str" = false) (hG : GxR.TabG H Pc) (q : ∀ H', Kp [Pc] H H' → GxR.TabG H' Pc → Q (.bl (g v)) H') : Q (.bl false) H := by
  have z := q H (Kp.refl _ _) hG
  rw [hg v (fun z e => by subst e; cases ht; exact absurd c1 (by decide))] at z
  exact z
theorem ok_list_name {Pc : Addr} (F : Fun K "is_list_name" "is_list_name" s_is_list_name f fd) (B : Blt mg) (D : NmC mg) (hL : ∃ t, mg "_LETTERS" = some (.str "abcdefghijklmnopqrstuvwxyz" t)) (c_consists_of : Cal P w K mg base CX0 3 "_consists_of" (spCons Pc)) : FnOk P w K mg base CX0 4 f fd ["value"] (spNm lnV Pc) := by
  refine F.ok sc_is_list_name (fun vs H Q E h => ?_) (fun cdv A outer s H vs Q E hr h => ?_)
  · obtain ⟨v, rfl, _⟩ := h; rfl
  obtain ⟨v, rfl, hG, ⟨t, ht⟩, hz, q⟩ := h
  refine ⟨_, (pss_cons (ps_if (PW.pt (pw_or (pt_not (pt_val (B.isT (pv 0) B.v_str))) (pw_or1 (pt_not (pt_chain op_le op_le pe_int (B.len_s (pa_cons (pv 0) pa_nil)) (pe_cE D.c_MOST_NAME)))))) (pss_one (ps_ret pe_bl)) pss_nil)
    (pss_one (ps_ret (c_consists_of.pe hr (pa_cons (pv 0) (pa_cons (pe_cSE hL) pa_nil)))))), ?_⟩
  walk_at "wp"
  refine ⟨t, ht, ?_⟩
  have off : ∀ z, v = .str z → lnV v = false → Q (.bl false) H := fun z e h => by
    have y := q H (Kp.refl _ _) hG
    rw [h] at y; exact y
  cases c1 : isaB t "str" with
  | false => rw [if_pos rfl]; exact spNm_no (fun v h => by cases v <;> first | rfl | exact absurd rfl (h _)) ht c1 hG q
  | true =>
    rw [if_neg (by decide)]
    obtain ⟨z, rfl⟩ := isa_str ht c1
    refine ⟨z, rfl, hz, ?_⟩
    split
    · rename_i h1
      split
      · rename_i h2
        refine off z rfl ?_
        show lnS z = false
        unfold lnS
        rw [decide_eq_false (show ¬ z.length ≤ 12 by omega), Bool.and_false, Bool.false_and]
      · rename_i h2
        refine ⟨z, _, rfl, hG, fun H' k g => ?_⟩
        have y := q H' k g
        rw [show lnV (.str z) = inT (Str.ofString "abcdefghijklmnopqrstuvwxyz") z by
          show lnS z = _
          unfold lnS
          rw [decide_eq_true (show 1 ≤ z.length by omega), decide_eq_true (show z.length ≤ 12 by omega), Bool.true_and, Bool.true_and]] at y
        exact y
    · rename_i h1
      refine off z rfl ?_
      show lnS z = false
      unfold lnS
      rw [decide_eq_false (show ¬ 1 ≤ z.length by omega), Bool.false_and, Bool.false_and]
theorem ok_key {Pc : Addr} (F : Fun K "is_key" "is_key" s_is_key f fd) (B : Blt mg) (D : NmC mg) (c_consists_of : Cal P w K mg base CX0 3 "_consists_of" (spCons Pc)) : FnOk P w K mg base CX0 4 f fd ["value"] (spNm kyV Pc) := by
  refine F.ok sc_is_key (fun vs H Q E h => ?_) (fun cdv A outer s H vs Q E hr h => ?_)
  · obtain ⟨v, rfl, _⟩ := h; rfl
  obtain ⟨v, rfl, hG, ⟨t, ht⟩, hz, q⟩ := h
  refine ⟨_, (pss_cons (ps_if (PW.pt (pw_or (pt_not (pt_val (B.isT (pv 0) B.v_str))) (pw_or1 (pt_not (pt_chain op_le op_le pe_int (B.len_s (pa_cons (pv 0) pa_nil)) (pe_cE D.c_MOST_NAME)))))) (pss_one (ps_ret pe_bl)) pss_nil)
    (pss_one (ps_ret (pe_and (pe_cmpR op_eq (pe_ix ix_str (pv 0) pe_int (fun _ _ => rfl)) pe_str (nomark _)) (pe_one (c_consists_of.pe hr (pa_cons (pe_slice sl_str (pv 0) (po_some pe_int) po_none) (pa_cons (pe_cSE D.c_DIGITS) pa_nil)))))))), ?_⟩
  walk_at "wp"
  refine ⟨t, ht, ?_⟩
  have off : ∀ z, v = .str z → kyV v = false → Q (.bl false) H := fun z e h => by
    have y := q H (Kp.refl _ _) hG
    rw [h] at y; exact y
  cases c1 : isaB t "str" with
  | false => rw [if_pos rfl]; exact spNm_no (fun v h => by cases v <;> first | rfl | exact absurd rfl (h _)) ht c1 hG q
  | true =>
    rw [if_neg (by decide)]
    obtain ⟨z, rfl⟩ := isa_str ht c1
    refine ⟨z, rfl, hz, ?_⟩
    split
    · rename_i h1
      split
      · rename_i h2
        refine off z rfl ?_
        show kyS z = false
        unfold kyS
        rw [decide_eq_false (show ¬ z.length ≤ 12 by omega), Bool.and_false, Bool.false_and, Bool.false_and]
      · rename_i h2
        have hl : z.cps.toList.length = z.length := cps_lenN z
        obtain ⟨c, r, ez⟩ : ∃ c r, z.cps.toList = c :: r := by
          cases e : z.cps.toList with
          | nil => rw [e] at hl; simp at hl; omega
          | cons c r => exact ⟨c, r, rfl⟩
        refine ⟨z, 0, c, rfl, rfl, hz, by rw [ez]; exact at0, rfl, ?_⟩
        have ek : (V.str ⟨#[c]⟩ = V.str (Str.ofString "k")) ↔ c = 107 := by
          constructor
          · intro h
            have h := congrArg (fun s : Str => s.cps.toList) (V.str.inj h)
            have h : [c] = [107] := h
            exact (List.cons.inj h).1
          · rintro rfl; rfl
        have eh : z.cps.toList.head? = some c := by rw [ez]; rfl
        by_cases h3 : c = 107
        · rw [if_pos (ek.mpr h3)]
          refine ⟨z, rfl, hz, _, _, rfl, hG, fun H' k g => ?_⟩
          have y := q H' k g
          rw [show kyV (.str z) = inT (Str.ofString "0123456789") (cutS z (some 1) none) by
            show kyS z = _
            unfold kyS
            rw [decide_eq_true (show 2 ≤ z.length by omega), decide_eq_true (show z.length ≤ 12 by omega), eh, decide_eq_true (by rw [h3]), Bool.true_and, Bool.true_and, Bool.true_and]] at y
          exact y
        · rw [if_neg (fun h => h3 (ek.mp h))]
          refine off z rfl ?_
          show kyS z = false
          unfold kyS
          rw [eh, decide_eq_false (fun h => h3 (Option.some.inj h)), Bool.and_false, Bool.false_and]
    · rename_i h1
      refine off z rfl ?_
      show kyS z = false
      unfold kyS
      rw [decide_eq_false (show ¬ 2 ≤ z.length by omega), Bool.false_and, Bool.false_and, Bool.false_and]
end
/-! paths and patterns -/
abbrev s_has_parts_of : Stmt := top 22
abbrev N_has_parts_of : List Str := ["value", "marks", "parts"]
theorem sc_has_parts_of : FnScope N_has_parts_of ["value", "marks"] (defScope s_has_parts_of) := ⟨rfl, rfl, rfl, by decide +kernel, rfl, by decide +kernel, by decide +kernel⟩
abbrev s_is_path : Stmt := top 17
abbrev N_is_path : List Str := ["value"]
theorem sc_is_path : FnScope N_is_path ["value"] (defScope s_is_path) := ⟨rfl, rfl, rfl, by decide +kernel, rfl, by decide +kernel, by decide +kernel⟩
abbrev s_is_pattern : Stmt := top 18
abbrev N_is_pattern : List Str := ["value"]
theorem sc_is_pattern : FnScope N_is_pattern ["value"] (defScope s_is_pattern) := ⟨rfl, rfl, rfl, by decide +kernel, rfl, by decide +kernel, by decide +kernel⟩
structure PaC (mg : Str → Option Value) : Prop where
  c_MOST_PATH : ∃ t, mg "MOST_PATH" = some (.int 60 t)
  c_MOST_PARTS : ∃ t, mg "_MOST_PARTS" = some (.int 6 t)
  c_PART_MARKS : ∃ t, mg "_PART_MARKS" = some (.str "abcdefghijklmnopqrstuvwxyz0123456789_-." t)
/-- the parts of a text, each of them some of the marks m -/
def hpS (m z : Str) : Bool := decide (z.length ≤ 60) && decide ((Txt.split z (Str.ofString "/")).length ≤ 6) && (Txt.split z (Str.ofString "/")).all fun p => decide (p ≠ Str.ofString "") && inT m p
def hpV (m : Str) : V → Bool
  | .str z => hpS m z
  | _ => false
def spPartsOf (Ts : List Addr) : Sp := fun vs H Q _ => ∃ (v : V) (m : Str), vs = [v, .str m] ∧ Tabs Ts H ∧ (∃ t, tyN H v = some t) ∧ szV v ∧ ∀ H', Kp Ts H H' → Tabs Ts H' → Q (.bl (hpV m v)) H'
def spPa (m : Str) (Ts : List Addr) : Sp := fun vs H Q _ => ∃ v : V, vs = [v] ∧ Tabs Ts H ∧ (∃ t, tyN H v = some t) ∧ szV v ∧ ∀ H', Kp Ts H H' → Tabs Ts H' → Q (.bl (hpV m v)) H'
/-- the marks of a path, of a pattern -/
def paM : Str := Str.ofString "abcdefghijklmnopqrstuvwxyz0123456789_-."
def ptM : Str := Str.ofString "abcdefghijklmnopqrstuvwxyz0123456789_-." ++ Str.ofString "*"
section
variable {P : Program} {w : World} {K : PySem.W.Frag} {mg : Str → Option Value} {base : Heap} {f : Addr} {fd : FuncData}
theorem hp_no {m : Str} {v : V} {t : String} {H : Hp} (ht : tyN H v = some t) (c1 : isaB t "str" = false) : hpV m v = false := by
  cases v <;> first | rfl | (cases ht; exact absurd c1 (by decide))
theorem ok_parts_of {oc kV doc pm ct : Value} {od an : Option Addr} {osl : Array (Option Value)} {c Pt Pc : Addr} {Ts : List Addr} (B : Blt mg) (TB : GxR.TabB base mg c Pt) (D : PaC mg) (mt : Pt ∈ Ts) (mc : Pc ∈ Ts)
    (lk : K.lookup f = some ⟨oc, od, .func (PySem.W.fnOf "_has_parts_of" "_has_parts_of" (defArgs s_has_parts_of) (defBody s_has_parts_of) (defScope s_has_parts_of) .none kV doc pm an (.ref c) ct), osl⟩) (hcd : PySem.W.codeIn K (.ref c) "_has_parts_of" = true)
    (c_consists_of : Cal P w K mg base CX0 3 "_consists_of" (spCons Pc)) :
    FnOk P w K mg base CX0 6 f (PySem.W.fnOf "_has_parts_of" "_has_parts_of" (defArgs s_has_parts_of) (defBody s_has_parts_of) (defScope s_has_parts_of) .none kV doc pm an (.ref c) ct) ["value", "marks"] (spPartsOf Ts) := by
  refine fn_of lk hcd sc_has_parts_of (fun vs H Q E h => ?_) (fun A outer s H vs Q E hr h => ?_)
  · obtain ⟨v, m, rfl, _⟩ := h; rfl
  obtain ⟨v, m, rfl, hG, ⟨t, ht⟩, hz, q⟩ := h
  refine ⟨_, PSs.nox (pss_cons (ps_if (PW.pt (pw_or (pt_not (pt_val (B.isT (pv 0) B.v_str))) (pw_or1 (pt_cmpR op_gt (B.len_s (pa_cons (pv 0) pa_nil)) (pe_cE D.c_MOST_PATH) (nomark _))))) (pss_one (ps_ret pe_bl)) pss_nil)
    (pss_cons (ps_set (i := 2) sc_has_parts_of.nd rfl (Or.inl rfl) (pe_m1 PySem.F.slot_str_split PySem.F.type_str_split mt_split (pv 0) pe_str))
    (pss_cons (ps_if (pt_cmpR op_gt (B.len_q (pa_cons (pv 2) pa_nil)) (pe_cE D.c_MOST_PARTS) (nomark _)) (pss_one (ps_ret pe_bl)) pss_nil)
    (pss_one (ps_ret (pe_allG (N := ["part", "marks"]) (nt := 1) (fr := [1]) rfl hr B TB rfl (gnOf (by decide +kernel)) (by show freeOk _ (defScope s_has_parts_of) = true; decide +kernel) (by show capOk _ _ _ N_has_parts_of _ (defScope s_has_parts_of) = true; decide +kernel)
      (pi_list (pv 2)) (fun _ _ _ _ _ hr => (pg_name (i := 0) (by show List.Nodup (["part", "marks"] : List Str); decide +kernel) rfl (Or.inl rfl))) (fun _ _ _ _ _ hr => pts_nil) (fun _ _ _ _ _ hr => (pe_and (pe_cmpR op_ne (pv 0) pe_str (nomark _)) (pe_one (c_consists_of.pe hr (pa_cons (pv 0) (pa_cons (pv 1) pa_nil)))))) (fun _ => rfl))))))), ?_⟩
  walk_at "wp"
  refine ⟨t, ht, ?_⟩
  have off : hpV m v = false → Q (.bl false) H := fun h => by
    have y := q H (Kp.refl _ _) hG
    rw [h] at y; exact y
  cases c1 : isaB t "str" with
  | false => rw [if_pos rfl]; exact off (hp_no ht c1)
  | true =>
    rw [if_neg (by decide)]
    obtain ⟨z, rfl⟩ := isa_str ht c1
    refine ⟨z, rfl, hz, ?_⟩
    have lim : sizeLine = 16777216 := sizeLine_eq
    split
    · rename_i h1
      refine off ?_
      show hpS m z = false
      unfold hpS
      rw [decide_eq_false (show ¬ z.length ≤ 60 by omega), Bool.false_and, Bool.false_and]
    · rename_i h1
      refine ⟨⟨_, rfl⟩, z, rfl, by decide +kernel, by omega, fun p hp => ⟨p, rfl, _, .inl (SqL.of upd_same), ?_⟩⟩
      rw [List.length_map]
      have k0 : Kp Ts H (upd H p (.lst ((Txt.split z (Str.ofString "/")).map V.str))) := Kp.new hp _
      have g0 := hG.new hp (.lst ((Txt.split z (Str.ofString "/")).map V.str))
      have fin : ∀ (b : Bool) (H' : Hp), Kp Ts H H' → Tabs Ts H' → hpV m (.str z) = b → Q (.bl b) H' := fun b H' k g e => by
        rw [← e]; exact q H' k g
      split
      · rename_i h2
        refine fin _ _ k0 g0 ?_
        show hpS m z = false
        unfold hpS
        rw [decide_eq_false (show ¬ (Txt.split z (Str.ofString "/")).length ≤ 6 by omega), Bool.and_false, Bool.false_and]
      · rename_i h2
        have ev : hpV m (.str z) = (Txt.split z (Str.ofString "/")).all fun p => decide (p ≠ Str.ofString "") && inT m p := by
          show hpS m z = _
          unfold hpS
          rw [decide_eq_true (show z.length ≤ 60 by omega), decide_eq_true (show (Txt.split z (Str.ofString "/")).length ≤ 6 by omega), Bool.true_and, Bool.true_and]
        have es : (upd H p (.lst ((Txt.split z (Str.ofString "/")).map V.str))) p = some (.lst ((Txt.split z (Str.ofString "/")).map V.str)) := upd_same
        generalize upd H p (.lst ((Txt.split z (Str.ofString "/")).map V.str)) = H1 at k0 g0 es ⊢
        generalize Txt.split z (Str.ofString "/") = ps at ev es h2 ⊢
        refine ⟨_, rfl, p, rfl, ⟨_, SqL.of es⟩, g0 _ mt, fun H2 hT => ?_⟩
        have g2 := g0.tab hT mt
        have k2 : Kp Ts H H2 := k0.trans (Kp.tab (g0 _ mt) hT mt)
        have e2 := (Kp.tab (g0 _ mt) hT mt).get g0 es
        refine for_list (K := K) (a := p) (xs := ps.map V.str) (fun i σ H' => (∃ o : Option V, σ = [o, some (.str m)]) ∧ Kp Ts H H' ∧ Tabs Ts H' ∧ H' p = some (.lst (ps.map V.str)) ∧ ((ps.take i).all fun p => decide (p ≠ Str.ofString "") && inT m p) = true)
          ⟨⟨_, rfl⟩, k2, g2, e2, rfl⟩ (fun i σ H' _ ⟨_, _, _, e, _⟩ => SqL.of e) (fun i x σ H' hx ⟨⟨o, hσ⟩, k3, g3, e3, ha⟩ => ?_) (fun σ H' ⟨⟨o, hσ⟩, k3, g3, e3, ha⟩ => ?_)
        · subst hσ
          rw [List.getElem?_map] at hx
          obtain ⟨y, hy, rfl⟩ := Option.map_eq_some_iff.mp hx
          have tk : ps.take (i + 1) = ps.take i ++ [y] := by rw [List.take_add_one, hy]; rfl
          have no : (decide (y ≠ Str.ofString "") && inT m y) = false → hpV m (.str z) = false := fun h => by
            rw [ev, List.all_eq_false]
            exact ⟨y, List.mem_of_getElem? hy, by rw [h]; decide⟩
          unfold tbAll
          simp only [tYes, if_true]
          walk_at "wp"
          by_cases h3 : y = Str.ofString ""
          · rw [if_neg (fun q => q h3)]
            exact fin _ _ k3 g3 (no (by rw [decide_eq_false (fun q => q h3), Bool.false_and]))
          · rw [if_pos h3]
            refine ⟨y, m, rfl, g3 _ mc, fun H4 k4 g4 => ⟨_, rfl, ?_⟩⟩
            have k5 := k3.trans (k4.in1 mc)
            have g5 := g3.kp1 k4 g4
            cases hb : inT m y with
            | true =>
              rw [if_pos rfl]
              refine ⟨⟨_, rfl⟩, k5, g5, (k4.in1 mc).get g3 e3, ?_⟩
              rw [tk, List.all_append, ha]
              show (true && ((decide (y ≠ Str.ofString "") && inT m y) && true)) = true
              rw [decide_eq_true h3, hb]; rfl
            | false =>
              rw [if_neg (by decide)]
              exact fin _ _ k5 g5 (no (by rw [hb, Bool.and_false]))
        · exact fin _ _ k3 g3 (by rw [ev, ← List.take_of_length_le (l := ps) (Nat.le_refl _)]; rw [List.length_map] at ha; exact ha)
theorem ok_path {Ts : List Addr} (F : Fun K "is_path" "is_path" s_is_path f fd) (B : Blt mg) (D : PaC mg) (c_has_parts_of : Cal P w K mg base CX0 6 "_has_parts_of" (spPartsOf Ts)) : FnOk P w K mg base CX0 7 f fd ["value"] (spPa paM Ts) := by
  refine F.ok sc_is_path (fun vs H Q E h => ?_) (fun cdv A outer s H vs Q E hr h => ?_)
  · obtain ⟨v, rfl, _⟩ := h; rfl
  obtain ⟨v, rfl, hG, ht, hz, q⟩ := h
  refine ⟨_, (pss_one (ps_ret (c_has_parts_of.pe hr (pa_cons (pv 0) (pa_cons (pe_cSE D.c_PART_MARKS) pa_nil))))), ?_⟩
  walk_at "wp"
  exact ⟨v, _, rfl, hG, ht, hz, q⟩
theorem ok_pattern {Ts : List Addr} (F : Fun K "is_pattern" "is_pattern" s_is_pattern f fd) (B : Blt mg) (D : PaC mg) (c_has_parts_of : Cal P w K mg base CX0 6 "_has_parts_of" (spPartsOf Ts)) : FnOk P w K mg base CX0 7 f fd ["value"] (spPa ptM Ts) := by
  refine F.ok sc_is_pattern (fun vs H Q E h => ?_) (fun cdv A outer s H vs Q E hr h => ?_)
  · obtain ⟨v, rfl, _⟩ := h; rfl
  obtain ⟨v, rfl, hG, ht, hz, q⟩ := h
  refine ⟨_, (pss_one (ps_ret (c_has_parts_of.pe hr (pa_cons (pv 0) (pa_cons (pe_op op_add_str (pe_cSE D.c_PART_MARKS) pe_str) pa_nil))))), ?_⟩
  walk_at "wp"
  exact ⟨by decide +kernel, v, _, rfl, hG, ht, hz, q⟩
end
/-! ''.join([S[_law_take(stream, m)] for k in range(n)]) -/
section
variable {K : PySem.W.Frag}
theorem cps_lenP (z : Str) : z.cps.toList.length = z.length := by
  show _ = z.cps.size
  exact Array.length_toList
end
/-! ''.join([S[_law_take(stream, m)] for k in range(n)]), S any reading -/
/-! matches -/
abbrev s_matches : Stmt := top 19
abbrev N_matches : List Str := ["pattern", "path", "wanted", "parts", "piece", "part"]
theorem sc_matches : FnScope N_matches ["pattern", "path"] (defScope s_matches) := ⟨rfl, rfl, rfl, by decide +kernel, rfl, by decide +kernel, by decide +kernel⟩
abbrev s_part_matches : Stmt := top 23
abbrev N_part_matches : List Str := ["pattern", "part", "first", "between", "last"]
theorem sc_part_matches : FnScope N_part_matches ["pattern", "part"] (defScope s_part_matches) := ⟨rfl, rfl, rfl, by decide +kernel, rfl, by decide +kernel, by decide +kernel⟩
abbrev s_stand_in_order : Stmt := top 24
abbrev N_stand_in_order : List Str := ["pieces", "text", "rest", "piece", "at"]
theorem sc_stand_in_order : FnScope N_stand_in_order ["pieces", "text"] (defScope s_stand_in_order) := ⟨rfl, rfl, rfl, by decide +kernel, rfl, by decide +kernel, by decide +kernel⟩
def spStand (K : PySem.W.Frag) : Sp := fun vs H Q _ => ∃ (a : Addr) (bs : List Str) (t : Str), vs = [.ref a, .str t] ∧ SqL K H a (bs.map V.str) ∧ (∀ b ∈ bs, b.length ≤ 9000) ∧ t.length ≤ 9000 ∧ Q (.bl (gr (bs.map TL.tl) (TL.tl t))) H
def spPartM : Sp := fun vs H Q _ => ∃ p s : Str, vs = [.str p, .str s] ∧ p.length ≤ 9000 ∧ s.length ≤ 9000 ∧ ∀ H', Kp [] H H' → Q (.bl (mt (TL.tl p) (TL.tl s))) H'
def mtW (p s : Str) : Bool := decide ((Txt.split p (Str.ofString "/")).length = (Txt.split s (Str.ofString "/")).length) && ((Txt.split p (Str.ofString "/")).zip (Txt.split s (Str.ofString "/"))).all fun x => mt (TL.tl x.1) (TL.tl x.2)
def spMatches : Sp := fun vs H Q _ => ∃ p s : Str, vs = [.str p, .str s] ∧ p.length ≤ 9000 ∧ s.length ≤ 9000 ∧ ∀ H', Kp [] H H' → Q (.bl (mtW p s)) H'
section
variable {P : Program} {w : World} {K : PySem.W.Frag} {mg : Str → Option Value} {base : Heap} {f : Addr} {fd : FuncData}
theorem ok_stand (F : Fun K "_stand_in_order" "_stand_in_order" s_stand_in_order f fd) (B : Blt mg) : FnOk P w K mg base CX0 1 f fd ["pieces", "text"] (spStand K) := by
  refine F.ok sc_stand_in_order (fun vs H Q E h => ?_) (fun cdv A outer s H vs Q E hr h => ?_)
  · obtain ⟨_, _, _, rfl, _⟩ := h; rfl
  obtain ⟨a, bs, t, rfl, hS, hb, ht, q⟩ := h
  refine ⟨_, (pss_cons (ps_set (i := 2) sc_stand_in_order.nd rfl (Or.inl rfl) (pv 1))
    (pss_cons (ps_for PassesOwn.never rfl (pi_list (pv 0)) (pg_name (i := 3) sc_stand_in_order.nd rfl (Or.inl rfl)) (pss_cons (ps_set (i := 4) sc_stand_in_order.nd rfl (Or.inl rfl) (pe_m1 PySem.F.slot_str_find PySem.F.type_str_find mt_find (pv 2) (pv 3)))
    (pss_cons (ps_if (pt_cmpR op_lt (pv 4) pe_int (nomark _)) (pss_one (ps_ret pe_bl)) pss_nil)
    (pss_one (ps_set (i := 2) sc_stand_in_order.nd rfl (Or.inl rfl) (pe_slice sl_str (pv 2) (po_some (pe_op op_add (pv 4) (B.len_s (pa_cons (pv 3) pa_nil)))) po_none))))))
    (pss_one (ps_ret pe_bl)))), ?_⟩
  walk_at "wp"
  have lim : sizeLine = 16777216 := sizeLine_eq
  refine ⟨_, rfl, a, rfl, ⟨_, hS⟩, ?_⟩
  refine for_list (K := K) (a := a) (xs := bs.map V.str) (fun i σ H' => H' = H ∧ ∃ (r : Str) (o1 o2 : Option V), σ = [some (.ref a), some (.str t), some (.str r), o1, o2] ∧ r.length ≤ 9000 ∧ gr (bs.map TL.tl) (TL.tl t) = gr ((bs.drop i).map TL.tl) (TL.tl r))
    ⟨rfl, t, _, _, rfl, ht, rfl⟩ (fun i σ H' _ ⟨e, _⟩ => e ▸ hS) (fun i x σ H' hx ⟨hH, r, o1, o2, hσ, hr, hg⟩ => ?_) (fun σ H' ⟨hH, r, o1, o2, hσ, hr, hg⟩ => ?_)
  · subst hσ
    subst hH
    rw [List.getElem?_map] at hx
    cases hbi : bs[i]? with
    | none => rw [hbi] at hx; cases hx
    | some b =>
    rw [hbi] at hx
    obtain rfl : V.str b = x := by simpa using hx
    have hbl := hb b (List.mem_of_getElem? hbi)
    have hlt : i < bs.length := by
      rcases Nat.lt_or_ge i bs.length with h | h
      · exact h
      · rw [List.getElem?_eq_none h] at hbi; cases hbi
    have ed : bs.drop i = b :: bs.drop (i + 1) := by
      rw [List.drop_eq_getElem_cons hlt]
      rw [List.getElem?_eq_getElem hlt] at hbi
      rw [Option.some.inj hbi]
    have eg : gr ((bs.drop i).map TL.tl) (TL.tl r) = match fnd (TL.tl b) (TL.tl r) with | none => false | some k => gr ((bs.drop (i + 1)).map TL.tl) ((TL.tl r).drop (k + (TL.tl b).length)) := by rw [ed]; rfl
    walk_at "wp"
    refine ⟨⟨_, rfl⟩, ?_⟩
    have ef := find_fnd r b
    cases e : fnd (TL.tl b) (TL.tl r) with
    | none =>
      rw [e] at ef eg
      rw [ef, if_pos (by decide)]
      rw [hg, eg] at q
      exact q
    | some k =>
      rw [e] at ef eg
      have ef : Txt.find r b = ((k : Nat) : Int) := ef
      rw [ef, if_neg (by omega)]
      refine ⟨by omega, by omega, ?_, ?_⟩
      · exact Nat.le_trans (cutS_length r _ _) hr
      · rw [show ((k : Int) + (b.length : Int)) = ((k + b.length : Nat) : Int) from rfl, cut_from, hg, eg, TL.len_tl b]
  · subst hσ
    subst hH
    walk_at "wp"
    rw [List.length_map, List.drop_length] at hg
    rw [hg] at q
    exact q
theorem join_mem (S : List Nat) : ∀ (ps : List (List Nat)), ∀ q ∈ ps, q.length ≤ (TL.joinL S ps).length
  | [], q, h => absurd h (by simp)
  | [p], q, h => by rw [List.mem_singleton.mp h]; exact Nat.le_refl _
  | p :: p2 :: r, q, h => by
    show q.length ≤ (p ++ (S ++ TL.joinL S (p2 :: r))).length
    rw [List.length_append, List.length_append]
    rcases List.mem_cons.mp h with rfl | h
    · omega
    · have := join_mem S (p2 :: r) q h
      omega
theorem ok_part (F : Fun K "_part_matches" "_part_matches" s_part_matches f fd) (B : Blt mg) (c_stand_in_order : Cal P w K mg base CX0 1 "_stand_in_order" (spStand K)) : FnOk P w K mg base CX0 2 f fd ["pattern", "part"] spPartM := by
  refine F.ok sc_part_matches (fun vs H Q E h => ?_) (fun cdv A outer s H vs Q E hr h => ?_)
  · obtain ⟨_, _, rfl, _⟩ := h; rfl
  obtain ⟨p, s, rfl, hp, hs, q⟩ := h
  refine ⟨_, (pss_cons (ps_if (pt_cmpR op_notIn_sign pe_str (pv 0) (by rfl)) (pss_one (ps_ret (pe_cmpR op_eq (pv 0) (pv 1) (nomark _)))) pss_nil)
    (pss_cons (ps_asg (pe_m1 PySem.F.slot_str_split PySem.F.type_str_split mt_split (pv 0) pe_str) (pg_star rfl (pgs_cons (pg_name (i := 2) sc_part_matches.nd rfl (Or.inl rfl)) (pgs_star (pg_name (i := 3) sc_part_matches.nd rfl (Or.inl rfl)) (pgs_cons (pg_name (i := 4) sc_part_matches.nd rfl (Or.inl rfl)) pgs_nil)))))
    (pss_cons (ps_if (pt_cmpR op_lt (B.len_s (pa_cons (pv 1) pa_nil)) (pe_op op_add (B.len_s (pa_cons (pv 2) pa_nil)) (B.len_s (pa_cons (pv 4) pa_nil))) (nomark _)) (pss_one (ps_ret pe_bl)) pss_nil)
    (pss_cons (ps_if (PW.pt (pw_or (pt_not (pt_val (pe_m1 PySem.F.slot_str_startswith PySem.F.type_str_startswith mt_startswith (pv 1) (pv 2)))) (pw_or1 (pt_not (pt_val (pe_m1 PySem.F.slot_str_endswith PySem.F.type_str_endswith mt_endswith (pv 1) (pv 4))))))) (pss_one (ps_ret pe_bl)) pss_nil)
    (pss_one (ps_ret (c_stand_in_order.pe hr (pa_cons (pv 3) (pa_cons (pe_slice sl_str (pv 1) (po_some (B.len_s (pa_cons (pv 2) pa_nil))) (po_some (pe_op op_sub (B.len_s (pa_cons (pv 1) pa_nil)) (B.len_s (pa_cons (pv 4) pa_nil))))) pa_nil))))))))), ?_⟩
  walk_at "wp"
  have lim : sizeLine = 16777216 := sizeLine_eq
  refine ⟨42, rfl, ?_⟩
  by_cases hc : 42 ∈ p.cps.toList
  · rw [if_neg (fun h => h hc)]
    refine ⟨⟨_, rfl⟩, by decide, by omega, fun a ha => ?_⟩
    obtain ⟨p0, ps, eS, e2, e3, e4⟩ := split_one p 42 (by decide)
    have eM : (Txt.split p (Str.ofString "*")).map TL.tl = p0 :: ps := eS
    clear eS
    have hcnt : 1 ≤ (TL.tl p).count 42 := List.count_pos_iff.mpr hc
    have hcl : (TL.tl p).count 42 ≤ (TL.tl p).length := List.count_le_length
    rw [← TL.len_tl] at hcl
    generalize Txt.split p (Str.ofString "*") = L at eM ⊢
    cases L with
    | nil => cases eM
    | cons f R =>
    obtain ⟨e0, e1⟩ : TL.tl f = p0 ∧ R.map TL.tl = ps := List.cons.inj eM
    clear eM
    subst e0
    have hRl : R.length = (TL.tl p).count 42 := by rw [← e4, ← e1, List.length_map]
    have hR : R ≠ [] := fun h => by rw [h] at hRl; simp only [List.length_nil] at hRl; omega
    obtain ⟨ms, l, rfl⟩ : ∃ ms l, R = ms ++ [l] := ⟨R.dropLast, R.getLast hR, (List.dropLast_concat_getLast hR).symm⟩
    rw [List.map_append] at e1
    have e1 : ms.map TL.tl ++ [TL.tl l] = ps := e1
    subst e1
    have hf : 42 ∉ TL.tl f := e3 _ List.mem_cons_self
    have hl : 42 ∉ TL.tl l := e3 _ (by simp)
    have hm : ∀ b ∈ ms.map TL.tl, 42 ∉ b := fun b hb => e3 b (by simp [List.mem_map] at hb ⊢; exact .inr (.inl hb))
    have len : ∀ b : Str, TL.tl b ∈ TL.tl f :: (ms.map TL.tl ++ [TL.tl l]) → b.length ≤ 9000 := fun b hb => by
      have := join_mem [42] _ _ hb
      rw [e2, ← TL.len_tl, ← TL.len_tl] at this
      omega
    have fl := len f List.mem_cons_self
    have ll := len l (by simp)
    have mm := mt_parts (s := TL.tl s) hf hm hl
    rw [e2] at mm
    have k1 : Kp [] H (upd H a (.lst ((f :: (ms ++ [l])).map V.str))) := Kp.new ha _
    refine ⟨a, .str f, .str l, ms.map V.str, rfl, .inl (.inl (by rw [upd_same]; simp)), ?_, fun D hD => ?_⟩
    · rw [List.length_append, List.length_singleton] at hRl
      rw [List.length_map]
      omega
    have k2 := k1.trans (Kp.new hD (.lst (ms.map V.str)) : Kp [] _ _)
    have kQ : ∀ b, b = mt (TL.tl p) (TL.tl s) → Q (.bl b) (upd (upd H a (.lst (V.str f :: (ms ++ [l]).map V.str))) D (.lst (ms.map V.str))) := fun b hb => by
      have := q _ k2
      rw [← hb] at this
      exact this
    have sf := starts_pfx s f
    have se := ends_sfx s l
    have sl := TL.len_tl s
    have fl2 := TL.len_tl f
    have ll2 := TL.len_tl l
    walk_at "wp"
    refine ⟨by omega, by omega, by omega, ?_⟩
    split
    · rename_i h
      refine kQ _ ?_
      rw [mm, decide_eq_false (by omega), Bool.false_and, Bool.false_and, Bool.false_and]
    · rename_i h
      rw [decide_eq_true (show (TL.tl f).length + (TL.tl l).length ≤ (TL.tl s).length by omega), Bool.true_and, ← sf, ← se] at mm
      refine ⟨⟨_, rfl⟩, ?_⟩
      cases h1 : Txt.startswith s f with
      | false =>
        rw [if_pos rfl]
        exact kQ _ (by rw [mm, h1, Bool.false_and, Bool.false_and])
      | true =>
        rw [if_neg (by decide)]
        refine ⟨⟨_, rfl⟩, ?_⟩
        cases h2 : Txt.endswith s l with
        | false =>
          rw [if_pos rfl]
          exact kQ _ (by rw [mm, h2, Bool.and_false, Bool.false_and])
        | true =>
          rw [if_neg (by decide)]
          rw [h1, h2, Bool.true_and, Bool.true_and] at mm
          refine ⟨by omega, by omega, by omega, by omega, D, ms, _, rfl, SqL.of upd_same, fun b hb => len b (List.mem_cons_of_mem _ (List.mem_append_left _ (List.mem_map_of_mem hb))), Nat.le_trans (cutS_length s _ _) hs, kQ _ ?_⟩
          rw [mm, show ((s.length : Int) - (l.length : Int)) = ((s.length - l.length : Nat) : Int) by omega, cut_nat _ (by omega), ← fl2, ← ll2, ← sl]
  · rw [if_pos hc]
    have e := q H (Kp.refl _ _)
    rw [mt_plain hc, show decide (TL.tl s = TL.tl p) = decide (p = s) from decide_eq_decide.mpr ⟨fun h => TL.ext_tl h.symm, fun h => by rw [h]⟩] at e
    exact e
theorem nw_oldM {H : Hp} {p r : Addr} {o2 : HO} (h : H p = some o2) (hn : H r = none) (o : HO) : upd H r o p = some o2 := by
  rw [upd_ne (ne_of_none h hn)]; exact h
theorem ok_matches (F : Fun K "matches" "matches" s_matches f fd) (B : Blt mg) (hzip : mg "zip" = none) (c_part_matches : Cal P w K mg base CX0 2 "_part_matches" spPartM) : FnOk P w K mg base CX0 3 f fd ["pattern", "path"] spMatches := by
  refine F.ok sc_matches (fun vs H Q E h => ?_) (fun cdv A outer s H vs Q E hr h => ?_)
  · obtain ⟨_, _, rfl, _⟩ := h; rfl
  obtain ⟨p, s, rfl, hp, hs, q⟩ := h
  refine ⟨_, (pss_cons (ps_set (i := 2) sc_matches.nd rfl (Or.inl rfl) (pe_m1 PySem.F.slot_str_split PySem.F.type_str_split mt_split (pv 0) pe_str))
    (pss_cons (ps_set (i := 3) sc_matches.nd rfl (Or.inl rfl) (pe_m1 PySem.F.slot_str_split PySem.F.type_str_split mt_split (pv 1) pe_str))
    (pss_cons (ps_if (pt_cmpR op_ne (B.len_q (pa_cons (pv 2) pa_nil)) (B.len_q (pa_cons (pv 3) pa_nil)) (nomark _)) (pss_one (ps_ret pe_bl)) pss_nil)
    (pss_cons (ps_for PassesOwn.never rfl (pi_zip (by rfl) hzip (pa_cons (pv 2) (pa_cons (pv 3) pa_nil))) (pg_tup rfl (pgs_cons (pg_name (i := 4) sc_matches.nd rfl (Or.inl rfl)) (pgs_cons (pg_name (i := 5) sc_matches.nd rfl (Or.inl rfl)) pgs_nil))) (pss_one (ps_if (pt_not (pt_val (c_part_matches.pe hr (pa_cons (pv 4) (pa_cons (pv 5) pa_nil))))) (pss_one (ps_ret pe_bl)) pss_nil)))
    (pss_one (ps_ret pe_bl)))))), ?_⟩
  walk_at "wp"
  have lim : sizeLine = 16777216 := sizeLine_eq
  have pc : ∀ (x : Str), x.length ≤ 9000 → ∀ y ∈ Txt.split x (Str.ofString "/"), y.length ≤ 9000 := fun x hx y hy => by
    obtain ⟨p0, ps, e1, e2, e3, e4⟩ := split_one x 47 (by decide)
    have hm : TL.tl y ∈ p0 :: ps := by rw [← e1]; exact List.mem_map_of_mem hy
    have := join_mem [47] _ _ hm
    rw [e2, ← TL.len_tl, ← TL.len_tl] at this
    omega
  refine ⟨⟨_, rfl⟩, by decide, by omega, fun a ha => ⟨⟨_, rfl⟩, by decide, by omega, fun b hb => ?_⟩⟩
  have e0 : mtW p s = (decide ((Txt.split p (Str.ofString "/")).length = (Txt.split s (Str.ofString "/")).length) && ((Txt.split p (Str.ofString "/")).zip (Txt.split s (Str.ofString "/"))).all fun x => mt (TL.tl x.1) (TL.tl x.2)) := rfl
  have pp := pc p hp
  have ps := pc s hs
  generalize Txt.split p (Str.ofString "/") = L at e0 pp ha hb ⊢
  generalize Txt.split s (Str.ofString "/") = M at e0 ps hb ⊢
  have k1 : Kp [] H (upd H a (.lst (L.map V.str))) := Kp.new ha _
  have k2 := k1.trans (Kp.new hb (.lst (M.map V.str)) : Kp [] _ _)
  have fa : upd (upd H a (.lst (L.map V.str))) b (.lst (M.map V.str)) a = some (.lst (L.map V.str)) := by rw [upd_ne (ne_of_none upd_same hb)]; exact upd_same
  have fb : upd (upd H a (.lst (L.map V.str))) b (.lst (M.map V.str)) b = some (.lst (M.map V.str)) := upd_same
  refine ⟨a, rfl, _, .inl (SqL.of fa), b, rfl, _, .inl (SqL.of fb), ?_⟩
  generalize upd (upd H a (.lst (L.map V.str))) b (.lst (M.map V.str)) = H2 at k2 fa fb ⊢
  rw [List.length_map, List.length_map]
  split
  · rename_i h
    have := q H2 k2
    rw [e0, decide_eq_false (fun e => h (by rw [e])), Bool.false_and] at this
    exact this
  · rename_i h
    have hl : L.length = M.length := by
      have h := Decidable.not_not.mp h
      exact Int.ofNat.inj h
    rw [decide_eq_true hl, Bool.true_and] at e0
    refine ⟨_, rfl, _, rfl, a, b, _, _, rfl, SqL.of fa, SqL.of fb, ?_⟩
    refine RZ.for_zipL (K := K) (a := a) (b := b) (xs := L.map V.str) (ys := M.map V.str) (by rw [List.length_map, List.length_map, hl])
      (fun i σ H' => ∃ o1 o2 : Option V, σ = [some (.str p), some (.str s), some (.ref a), some (.ref b), o1, o2] ∧ Kp [] H H' ∧ H' a = some (.lst (L.map V.str)) ∧ H' b = some (.lst (M.map V.str)) ∧ (((L.zip M).take i).all fun x => mt (TL.tl x.1) (TL.tl x.2)) = true)
      ⟨_, _, rfl, k2, fa, fb, rfl⟩ (fun i σ H' ⟨_, _, _, _, ga, gb, _⟩ => ⟨SqL.of ga, SqL.of gb⟩) (fun i x y T σ H' hx hy ⟨o1, o2, hσ, k3, ga, gb, hall⟩ hT => ?_) (fun σ H' ⟨o1, o2, hσ, k3, ga, gb, hall⟩ => ?_)
    · subst hσ
      rw [List.getElem?_map] at hx hy
      cases hLi : L[i]? with
      | none => rw [hLi] at hx; cases hx
      | some u =>
      cases hMi : M[i]? with
      | none => rw [hMi] at hy; cases hy
      | some v =>
      rw [hLi] at hx
      rw [hMi] at hy
      obtain rfl : V.str u = x := by simpa using hx
      obtain rfl : V.str v = y := by simpa using hy
      have hz : (L.zip M)[i]? = some (u, v) := by rw [List.getElem?_zip_eq_some]; exact ⟨hLi, hMi⟩
      refine ⟨T, _, rfl, SqT.of upd_same, rfl, ?_⟩
      walk_at "wp"
      have k4 := k3.trans (Kp.new hT (.tup [.str u, .str v]) : Kp [] _ _)
      refine ⟨u, v, rfl, pp u (List.mem_of_getElem? hLi), ps v (List.mem_of_getElem? hMi), fun H5 k5 => ⟨_, rfl, ?_⟩⟩
      cases hm : mt (TL.tl u) (TL.tl v) with
      | false =>
        rw [if_pos rfl]
        have := q H5 (k4.trans k5)
        rw [e0, show ((L.zip M).all fun x => mt (TL.tl x.1) (TL.tl x.2)) = false by
          rw [List.all_eq_false]
          exact ⟨(u, v), List.mem_of_getElem? hz, by rw [hm]; decide⟩] at this
        exact this
      | true =>
        rw [if_neg (by decide)]
        have nw : ∀ {c : Addr} {o : HO}, H' c = some o → H5 c = some o := fun h => k5.keep _ _ (by simp) (nw_oldM h hT _)
        refine ⟨k4.trans k5, nw ga, nw gb, ?_⟩
        rw [List.take_add_one, hz, List.all_append, hall]
        simp [hm]
    · subst hσ
      walk_at "wp"
      have := q H' k3
      rw [List.length_map, List.take_of_length_le (by rw [List.length_zip]; omega)] at hall
      rw [e0, hall] at this
      exact this
end
/-! joined parts, matched -/
/-! texts of proper signs -/
theorem ky_len {k : Str} (h : kyS k = true) : k.length ≤ 12 := by
  unfold kyS at h
  simp only [Bool.and_eq_true, decide_eq_true_eq] at h
  omega
theorem strOk_of {z : Str} (h : ∀ c ∈ TL.tl z, c < 1114112) : PyData.strOk z = true := by
  unfold PyData.strOk
  rw [← Array.all_toList, List.all_eq_true]
  exact fun c hc => decide_eq_true (h c hc)
theorem strOk_ky {z : Str} (h : kyS z = true) : PyData.strOk z = true := strOk_of fun c hc => by
  unfold kyS at h
  simp only [Bool.and_eq_true, decide_eq_true_eq] at h
  obtain ⟨⟨⟨h1, h2⟩, h3⟩, h4⟩ := h
  have hl : z.cps.toList.length = z.length := cps_lenP z
  cases e : z.cps.toList with
  | nil => rw [e] at hl; simp at hl; omega
  | cons d r =>
    have hc : c ∈ d :: r := by rw [← e]; exact hc
    rw [e] at h3
    have h3 : d = 107 := Option.some.inj h3
    rcases List.mem_cons.mp hc with hc | hc
    · omega
    · unfold inT at h4
      rw [List.all_eq_true] at h4
      have hm : c ∈ (cutS z (some 1) none).cps.toList := by
        show c ∈ (z.cps.toList.drop (HT.sIx z.length 0 (some ((1 : Nat) : Int)))).take (HT.sIx z.length z.length none - HT.sIx z.length 0 (some ((1 : Nat) : Int)))
        rw [HT.sIx_nat, HT.sIx_none, e, show min 1 z.length = 1 by omega, List.take_of_length_le (by rw [List.length_drop, ← e, hl]; exact Nat.le_refl _)]
        exact hc
      have := of_decide_eq_true (h4 c hm)
      exact (by decide +kernel : ∀ c ∈ (Str.ofString "0123456789").cps.toList, c < 1114112) c this
/-! opened -/
abbrev s_ascends : Stmt := top 20
abbrev N_ascends : List Str := ["names"]
theorem sc_ascends : FnScope N_ascends ["names"] (defScope s_ascends) := ⟨rfl, rfl, rfl, by decide +kernel, rfl, by decide +kernel, by decide +kernel⟩
def spAsc (K : PySem.W.Frag) : Sp := fun vs H Q _ => ∃ (p : Addr) (xs : List Str), vs = [.ref p] ∧ SqL K H p (xs.map V.str) ∧ xs.length ≤ 100 ∧ (∀ z ∈ xs, PyData.strOk z = true) ∧ ∀ H', Kp [] H H' → Q (.bl (asc xs)) H'
theorem strs_dp {K : PySem.W.Frag} {H : Hp} : ∀ xs : List Str, DpAll K H (xs.map V.str) (xs.map PyData.str)
  | [] => .nil
  | x :: r => .cons (.str x) (strs_dp r)
theorem strs_shaped {xs : List Str} (h : ∀ z ∈ xs, PyData.strOk z = true) : SeqAt.shaped (.list (xs.map PyData.str)) = true := by
  have g : ∀ ys : List Str, (∀ z ∈ ys, PyData.strOk z = true) → PyData.canLayAll0 (ys.map PyData.str) = true ∧ PyData.depthAll (ys.map PyData.str) ≤ 0 := fun ys => by
    induction ys with
    | nil => exact fun _ => ⟨by simp [PyData.canLayAll0], by simp [PyData.depthAll]⟩
    | cons y r ih =>
      intro h
      have ih := ih fun z hz => h z (List.mem_cons_of_mem _ hz)
      exact ⟨by simp [PyData.canLayAll0, PyData.canLay0, ih.1, h y List.mem_cons_self], by
        have := ih.2
        simp only [List.map_cons, PyData.depthAll, PyData.depth]
        omega⟩
  obtain ⟨h1, h2⟩ := g xs h
  unfold SeqAt.shaped
  rw [Bool.and_eq_true]
  exact ⟨by simp [PyData.canLay0, h1], decide_eq_true (by simp only [PyData.depth]; omega)⟩
theorem strs_eqv : ∀ xs ys : List Str, PyData.eqvAll (xs.map PyData.str) (ys.map PyData.str) = decide (xs = ys)
  | [], [] => rfl
  | [], _ :: _ => rfl
  | _ :: _, [] => rfl
  | x :: xs, y :: ys => by
    show (x == y && PyData.eqvAll (xs.map PyData.str) (ys.map PyData.str)) = _
    rw [strs_eqv xs ys, Bool.eq_iff_iff, Bool.and_eq_true, beq_iff_eq, decide_eq_true_eq, decide_eq_true_eq, List.cons.injEq]
mutual
theorem Rep.tabs {Ts : List Addr} {H H' : Hp} (k : Kp Ts H H') (g : Tabs Ts H) : ∀ {v : V} {t : Tr}, Rep H v t → Rep H' v t
  | _, _, .int i => .int i
  | _, _, .str z => .str z
  | _, _, .tup e r => .tup (k.tup _ _ e) (r.tabs k g)
  | _, _, .oth e a b c => .oth (k.tys g e) a b c
theorem RepAll.tabs {Ts : List Addr} {H H' : Hp} (k : Kp Ts H H') (g : Tabs Ts H) : ∀ {vs : List V} {ts : List Tr}, RepAll H vs ts → RepAll H' vs ts
  | _, _, .nil => .nil
  | _, _, .cons a b => .cons (a.tabs k g) (b.tabs k g)
end
section
variable {P : Program} {w : World} {K : PySem.W.Frag} {mg : Str → Option Value} {base : Heap} {f : Addr} {fd : FuncData}
theorem ok_asc (F : Fun K "ascends" "ascends" s_ascends f fd) (B : Blt mg) (z1 : mg "sorted" = none) (z2 : mg "set" = none) : FnOk P w K mg base CX0 1 f fd ["names"] (spAsc K) := by
  refine F.ok sc_ascends (fun vs H Q E h => ?_) (fun cdv A outer s H vs Q E hr h => ?_)
  · obtain ⟨p, xs, rfl, _⟩ := h; rfl
  obtain ⟨p, xs, rfl, hp, hl, ho, q⟩ := h
  refine ⟨_, (pss_one (ps_ret (pe_cmpR (op_eqD hr.units) (pv 0) (pe_sortSet rfl rfl z1 rfl z2 (pv 0)) (nomark _)))), ?_⟩
  walk_at "wp"
  refine ⟨_, rfl, p, xs, rfl, hp, by omega, fun ys r ha mem hr2 => ?_⟩
  have n0 : Kp [] H (upd H r (.lst (ys.map V.str))) := Kp.new hr2 _
  refine ⟨.list (xs.map PyData.str), .list (ys.map PyData.str), .lst (n0.seqL List.not_mem_nil hp) (strs_dp xs), .lst (SqL.of upd_same) (strs_dp ys), strs_shaped ho, strs_shaped fun z hz => ho z ((mem z).mp hz), ?_⟩
  have y := q _ n0
  rw [show PyData.eqv (.list (xs.map PyData.str)) (.list (ys.map PyData.str)) = decide (xs = ys) from strs_eqv xs ys]
  have e : decide (xs = ys) = asc xs := by
    cases c : asc xs with
    | true => exact decide_eq_true (asc_eq c ha fun z => (mem z).symm)
    | false => exact decide_eq_false fun e => by rw [e, ha] at c; cases c
  rw [e]; exact y
end
/-! k14, k17: each key once -/
def lstS (l : List Str) : Str := l.getLast?.getD (Str.ofString "")
theorem asc_snocN {k : Str} : ∀ l : List Str, l ≠ [] → asc (l ++ [k]) = (asc l && lt (lstS l) k)
  | [], h => absurd rfl h
  | [x], _ => by
    show (lt x k && (true && true)) = ((true && true) && lt x k)
    cases lt x k <;> rfl
  | x :: y :: r, _ => by
    have ih := asc_snocN (k := k) (y :: r) (by simp)
    show (lt x y && asc ((y :: r) ++ [k])) = ((lt x y && asc (y :: r)) && lt (lstS (x :: y :: r)) k)
    rw [ih, show lstS (x :: y :: r) = lstS (y :: r) from rfl, Bool.and_assoc]
theorem rise_next : ∀ (p : Str) (l : List Str) (j : Nat) (x y : Str), PyProof.Rows.risingS p l = true → (p :: l)[j]? = some x → (p :: l)[j + 1]? = some y → lt y x = false
  | p, [], j, x, y, _, _, h => by cases j <;> cases h
  | p, z :: r, 0, x, y, h, hx, hy => by
    have h : (!PySem.Spec.ltCps z.cps.toList p.cps.toList && PyProof.Rows.risingS z r) = true := h
    rw [Bool.and_eq_true] at h
    cases hx; cases hy
    simpa [lt, TL.tl] using h.1
  | p, z :: r, j + 1, x, y, h, hx, hy => by
    have h : (!PySem.Spec.ltCps z.cps.toList p.cps.toList && PyProof.Rows.risingS z r) = true := h
    rw [Bool.and_eq_true] at h
    exact rise_next z r j x y h.2 hx hy
theorem sorted_next {l : List Str} {j : Nat} {x y : Str} (h : PyProof.Rows.sortedS l = true) (hx : l[j]? = some x) (hy : l[j + 1]? = some y) : lt y x = false := by
  cases l with
  | nil => cases hx
  | cons p r => exact rise_next p r j x y h hx hy
/-- what is kept of the first i -/
structure Kept (ys : List Str) (i : Nat) (zs : List Str) : Prop where
  a : asc zs = true
  m : ∀ z, z ∈ zs ↔ z ∈ ys.take i
  n : zs.length ≤ i
  l : (zs = [] ∧ i = 0) ∨ ∃ j, i = j + 1 ∧ zs ≠ [] ∧ ys[j]? = some (lstS zs)
theorem Kept.step {ys zs : List Str} {i : Nat} {y : Str} (k : Kept ys i zs) (s : PyProof.Rows.sortedS ys = true) (h : ys[i]? = some y) (d : zs = [] ∨ lstS zs ≠ y) : Kept ys (i + 1) (zs ++ [y]) := by
  have tk : ys.take (i + 1) = ys.take i ++ [y] := by rw [List.take_add_one, h]; rfl
  refine ⟨?_, fun z => ?_, by rw [List.length_append, List.length_singleton]; exact Nat.succ_le_succ k.n, .inr ⟨i, rfl, by simp, by unfold lstS; rw [List.getLast?_append]; simpa using h⟩⟩
  · rcases k.l with ⟨e, _⟩ | ⟨j, rfl, ne, hj⟩
    · rw [e]; rfl
    · rw [asc_snocN zs ne, k.a, Bool.true_and]
      rcases lt_tri (lstS zs) y with e | e | e
      · rcases d with d | d
        · exact absurd d ne
        · exact absurd e d
      · exact e
      · rw [sorted_next s hj h] at e; cases e
  · rw [tk, List.mem_append, List.mem_append, k.m]
/-! the law's own text and comparison -/
/-! the laws' own keys, words, marks -/
/-! the table of the law: k06, k28 -/
section
variable {P : Program} {w : World} {K : PySem.W.Frag} {mg : Str → Option Value} {base : Heap} {f : Addr} {fd : FuncData}
def rw_ (n : Nat) (g : Nat → Bool) : List V := (List.range n).map fun k => V.bl (g k)
end
/-! documents: tuples, roles -/
abbrev s_is_tuple_of : Stmt := top 39
abbrev N_is_tuple_of : List Str := ["value", "many"]
theorem sc_is_tuple_of : FnScope N_is_tuple_of ["value", "many"] (defScope s_is_tuple_of) := ⟨rfl, rfl, rfl, by decide +kernel, rfl, by decide +kernel, by decide +kernel⟩
abbrev s_is_tuple_within : Stmt := top 40
abbrev N_is_tuple_within : List Str := ["value", "least", "most"]
theorem sc_is_tuple_within : FnScope N_is_tuple_within ["value", "least", "most"] (defScope s_is_tuple_within) := ⟨rfl, rfl, rfl, by decide +kernel, rfl, by decide +kernel, by decide +kernel⟩
abbrev s_is_role : Stmt := top 31
abbrev N_is_role : List Str := ["value", "threshold", "keys"]
theorem sc_is_role : FnScope N_is_role ["value"] (defScope s_is_role) := ⟨rfl, rfl, rfl, by decide +kernel, rfl, by decide +kernel, by decide +kernel⟩
def kyD : PyData → Bool
  | .str z => kyS z
  | _ => false
/-- a role -/
def isRole (d : PyData) : Bool := tupB 2 2 d && (tupB 1 16 (ixD d 1) && ((itD (ixD d 1)).all kyD && (asc ((itD (ixD d 1)).map strD) && numB 1 ((itD (ixD d 1)).length : Nat) (ixD d 0))))
def spTOf : Sp := fun vs H Q _ => ∃ (v : V) (d : PyData) (m : Nat), vs = [v, .int m] ∧ Rq H v d ∧ Q (.bl (tupB m m d)) H
def spTIn : Sp := fun vs H Q _ => ∃ (v : V) (d : PyData) (a b : Nat), vs = [v, .int a, .int b] ∧ Rq H v d ∧ Q (.bl (tupB a b d)) H
def spDoc (f : PyData → Bool) (Ts : List Addr) : Sp := fun vs H Q _ => ∃ (v : V) (d : PyData), vs = [v] ∧ Rq H v d ∧ okD 12 d = true ∧ Tabs Ts H ∧ ∀ H', Kp Ts H H' → Tabs Ts H' → Q (.bl (f d)) H'
structure DcC (mg : Str → Option Value) : Prop where
  c_MOST_KEYS : ∃ t, mg "MOST_KEYS" = some (.int 16 t)
theorem kyD_of {H : Hp} {v : V} {d : PyData} (r : Rq H v d) : kyV v = kyD d := by cases r <;> rfl
theorem ok_szV {n : Nat} {H : Hp} {v : V} {d : PyData} (r : Rq H v d) (h : okD n d = true) : szV v := by
  cases r with
  | str z =>
    have := (okD_str.mp h).1
    show z.length ≤ sizeLine
    rw [sizeLine_eq]; omega
  | _ => exact True.intro
theorem kyD_s {d : PyData} (h : kyD d = true) : isS d = true := by cases d <;> first | rfl | cases h
theorem strOk_kyD {d : PyData} (h : kyD d = true) : PyData.strOk (strD d) = true := by
  cases d with
  | str z => exact strOk_ky h
  | _ => cases h
theorem inV_rq {lo hi : Int} {H : Hp} {v : V} {d : PyData} (r : Rq H v d) : inV lo hi v = numB lo hi d := by cases r <;> rfl
section
variable {P : Program} {w : World} {K : PySem.W.Frag} {mg : Str → Option Value} {base : Heap} {f : Addr} {fd : FuncData}
theorem ok_tof (F : Fun K "_is_tuple_of" "_is_tuple_of" s_is_tuple_of f fd) (B : Blt mg) : FnOk P w K mg base CX0 1 f fd ["value", "many"] spTOf := by
  refine F.ok sc_is_tuple_of (fun vs H Q E h => ?_) (fun cdv A outer s H vs Q E hr h => ?_)
  · obtain ⟨v, d, m, rfl, _⟩ := h; rfl
  obtain ⟨v, d, m, rfl, hR, q⟩ := h
  refine ⟨_, (pss_one (ps_ret (pe_and (B.isT (pv 0) B.v_tuple) (pe_one (pe_cmpR op_eq (B.len_q (pa_cons (pv 0) pa_nil)) (pv 1) (nomark _)))))), ?_⟩
  walk_at "wp"
  refine ⟨_, hR.ty, ?_⟩
  cases hR with
  | tup e r =>
    rename_i a xs ds
    dsimp only [tyD]
    walk_at "wp"
    refine ⟨xs, .inr (SqT.of e), ?_⟩
    rw [show decide ((xs.length : Int) = (m : Int)) = tupB m m (.tuple ds) by
      rw [r.len]
      show _ = (decide (m ≤ ds.length) && decide (ds.length ≤ m))
      rw [Bool.eq_iff_iff, Bool.and_eq_true, decide_eq_true_eq, decide_eq_true_eq, decide_eq_true_eq]
      omega]
    exact q
  | _ => dsimp only [tyD]; walk_at "wp"; exact q
theorem ok_tin (F : Fun K "_is_tuple_within" "_is_tuple_within" s_is_tuple_within f fd) (B : Blt mg) : FnOk P w K mg base CX0 1 f fd ["value", "least", "most"] spTIn := by
  refine F.ok sc_is_tuple_within (fun vs H Q E h => ?_) (fun cdv A outer s H vs Q E hr h => ?_)
  · obtain ⟨v, d, a, b, rfl, _⟩ := h; rfl
  obtain ⟨v, d, a, b, rfl, hR, q⟩ := h
  refine ⟨_, (pss_one (ps_ret (pe_and (B.isT (pv 0) B.v_tuple) (pe_one (pe_chain op_le op_le (pv 1) (B.len_q (pa_cons (pv 0) pa_nil)) (pv 2)))))), ?_⟩
  walk_at "wp"
  refine ⟨_, hR.ty, ?_⟩
  cases hR with
  | tup e r =>
    rename_i p xs ds
    dsimp only [tyD]
    walk_at "wp"
    refine ⟨xs, .inr (SqT.of e), ?_⟩
    rw [r.len]
    have y : Q (.bl (decide (a ≤ ds.length) && decide (ds.length ≤ b))) H := q
    split
    · rename_i c
      rw [decide_eq_true (by omega), Bool.true_and] at y
      rw [show decide ((ds.length : Int) ≤ (b : Int)) = decide (ds.length ≤ b) from decide_eq_decide.mpr (by omega)]
      exact y
    · rename_i c
      rw [decide_eq_false (by omega), Bool.false_and] at y
      exact y
  | _ => dsimp only [tyD]; walk_at "wp"; exact q
theorem ok_role {oc kV doc pm ct : Value} {od an : Option Addr} {osl : Array (Option Value)} {c Pt Pc : Addr} {Ts : List Addr} (B : Blt mg) (TB : GxR.TabB base mg c Pt) (D : DcC mg) (mt : Pt ∈ Ts) (mc : Pc ∈ Ts)
    (lk : K.lookup f = some ⟨oc, od, .func (PySem.W.fnOf "is_role" "is_role" (defArgs s_is_role) (defBody s_is_role) (defScope s_is_role) .none kV doc pm an (.ref c) ct), osl⟩) (hcd : PySem.W.codeIn K (.ref c) "is_role" = true)
    (c_is_tuple_of : Cal P w K mg base CX0 1 "_is_tuple_of" spTOf) (c_is_tuple_within : Cal P w K mg base CX0 1 "_is_tuple_within" spTIn) (c_is_key : Cal P w K mg base CX0 4 "is_key" (spNm kyV Pc)) (c_ascends : Cal P w K mg base CX0 1 "ascends" (spAsc K)) (c_is_integer : Cal P w K mg base CX0 1 "is_integer" spIntg) :
    FnOk P w K mg base CX0 8 f (PySem.W.fnOf "is_role" "is_role" (defArgs s_is_role) (defBody s_is_role) (defScope s_is_role) .none kV doc pm an (.ref c) ct) ["value"] (spDoc isRole Ts) := by
  refine fn_of lk hcd sc_is_role (fun vs H Q E h => ?_) (fun A outer s H vs Q E hr h => ?_)
  · obtain ⟨v, d, rfl, _⟩ := h; rfl
  obtain ⟨v, d, rfl, hR, ho, hG, q⟩ := h
  refine ⟨_, PSs.nox (pss_cons (ps_if (pt_not (pt_val (c_is_tuple_of.pe hr (pa_cons (pv 0) (pa_cons pe_int pa_nil))))) (pss_one (ps_ret pe_bl)) pss_nil)
    (pss_cons (ps_asg (pv 0) (pg_tup rfl (pgs_cons (pg_name (i := 1) sc_is_role.nd rfl (Or.inl rfl)) (pgs_cons (pg_name (i := 2) sc_is_role.nd rfl (Or.inl rfl)) pgs_nil))))
    (pss_cons (ps_if (PW.pt (pw_or (pt_not (pt_val (c_is_tuple_within.pe hr (pa_cons (pv 2) (pa_cons pe_int (pa_cons (pe_cE D.c_MOST_KEYS) pa_nil)))))) (pw_or1 (pt_not (pt_val (pe_allG (N := ["key"]) (nt := 1) (fr := []) rfl hr B TB rfl (gnOf (by decide +kernel)) (by show freeOk _ (defScope s_is_role) = true; decide +kernel) (by show capOk _ _ _ N_is_role _ (defScope s_is_role) = true; decide +kernel)
      (pi_tup (pv 2)) (fun _ _ _ _ _ hr => (pg_name (i := 0) (by show List.Nodup (["key"] : List Str); decide +kernel) rfl (Or.inl rfl))) (fun _ _ _ _ _ hr => pts_nil) (fun _ _ _ _ _ hr => (c_is_key.pe hr (pa_cons (pv 0) pa_nil))) (fun _ => rfl))))))) (pss_one (ps_ret pe_bl)) pss_nil)
    (pss_one (ps_ret (pe_and (c_ascends.pe hr (pa_cons (B.list_q (pa_cons (pv 2) pa_nil)) pa_nil)) (pe_one (c_is_integer.pe hr (pa_cons (pv 1) (pa_cons pe_int (pa_cons (B.len_q (pa_cons (pv 2) pa_nil)) pa_nil))))))))))), ?_⟩
  walk_at "wp"
  have off : isRole d = false → ∀ H', Kp Ts H H' → Tabs Ts H' → Q (.bl false) H' := fun h H' k g => by have y := q H' k g; rw [h] at y; exact y
  refine ⟨v, d, 2, rfl, hR, _, rfl, ?_⟩
  cases h1 : tupB 2 2 d with
  | false =>
    rw [if_pos rfl]
    exact off (by unfold isRole; rw [h1]; rfl) H (Kp.refl _ _) hG
  | true =>
  obtain ⟨p, xs, ds, rfl, ep, rfl, r, l1, l2⟩ := tupB_of hR h1
  obtain ⟨x0, x1, d0, d1, rfl, rfl, R0, R1⟩ := rq2 r (by omega)
  rw [if_neg (by decide)]
  obtain ⟨o1, o2⟩ := okD_tup.mp ho
  have ok0 := o2 d0 List.mem_cons_self
  have ok1 := o2 d1 (List.mem_cons_of_mem _ List.mem_cons_self)
  refine ⟨p, _, rfl, SqT.of ep, rfl, x0, _, rfl, x1, _, rfl, rfl, ?_⟩
  walk_at "wp"
  have e1 : isRole (.tuple [d0, d1]) = (tupB 1 16 d1 && ((itD d1).all kyD && (asc ((itD d1).map strD) && numB 1 ((itD d1).length : Nat) d0))) := rfl
  rw [e1] at off q
  refine ⟨x1, d1, 1, 16, rfl, R1, _, rfl, ?_⟩
  cases h2 : tupB 1 16 d1 with
  | false =>
    rw [if_pos rfl]
    exact off (by rw [h2]; rfl) H (Kp.refl _ _) hG
  | true =>
  obtain ⟨b, ys, es, rfl, eb, rfl, rr, l3, l4⟩ := tupB_of R1 h2
  rw [h2, Bool.true_and, show itD (.tuple es) = es from rfl] at off q
  obtain ⟨o3, o4⟩ := okD_tup.mp ok1
  rw [if_neg (by decide)]
  refine ⟨_, rfl, b, rfl, ⟨ys, SqT.of eb⟩, hG _ mt, fun H2 hT => ?_⟩
  have g2 := hG.tab hT mt
  have k2 : Kp Ts H H2 := Kp.tab (hG _ mt) hT mt
  refine all_rq (K := K) (o := none) (cap := []) (f := kyD) (k2.get hG eb) (rr.tabs k2 hG) g2 (fun x d H' R hx md k3 g3 hq => ?_) (fun H3 k3 g3 h3 => ?_) (fun σ H3 k3 g3 h3 => ?_)
  · exact ⟨x, rfl, x, rfl, g3 _ mc, hx.tyx, ok_szV hx (o4 d md), fun H4 k4 g4 => by rw [kyD_of hx]; exact hq H4 (k4.in1 mc) (g3.kp1 k4 g4)⟩
  · refine ⟨_, rfl, ?_⟩
    rw [if_pos rfl]
    exact off (by rw [h3]; rfl) H3 (k2.trans k3) g3
  refine ⟨_, rfl, ?_⟩
  rw [if_neg (by decide)]
  have K3 := k2.trans k3
  rw [h3, Bool.true_and] at off q
  have al := List.all_eq_true.mp h3
  have ey : ys = (es.map strD).map V.str := rqa_strs rr fun d m => kyD_s (al d m)
  have e3 := K3.get hG eb
  refine ⟨b, rfl, ys, .inr (SqT.of e3), fun l hl => ⟨l, es.map strD, rfl, by rw [← ey]; exact SqL.of upd_same, by rw [List.length_map]; omega, fun z hz => ?_, fun H4 k4 => ⟨_, rfl, ?_⟩⟩⟩
  · obtain ⟨d, m, rfl⟩ := List.mem_map.mp hz
    exact strOk_kyD (al d m)
  have k5 : Kp [] H3 H4 := (Kp.new hl _).trans k4
  have g4 := g3.kp0 k5
  cases h4 : asc (es.map strD) with
  | false =>
    rw [if_neg (by decide)]
    exact off (by rw [h4]; rfl) H4 (K3.trans k5.in0) g4
  | true =>
  rw [if_pos rfl]
  rw [h4, Bool.true_and] at off q
  refine ⟨b, rfl, ys, .inr (SqT.of (k5.tup _ _ e3)), x0, _, _, rfl, ((R0.tabs K3 hG).kp0 k5).tyx, ?_⟩
  rw [inV_rq R0, rr.len]
  exact q H4 (K3.trans k5.in0) g4
end
/-! what a law asks of a value: numbers, tuples, texts that rise, roles -/
/-! documents as trees, and their texts -/
/-! a role that a law draws -/
/-- a role's keys -/
structure RoleOk (t : Int) (ks : List Str) : Prop where
  t1 : 1 ≤ t
  t2 : t ≤ (ks.length : Nat)
  n : ks.length ≤ 16
  ky : ∀ k ∈ ks, kyS k = true
  a : asc ks = true
def roleD (t : Int) (ks : List Str) : PyData := .tuple [.int t, .tuple (ks.map .str)]
theorem ky_low {k : Str} (h : kyS k = true) : ∀ c ∈ k.cps.toList, c < 128 := fun c hc => by
  have hl : k.cps.toList.length = k.length := cps_lenP k
  unfold kyS at h
  simp only [Bool.and_eq_true, decide_eq_true_eq] at h
  obtain ⟨⟨⟨h1, h2⟩, h3⟩, h4⟩ := h
  cases e : k.cps.toList with
  | nil => rw [e] at hc; cases hc
  | cons d r =>
    have hc : c ∈ d :: r := by rw [← e]; exact hc
    rw [e] at h3
    have h3 : d = 107 := Option.some.inj h3
    rcases List.mem_cons.mp hc with hc | hc
    · omega
    · unfold inT at h4
      rw [List.all_eq_true] at h4
      have hm : c ∈ (cutS k (some 1) none).cps.toList := by
        show c ∈ (k.cps.toList.drop (HT.sIx k.length 0 (some ((1 : Nat) : Int)))).take (HT.sIx k.length k.length none - HT.sIx k.length 0 (some ((1 : Nat) : Int)))
        rw [HT.sIx_nat, HT.sIx_none, e, show min 1 k.length = 1 by omega, List.take_of_length_le (by rw [List.length_drop, ← e, hl]; exact Nat.le_refl _)]
        exact hc
      have := of_decide_eq_true (h4 c hm)
      exact (by decide +kernel : ∀ c ∈ (Str.ofString "0123456789").cps.toList, c < 128) c this
theorem strD_map (ks : List Str) : (ks.map PyData.str).map strD = ks := by
  rw [List.map_map]
  exact List.map_id ks
theorem RoleOk.is {t : Int} {ks : List Str} (h : RoleOk t ks) : isRole (roleD t ks) = true := by
  have h1 := h.t1
  have h2 := h.t2
  have h3 := h.n
  show (true && (tupB 1 16 (.tuple (ks.map .str)) && ((ks.map PyData.str).all kyD && (asc ((ks.map PyData.str).map strD) && numB 1 ((ks.map PyData.str).length : Nat) (.int t))))) = true
  rw [show tupB 1 16 (.tuple (ks.map .str)) = true by
    show (decide (1 ≤ (ks.map PyData.str).length) && decide ((ks.map PyData.str).length ≤ 16)) = true
    rw [List.length_map, decide_eq_true (by omega), decide_eq_true (by omega)]; rfl]
  rw [show (ks.map PyData.str).all kyD = true by
    rw [List.all_map, List.all_eq_true]
    exact fun k m => h.ky k m]
  rw [strD_map, h.a, List.length_map]
  show (decide (1 ≤ t) && decide (t ≤ (ks.length : Nat))) = true
  rw [decide_eq_true h1, decide_eq_true h2]; rfl
/-! list names that a law draws -/
def lnD : PyData → Bool
  | .str z => lnS z
  | _ => false
theorem lnD_of {H : Hp} {v : V} {d : PyData} (r : Rq H v d) : lnV v = lnD d := by cases r <;> rfl
theorem ln_low {z : Str} (h : lnS z = true) : z.length ≤ 12 ∧ ∀ c ∈ z.cps.toList, c < 128 := by
  unfold lnS at h
  simp only [Bool.and_eq_true, decide_eq_true_eq] at h
  refine ⟨h.1.2, fun c hc => ?_⟩
  have h2 := h.2
  unfold inT at h2
  rw [List.all_eq_true] at h2
  exact (by decide +kernel : ∀ c ∈ (Str.ofString "abcdefghijklmnopqrstuvwxyz").cps.toList, c < 128) c (of_decide_eq_true (h2 c hc))
/-! [f(stream, k) for k in a list of texts] -/
inductive Al (P : Str → PyData → Prop) : List Str → List PyData → Prop
  | nil : Al P [] []
  | cons {k : Str} {ks : List Str} {d : PyData} {ds : List PyData} : P k d → Al P ks ds → Al P (k :: ks) (d :: ds)
theorem Al.app {P : Str → PyData → Prop} : ∀ {ks js : List Str} {ds es : List PyData}, Al P ks ds → Al P js es → Al P (ks ++ js) (ds ++ es)
  | _, _, _, _, .nil, h => h
  | _, _, _, _, .cons a b, h => .cons a (b.app h)
theorem Al.len {P : Str → PyData → Prop} : ∀ {ks : List Str} {ds : List PyData}, Al P ks ds → ks.length = ds.length
  | _, _, .nil => rfl
  | _, _, .cons _ b => congrArg (· + 1) b.len
theorem Al.mem {P : Str → PyData → Prop} : ∀ {ks : List Str} {ds : List PyData}, Al P ks ds → ∀ d ∈ ds, ∃ k ∈ ks, P k d
  | _, _, .nil, _, h => absurd h List.not_mem_nil
  | _, _, .cons a b, d, h => by
    rcases List.mem_cons.mp h with rfl | h
    · exact ⟨_, List.mem_cons_self, a⟩
    · obtain ⟨k, m, p⟩ := b.mem d h
      exact ⟨k, List.mem_cons_of_mem _ m, p⟩
theorem Al.map {P : Str → PyData → Prop} {f : PyData → Str} (hf : ∀ k d, P k d → f d = k) : ∀ {ks : List Str} {ds : List PyData}, Al P ks ds → ds.map f = ks
  | _, _, .nil => rfl
  | _, _, .cons a b => by rw [List.map_cons, hf _ _ a, b.map hf]
theorem flat_strsQ : ∀ keys : List Str, (keys.map V.str).all flatV = true
  | [] => rfl
  | _ :: r => flat_strsQ r
theorem inV_strsQ (k : Str) : ∀ keys : List Str, L2.inV (V.str k) (keys.map V.str) = decide (k ∈ keys)
  | [] => rfl
  | y :: r => by
    show (eqV (.str y) (.str k) || L2.inV (V.str k) (r.map V.str)) = _
    rw [inV_strsQ k r, Bool.eq_iff_iff, Bool.or_eq_true, decide_eq_true_eq, decide_eq_true_eq, List.mem_cons, show eqV (V.str y) (.str k) = (y == k) from rfl, beq_iff_eq]
    exact or_congr_left eq_comm
theorem cutD_tl (d : PyData) (ds : List PyData) : cutD (d :: ds) (some 1) none = ds := by
  unfold cutD
  rw [show (some (1 : Int)) = some ((1 : Nat) : Int) from rfl, HT.sIx_nat, HT.sIx_none, List.length_cons, show min 1 (ds.length + 1) = 1 by omega]
  show ds.take (ds.length + 1 - 1) = ds
  simp
/-! the heads of documents -/
abbrev s_is_headed : Stmt := top 41
abbrev N_is_headed : List Str := ["value", "word", "many"]
theorem sc_is_headed : FnScope N_is_headed ["value", "word", "many"] (defScope s_is_headed) := ⟨rfl, rfl, rfl, by decide +kernel, rfl, by decide +kernel, by decide +kernel⟩
abbrev s_is_version : Stmt := top 42
abbrev N_is_version : List Str := ["value"]
theorem sc_is_version : FnScope N_is_version ["value"] (defScope s_is_version) := ⟨rfl, rfl, rfl, by decide +kernel, rfl, by decide +kernel, by decide +kernel⟩
abbrev s_is_amount : Stmt := top 35
abbrev N_is_amount : List Str := ["value"]
theorem sc_is_amount : FnScope N_is_amount ["value"] (defScope s_is_amount) := ⟨rfl, rfl, rfl, by decide +kernel, rfl, by decide +kernel, by decide +kernel⟩
def headB (w : Str) (n : Nat) (d : PyData) : Bool := tupB n n d && eqS w (ixD d 0)
def spHead : Sp := fun vs H Q _ => ∃ (v : V) (d : PyData) (w : Str) (n : Nat), vs = [v, .str w, .int n] ∧ Rq H v d ∧ 1 ≤ n ∧ Q (.bl (headB w n d)) H
def spNumP (lo : Int) : Sp := fun vs H Q _ => ∃ (v : V) (d : PyData), vs = [v] ∧ Rq H v d ∧ Q (.bl (numB lo 1000000000000 d)) H
structure DhC (mg : Str → Option Value) : Prop where
  c_MOST_NUMBER : ∃ t, mg "MOST_NUMBER" = some (.int 1000000000000 t)
section
variable {P : Program} {w : World} {K : PySem.W.Frag} {mg : Str → Option Value} {base : Heap} {f : Addr} {fd : FuncData}
theorem ok_headed (F : Fun K "_is_headed" "_is_headed" s_is_headed f fd) (B : Blt mg) (c_is_tuple_of : Cal P w K mg base CX0 1 "_is_tuple_of" spTOf) : FnOk P w K mg base CX0 2 f fd ["value", "word", "many"] spHead := by
  refine F.ok sc_is_headed (fun vs H Q E h => ?_) (fun cdv A outer s H vs Q E hr h => ?_)
  · obtain ⟨v, d, w, n, rfl, _⟩ := h; rfl
  obtain ⟨v, d, wd, n, rfl, hR, hn, q⟩ := h
  refine ⟨_, (pss_cons (ps_if (pt_not (pt_val (c_is_tuple_of.pe hr (pa_cons (pv 0) (pa_cons (pv 2) pa_nil))))) (pss_one (ps_ret pe_bl)) pss_nil)
    (pss_one (ps_ret (pe_and (B.isT (pe_ix ix_tM (pv 0) pe_int (fun _ _ => rfl)) B.v_str) (pe_one (pe_cmpR op_eq (pe_ix ix_tM (pv 0) pe_int (fun _ _ => rfl)) (pv 1) (nomark _))))))), ?_⟩
  walk_at "wp"
  refine ⟨v, d, n, rfl, hR, _, rfl, ?_⟩
  cases h1 : tupB n n d with
  | false =>
    rw [if_pos rfl]
    rw [show headB wd n d = false by unfold headB; rw [h1]; rfl] at q
    exact q
  | true =>
  obtain ⟨p, xs, ds, rfl, ep, rfl, r, l1, l2⟩ := tupB_of hR h1
  rw [if_neg (by decide)]
  obtain ⟨x0, e0, R0⟩ := r.ix (i := 0) (by omega)
  rw [show headB wd n (.tuple ds) = eqS wd (ds.getD 0 .none) by unfold headB; rw [h1, Bool.true_and]; rfl] at q
  refine ⟨p, rfl, _, ep, _, e0, _, R0.ty, ?_⟩
  generalize ds.getD 0 .none = d0 at R0 q
  cases R0 with
  | str z =>
    dsimp only [tyD]
    walk_at "wp"
    refine ⟨_, ep, _, e0, rfl, ?_⟩
    rw [show decide (V.str z = V.str wd) = eqS wd (.str z) from decide_eq_decide.mpr ⟨V.str.inj, congrArg _⟩]
    exact q
  | _ => dsimp only [tyD]; walk_at "wp"; exact q
theorem ok_version (F : Fun K "_is_version" "_is_version" s_is_version f fd) (B : Blt mg) (D : DhC mg) (c_is_integer : Cal P w K mg base CX0 1 "is_integer" spIntg) : FnOk P w K mg base CX0 2 f fd ["value"] (spNumP 1) := by
  refine F.ok sc_is_version (fun vs H Q E h => ?_) (fun cdv A outer s H vs Q E hr h => ?_)
  · obtain ⟨v, d, rfl, _⟩ := h; rfl
  obtain ⟨v, d, rfl, hR, q⟩ := h
  refine ⟨_, (pss_one (ps_ret (c_is_integer.pe hr (pa_cons (pv 0) (pa_cons pe_int (pa_cons (pe_cE D.c_MOST_NUMBER) pa_nil)))))), ?_⟩
  walk_at "wp"
  refine ⟨v, 1, 1000000000000, rfl, hR.tyx, ?_⟩
  rw [inV_rq hR]
  exact q
theorem ok_amount (F : Fun K "is_amount" "is_amount" s_is_amount f fd) (B : Blt mg) (D : DhC mg) (c_is_integer : Cal P w K mg base CX0 1 "is_integer" spIntg) : FnOk P w K mg base CX0 2 f fd ["value"] (spNumP 0) := by
  refine F.ok sc_is_amount (fun vs H Q E h => ?_) (fun cdv A outer s H vs Q E hr h => ?_)
  · obtain ⟨v, d, rfl, _⟩ := h; rfl
  obtain ⟨v, d, rfl, hR, q⟩ := h
  refine ⟨_, (pss_one (ps_ret (c_is_integer.pe hr (pa_cons (pv 0) (pa_cons pe_int (pa_cons (pe_cE D.c_MOST_NUMBER) pa_nil)))))), ?_⟩
  walk_at "wp"
  refine ⟨v, 0, 1000000000000, rfl, hR.tyx, ?_⟩
  rw [inV_rq hR]
  exact q
end
/-! amounts; [f(stream) for k in range(n)], f draws a value -/
theorem head_self (w : Str) (ds : List PyData) {n : Nat} (h : ds.length + 1 = n) : headB w n (.tuple (.str w :: ds)) = true := by
  subst h
  show ((decide (ds.length + 1 ≤ ds.length + 1) && decide (ds.length + 1 ≤ ds.length + 1)) && decide (w = w)) = true
  rw [decide_eq_true (Nat.le_refl _), decide_eq_true rfl]; rfl
/-! [row[0] for row in a tuple]; [f(stream, k) for k in texts if ..] -/
theorem lc_nm {K : PySem.W.Frag} {σ : St} {H : Hp} {R : VK} {tl te : TE} {ks : Nat} {b : Addr} {xs : List V} {ds : List PyData} {nm : PyData → Str} (eb : H b = some (.tup xs)) (r : RqA H xs ds) (ln : ds.length ≤ 200000)
    (hl : ∀ R : VK, R (.ref b) H → tl σ H R) (hw : ∀ x : V, wipe ((wipe σ [ks]).set ks (some x)) [ks] = wipe σ [ks])
    (he : ∀ (x : V) (d : PyData) (H' : Hp) (R : VK), Rq H' x d → d ∈ ds → R (.str (nm d)) H' → te ((wipe σ [ks]).set ks (some x)) H' R)
    (q : ∀ (D : Addr) (Hx : Hp), Kp [] H Hx → Hx D = some (.lst ((ds.map nm).map V.str)) → H D = none → R (.ref D) Hx) :
    tLc (iTup K tl) (gName ks) tYes te [ks] σ H R := by
  refine hl _ ⟨b, rfl, ⟨xs, SqT.of eb⟩, fun D hD => ?_⟩
  have lim : sizeLine = 16777216 := sizeLine_eq
  refine lc_tup (K := K) (a := b) (xs := xs) (fun i Hx => Kp [] H Hx ∧ Hx D = some (.lst (((ds.take i).map nm).map V.str))) ⟨Kp.new hD _, upd_same⟩ (fun i Hx _ ⟨k, _⟩ => SqT.of (k.tup _ _ eb)) (fun i x Hx hx ⟨k4, a4⟩ => ?_) (fun Hx ⟨k4, a4⟩ => ?_)
  · obtain ⟨u, hu, Ru⟩ := r.get hx
    refine ⟨hw _, ?_⟩
    simp only [tYes, if_true]
    refine he x u _ _ (Ru.kp0 k4) (List.mem_of_getElem? hu) ⟨_, a4, by rw [List.length_map, List.length_map, List.length_take]; omega, Kp.upd k4 hD a4, ?_⟩
    rw [upd_same, List.take_add_one, hu]
    simp
  · rw [r.len, List.take_length] at a4
    exact q D Hx k4 a4 hD
/-! digests and entries -/
abbrev s_is_digest : Stmt := top 32
abbrev N_is_digest : List Str := ["value"]
theorem sc_is_digest : FnScope N_is_digest ["value"] (defScope s_is_digest) := ⟨rfl, rfl, rfl, by decide +kernel, rfl, by decide +kernel, by decide +kernel⟩
def hexM : Str := Str.ofString "0123456789abcdef"
def isDig : PyData → Bool
  | .str z => decide (z.length = 18) && inT hexM z
  | _ => false
structure DdC (mg : Str → Option Value) : Prop where
  c_DIGEST_LENGTH : ∃ t, mg "DIGEST_LENGTH" = some (.int 18 t)
  c_DIGEST_MARKS : ∃ t, mg "_DIGEST_MARKS" = some (.str "0123456789abcdef" t)
theorem hex_low {z : Str} (h : inT hexM z = true) : ∀ c ∈ z.cps.toList, c < 128 := fun c hc => by
  unfold inT at h
  rw [List.all_eq_true] at h
  exact (by decide +kernel : ∀ c ∈ hexM.cps.toList, c < 128) c (of_decide_eq_true (h c hc))
/-- all(p(x) for x in a text) -/
theorem all_chars {y : Str} {pb : Nat → Bool} {te : TE} {D : Ends} {H2 : Hp} {o : Option V} {cap : L2.St}
    (step : ∀ (c : Nat) (R : VK), R (.bl (pb c)) H2 → te (some (.str ⟨#[c]⟩) :: cap) H2 R)
    (qf : y.cps.toList.all pb = false → D.rt (.bl false) H2) (qt : ∀ σ, y.cps.toList.all pb = true → D.nx σ H2) :
    tForB (Its y) (gName 0) (tbAll tYes te) D (o :: cap) H2 := by
  refine for_it walk_str (fun i σ H' => H' = H2 ∧ (y.cps.toList.take i).all pb = true ∧ ∃ o : Option V, σ = o :: cap) ⟨rfl, rfl, _, rfl⟩ (fun _ _ _ _ _ => True.intro) (fun i x σ H1 H3 hi ⟨hH, ha, o, hσ⟩ ⟨h2, c, hc, hx⟩ => ?_) (fun σ H1 ⟨hH, ha, o, hσ⟩ => ?_)
  · subst hσ
    subst hx
    subst h2
    subst hH
    have hci : y.cps.toList[i]? = some c := by rw [Array.getElem?_toList]; exact hc
    unfold tbAll
    simp only [tYes, if_true, gName, List.set_cons_zero]
    refine step c _ ⟨_, rfl, ?_⟩
    cases hb : pb c with
    | true =>
      rw [if_pos rfl]
      exact ⟨rfl, by rw [List.take_add_one, hci, List.all_append, ha]; simp [hb], _, rfl⟩
    | false =>
      rw [if_neg (by decide)]
      exact qf (List.all_eq_false.mpr ⟨c, List.mem_of_getElem? hci, by rw [hb]; decide⟩)
  · subst hH
    rw [List.take_of_length_le (by rw [Array.length_toList]; exact Nat.le_refl _)] at ha
    exact qt _ ha
section
variable {P : Program} {w : World} {K : PySem.W.Frag} {mg : Str → Option Value} {base : Heap} {f : Addr} {fd : FuncData}
theorem ok_digestD {oc kV doc pm ct : Value} {od an : Option Addr} {osl : Array (Option Value)} {c Pt : Addr} {Ts : List Addr} (B : Blt mg) (TB : GxR.TabB base mg c Pt) (D : DdC mg) (mt : Pt ∈ Ts)
    (lk : K.lookup f = some ⟨oc, od, .func (PySem.W.fnOf "is_digest" "is_digest" (defArgs s_is_digest) (defBody s_is_digest) (defScope s_is_digest) .none kV doc pm an (.ref c) ct), osl⟩) (hcd : PySem.W.codeIn K (.ref c) "is_digest" = true) :
    FnOk P w K mg base CX0 3 f (PySem.W.fnOf "is_digest" "is_digest" (defArgs s_is_digest) (defBody s_is_digest) (defScope s_is_digest) .none kV doc pm an (.ref c) ct) ["value"] (spDoc isDig Ts) := by
  refine fn_of lk hcd sc_is_digest (fun vs H Q E h => ?_) (fun A outer s H vs Q E hr h => ?_)
  · obtain ⟨v, d, rfl, _⟩ := h; rfl
  obtain ⟨v, d, rfl, hR, ho, hG, q⟩ := h
  refine ⟨_, PSs.nox (pss_cons (ps_if (PW.pt (pw_or (pt_not (pt_val (B.isT (pv 0) B.v_str))) (pw_or1 (pt_cmpR op_ne (B.len_s (pa_cons (pv 0) pa_nil)) (pe_cE D.c_DIGEST_LENGTH) (nomark _))))) (pss_one (ps_ret pe_bl)) pss_nil)
    (pss_one (ps_ret (pe_allG (N := ["mark"]) (nt := 1) (fr := []) rfl hr B TB rfl (gnOf (by decide +kernel)) (by show freeOk _ (defScope s_is_digest) = true; decide +kernel) (by show capOk _ _ _ N_is_digest _ (defScope s_is_digest) = true; decide +kernel)
      (pi_str (pv 0)) (fun _ _ _ _ _ hr => (pg_name (i := 0) (by show List.Nodup (["mark"] : List Str); decide +kernel) rfl (Or.inl rfl))) (fun _ _ _ _ _ hr => pts_nil) (fun _ _ _ _ _ hr => (pe_cmpR op_in_sign (pv 0) (pe_cSE D.c_DIGEST_MARKS) (by rfl))) (fun _ => rfl))))), ?_⟩
  walk_at "wp"
  refine ⟨_, hR.ty, ?_⟩
  have q0 := q H (Kp.refl _ _) hG
  cases hR with
  | str z =>
    have lz := (okD_str.mp ho).1
    have lim : sizeLine = 16777216 := sizeLine_eq
    dsimp only [tyD]
    walk_at "wp"
    refine ⟨by omega, ?_⟩
    have q1 : ∀ H', Kp Ts H H' → Tabs Ts H' → Q (.bl (decide (z.length = 18) && inT hexM z)) H' := q
    split
    · rename_i c1
      have y := q1 H (Kp.refl _ _) hG
      rw [decide_eq_false (by omega), Bool.false_and] at y
      exact y
    · rename_i c1
      rw [decide_eq_true (show z.length = 18 by omega)] at q1
      refine ⟨_, rfl, z, rfl, hG _ mt, fun H2 hT => ?_⟩
      have g2 := hG.tab hT mt
      have k2 : Kp Ts H H2 := Kp.tab (hG _ mt) hT mt
      have y := q1 H2 k2 g2
      rw [Bool.true_and] at y
      refine all_chars (o := none) (cap := []) (pb := fun c => decide (c ∈ hexM.cps.toList)) (fun c R h => ⟨_, rfl, c, rfl, _, rfl, h⟩) (fun h => ?_) (fun σ h => ?_)
      · rw [show inT hexM z = false from h] at y; exact y
      · rw [show inT hexM z = true from h] at y; exact y
  | _ => dsimp only [tyD]; walk_at "wp"; exact q0
end
/-! paths that a law draws, and what it asks of them -/
def paD (m : Str) : PyData → Bool
  | .str z => hpS m z
  | _ => false
theorem paD_of {m : Str} {H : Hp} {v : V} {d : PyData} (r : Rq H v d) : hpV m v = paD m d := by cases r <;> rfl
/-! grants -/
abbrev s_is_grant : Stmt := top 33
abbrev N_is_grant : List Str := ["value", "name", "role", "patterns", "last"]
theorem sc_is_grant : FnScope N_is_grant ["value"] (defScope s_is_grant) := ⟨rfl, rfl, rfl, by decide +kernel, rfl, by decide +kernel, by decide +kernel⟩
def isGrant (d : PyData) : Bool := tupB 4 4 d && (lnD (ixD d 0) && (!eqS (Str.ofString "list") (ixD d 0) && (isRole (ixD d 1) && (tupB 1 8 (ixD d 2) && ((itD (ixD d 2)).all (paD ptM) && numB 0 1 (ixD d 3))))))
def nmG (d : PyData) : Str := strD (ixD d 0)
structure DgrC (mg : Str → Option Value) : Prop where
  c_MOST_PATTERNS : ∃ t, mg "_MOST_PATTERNS" = some (.int 8 t)
  c_TOP_LIST : ∃ t, mg "TOP_LIST" = some (.str "list" t)
theorem isGrant_of {H : Hp} {v : V} {d : PyData} (r : Rq H v d) (h : isGrant d = true) : ∃ (p : Addr) (xs : List V) (z : Str) (es : List PyData), v = .ref p ∧ H p = some (.tup (.str z :: xs)) ∧ d = .tuple (.str z :: es) ∧ RqA H xs es ∧ lnS z = true ∧ z ≠ Str.ofString "list" ∧ es.length = 3 := by
  unfold isGrant at h
  simp only [Bool.and_eq_true, Bool.not_eq_true'] at h
  obtain ⟨h1, h2, h3, _⟩ := h
  obtain ⟨p, xs, ds, rfl, ep, rfl, rr, l1, l2⟩ := tupB_of r h1
  cases rr with
  | nil => exact absurd l1 (by decide)
  | @cons v vs d ds a b =>
    have h2 : lnD d = true := h2
    have h3 : eqS (Str.ofString "list") d = false := h3
    cases a with
    | str z => exact ⟨p, vs, z, ds, rfl, ep, rfl, b, h2, of_decide_eq_false h3, by rw [List.length_cons] at l1 l2; omega⟩
    | _ => cases h2
section
variable {P : Program} {w : World} {K : PySem.W.Frag} {mg : Str → Option Value} {base : Heap} {f : Addr} {fd : FuncData}
theorem ok_grant {oc kV doc pm ct : Value} {od an : Option Addr} {osl : Array (Option Value)} {c Pt Pc : Addr} {Ts : List Addr} (B : Blt mg) (TB : GxR.TabB base mg c Pt) (D : DgrC mg) (mt : Pt ∈ Ts) (mc : Pc ∈ Ts)
    (lk : K.lookup f = some ⟨oc, od, .func (PySem.W.fnOf "is_grant" "is_grant" (defArgs s_is_grant) (defBody s_is_grant) (defScope s_is_grant) .none kV doc pm an (.ref c) ct), osl⟩) (hcd : PySem.W.codeIn K (.ref c) "is_grant" = true)
    (c_is_tuple_of : Cal P w K mg base CX0 1 "_is_tuple_of" spTOf) (c_is_tuple_within : Cal P w K mg base CX0 1 "_is_tuple_within" spTIn) (c_is_list_name : Cal P w K mg base CX0 4 "is_list_name" (spNm lnV Pc)) (c_is_role : Cal P w K mg base CX0 8 "is_role" (spDoc isRole Ts)) (c_is_pattern : Cal P w K mg base CX0 7 "is_pattern" (spPa ptM Ts)) (c_is_integer : Cal P w K mg base CX0 1 "is_integer" spIntg) :
    FnOk P w K mg base CX0 11 f (PySem.W.fnOf "is_grant" "is_grant" (defArgs s_is_grant) (defBody s_is_grant) (defScope s_is_grant) .none kV doc pm an (.ref c) ct) ["value"] (spDoc isGrant Ts) := by
  refine fn_of lk hcd sc_is_grant (fun vs H Q E h => ?_) (fun A outer s H vs Q E hr h => ?_)
  · obtain ⟨v, d, rfl, _⟩ := h; rfl
  obtain ⟨v, d, rfl, hR, ho, hG, q⟩ := h
  refine ⟨_, PSs.nox (pss_cons (ps_if (pt_not (pt_val (c_is_tuple_of.pe hr (pa_cons (pv 0) (pa_cons pe_int pa_nil))))) (pss_one (ps_ret pe_bl)) pss_nil)
    (pss_cons (ps_asg (pv 0) (pg_tup rfl (pgs_cons (pg_name (i := 1) sc_is_grant.nd rfl (Or.inl rfl)) (pgs_cons (pg_name (i := 2) sc_is_grant.nd rfl (Or.inl rfl)) (pgs_cons (pg_name (i := 3) sc_is_grant.nd rfl (Or.inl rfl)) (pgs_cons (pg_name (i := 4) sc_is_grant.nd rfl (Or.inl rfl)) pgs_nil))))))
    (pss_cons (ps_if (PW.pt (pw_or (pt_not (pt_val (c_is_list_name.pe hr (pa_cons (pv 1) pa_nil)))) (pw_or (pt_cmpR op_eq (pv 1) (pe_cSE D.c_TOP_LIST) (nomark _)) (pw_or1 (pt_not (pt_val (c_is_role.pe hr (pa_cons (pv 2) pa_nil)))))))) (pss_one (ps_ret pe_bl)) pss_nil)
    (pss_cons (ps_if (PW.pt (pw_or (pt_not (pt_val (c_is_tuple_within.pe hr (pa_cons (pv 3) (pa_cons pe_int (pa_cons (pe_cE D.c_MOST_PATTERNS) pa_nil)))))) (pw_or1 (pt_not (pt_val (pe_allG (N := ["pattern"]) (nt := 1) (fr := []) rfl hr B TB rfl (gnOf (by decide +kernel)) (by show freeOk _ (defScope s_is_grant) = true; decide +kernel) (by show capOk _ _ _ N_is_grant _ (defScope s_is_grant) = true; decide +kernel)
      (pi_tup (pv 3)) (fun _ _ _ _ _ hr => (pg_name (i := 0) (by show List.Nodup (["pattern"] : List Str); decide +kernel) rfl (Or.inl rfl))) (fun _ _ _ _ _ hr => pts_nil) (fun _ _ _ _ _ hr => (c_is_pattern.pe hr (pa_cons (pv 0) pa_nil))) (fun _ => rfl))))))) (pss_one (ps_ret pe_bl)) pss_nil)
    (pss_one (ps_ret (c_is_integer.pe hr (pa_cons (pv 4) (pa_cons pe_int (pa_cons pe_int pa_nil)))))))))), ?_⟩
  walk_at "wp"
  have off : isGrant d = false → ∀ H', Kp Ts H H' → Tabs Ts H' → Q (.bl false) H' := fun h H' k g => by have y := q H' k g; rw [h] at y; exact y
  refine ⟨v, d, 4, rfl, hR, _, rfl, ?_⟩
  cases h1 : tupB 4 4 d with
  | false =>
    rw [if_pos rfl]
    exact off (by unfold isGrant; rw [h1]; rfl) H (Kp.refl _ _) hG
  | true =>
  rw [if_neg (by decide)]
  obtain ⟨p, xs, ds, rfl, ep, rfl, r, l1, l2⟩ := tupB_of hR h1
  obtain ⟨x0, x1, x2, x3, d0, d1, d2, d3, rfl, rfl, R0, R1, R2, R3⟩ := rq4 r (by omega)
  obtain ⟨o1, o2⟩ := okD_tup.mp ho
  have e1 : isGrant (.tuple [d0, d1, d2, d3]) = (lnD d0 && (!eqS (Str.ofString "list") d0 && (isRole d1 && (tupB 1 8 d2 && ((itD d2).all (paD ptM) && numB 0 1 d3))))) := rfl
  rw [e1] at off q
  refine ⟨p, _, rfl, SqT.of ep, rfl, x0, _, rfl, x1, _, rfl, x2, _, rfl, x3, _, rfl, rfl, ?_⟩
  walk_at "wp"
  refine ⟨x0, rfl, hG _ mc, R0.tyx, ok_szV R0 (o2 d0 (by simp)), fun H1 k1 g1 => ⟨_, rfl, ?_⟩⟩
  rw [lnD_of R0]
  have K1 := k1.in1 mc
  have G1 := hG.kp1 k1 g1
  cases h2 : lnD d0 with
  | false =>
    rw [if_pos rfl]
    exact off (by rw [h2]; rfl) _ K1 G1
  | true =>
  rw [if_neg (by decide)]
  rw [h2, Bool.true_and] at off q
  obtain ⟨z, rfl, rfl⟩ : ∃ z, x0 = .str z ∧ d0 = .str z := isS_of R0 (by cases d0 <;> first | rfl | cases h2)
  refine ⟨rfl, ?_⟩
  split
  · rename_i c1
    exact off (by rw [show eqS (Str.ofString "list") (.str z) = true from decide_eq_true (V.str.inj c1)]; rfl) _ K1 G1
  rename_i c1
  rw [show eqS (Str.ofString "list") (.str z) = false from decide_eq_false (fun h => c1 (congrArg _ h)), Bool.not_false, Bool.true_and] at off q
  refine ⟨x1, d1, rfl, R1.tabs K1 hG, ok_mono _ 12 d1 (by decide) (o2 d1 (by simp)), G1, fun H2 k2 g2 => ⟨_, rfl, ?_⟩⟩
  have K2 := K1.trans k2
  cases h3 : isRole d1 with
  | false =>
    rw [if_pos rfl]
    exact off (by rw [h3]; rfl) _ K2 g2
  | true =>
  rw [if_neg (by decide)]
  rw [h3, Bool.true_and] at off q
  refine ⟨x2, d2, 1, 8, rfl, R2.tabs K2 hG, _, rfl, ?_⟩
  cases h4 : tupB 1 8 d2 with
  | false =>
    rw [if_pos rfl]
    exact off (by rw [h4]; rfl) _ K2 g2
  | true =>
  rw [if_neg (by decide)]
  obtain ⟨b, ys, es, rfl, eb, rfl, rr, l3, l4⟩ := tupB_of R2 h4
  rw [h4, Bool.true_and, show itD (.tuple es) = es from rfl] at off q
  obtain ⟨o3, o4⟩ := okD_tup.mp (o2 (.tuple es) (by simp))
  have e3 := K2.get hG eb
  refine ⟨_, rfl, b, rfl, ⟨ys, SqT.of e3⟩, g2 _ mt, fun H3 hT => ?_⟩
  have g3 := g2.tab hT mt
  have k3 : Kp Ts H2 H3 := Kp.tab (g2 _ mt) hT mt
  have K3 := K2.trans k3
  refine all_rq (K := K) (o := none) (cap := []) (f := paD ptM) (k3.get g2 e3) ((rr.tabs K2 hG).tabs k3 g2) g3 (fun x d H' R hx md k4 g4 hq => ?_) (fun H4 k4 g4 h5 => ?_) (fun σ H4 k4 g4 h5 => ?_)
  · exact ⟨x, rfl, x, rfl, g4, hx.tyx, ok_szV hx (o4 d md), fun H5 k5 g5 => by rw [paD_of hx]; exact hq H5 k5 g5⟩
  · refine ⟨_, rfl, ?_⟩
    rw [if_pos rfl]
    exact off (by rw [h5]; rfl) _ (K3.trans k4) g4
  · refine ⟨_, rfl, ?_⟩
    rw [if_neg (by decide)]
    rw [h5, Bool.true_and] at q
    refine ⟨x3, 0, 1, rfl, (R3.tabs (K3.trans k4) hG).tyx, ?_⟩
    rw [inV_rq R3]
    exact q _ (K3.trans k4) g4
end
/-! covers -/
abbrev s_covers : Stmt := top 36
abbrev N_covers : List Str := ["grant", "path", "_", "patterns"]
theorem sc_covers : FnScope N_covers ["grant", "path"] (defScope s_covers) := ⟨rfl, rfl, rfl, by decide +kernel, rfl, by decide +kernel, by decide +kernel⟩
theorem any_strs {K : PySem.W.Frag} {Ts : List Addr} {b : Addr} {ps : List Str} {f : Str → Bool} {te : TE} {D : Ends} {H2 : Hp} {o : Option V} {cap : List (Option V)} (eb : H2 b = some (.tup (ps.map V.str))) (g : Tabs Ts H2)
    (step : ∀ (p : Str) (H' : Hp) (R : VK), p ∈ ps → Kp Ts H2 H' → Tabs Ts H' → (∀ H'', Kp Ts H' H'' → Tabs Ts H'' → R (.bl (f p)) H'') → te (some (.str p) :: cap) H' R)
    (qt : ∀ H', Kp Ts H2 H' → Tabs Ts H' → ps.any f = true → D.rt (.bl true) H') (qf : ∀ σ H', Kp Ts H2 H' → Tabs Ts H' → ps.any f = false → D.nx σ H') :
    tForB (Itt K b) (gName 0) (tbAny tYes te) D (o :: cap) H2 := by
  refine for_tup (K := K) (a := b) (xs := ps.map V.str) (fun i σ H' => (∃ o : Option V, σ = o :: cap) ∧ Kp Ts H2 H' ∧ Tabs Ts H' ∧ (ps.take i).any f = false)
    ⟨⟨_, rfl⟩, Kp.refl _ _, g, rfl⟩ (fun i σ H' _ ⟨_, k, _, _⟩ => SqT.of (k.get g eb)) (fun i x σ H' hx ⟨⟨o, hσ⟩, k3, g3, ha⟩ => ?_) (fun σ H' ⟨⟨o, hσ⟩, k3, g3, ha⟩ => ?_)
  · subst hσ
    rw [List.getElem?_map] at hx
    obtain ⟨p, hp, rfl⟩ := Option.map_eq_some_iff.mp hx
    have tk : ps.take (i + 1) = ps.take i ++ [p] := by rw [List.take_add_one, hp]; rfl
    have mp := List.mem_of_getElem? hp
    unfold tbAny
    simp only [tYes, if_true, gName, List.set_cons_zero]
    refine step p H' _ mp k3 g3 fun H4 k4 g4 => ⟨_, rfl, ?_⟩
    cases hb : f p with
    | true =>
      rw [if_pos rfl]
      exact qt H4 (k3.trans k4) g4 (List.any_eq_true.mpr ⟨p, mp, hb⟩)
    | false =>
      rw [if_neg (by decide)]
      exact ⟨⟨_, rfl⟩, k3.trans k4, g4, by rw [tk, List.any_append, ha]; simp [hb]⟩
  · rw [List.length_map, List.take_length] at ha
    exact qf _ H' k3 g3 ha
def spCovers (Ts : List Addr) : Sp := fun vs H Q _ => ∃ (g pt : Addr) (x0 x1 x3 : V) (ps : List Str) (z : Str), vs = [.ref g, .str z] ∧ H g = some (.tup [x0, x1, .ref pt, x3]) ∧ H pt = some (.tup (ps.map V.str)) ∧ (∀ p ∈ ps, p.length ≤ 100) ∧ z.length ≤ 100 ∧ Tabs Ts H ∧ ∀ H', Kp Ts H H' → Tabs Ts H' → Q (.bl (ps.any fun p => mtW p z)) H'
section
variable {P : Program} {w : World} {K : PySem.W.Frag} {mg : Str → Option Value} {base : Heap} {f : Addr} {fd : FuncData}
theorem ok_covers {oc kV doc pm ct : Value} {od an : Option Addr} {osl : Array (Option Value)} {c Pt : Addr} {Ts : List Addr} (B : Blt mg) (zany : mg "any" = none) (TB : GxR.TabB base mg c Pt) (mtt : Pt ∈ Ts)
    (lk : K.lookup f = some ⟨oc, od, .func (PySem.W.fnOf "covers" "covers" (defArgs s_covers) (defBody s_covers) (defScope s_covers) .none kV doc pm an (.ref c) ct), osl⟩) (hcd : PySem.W.codeIn K (.ref c) "covers" = true)
    (c_matches : Cal P w K mg base CX0 3 "matches" spMatches) :
    FnOk P w K mg base CX0 6 f (PySem.W.fnOf "covers" "covers" (defArgs s_covers) (defBody s_covers) (defScope s_covers) .none kV doc pm an (.ref c) ct) ["grant", "path"] (spCovers Ts) := by
  refine fn_of lk hcd sc_covers (fun vs H Q E h => ?_) (fun A outer s H vs Q E hr h => ?_)
  · obtain ⟨g, pt, x0, x1, x3, ps, z, rfl, _⟩ := h; rfl
  obtain ⟨g, pt, x0, x1, x3, ps, z, rfl, e1, e2, lp, lz, hG, q⟩ := h
  refine ⟨_, PSs.nox (pss_cons (ps_asg (pv 0) (pg_tup rfl (pgs_cons (pg_name (i := 2) sc_covers.nd rfl (Or.inl rfl)) (pgs_cons (pg_name (i := 2) sc_covers.nd rfl (Or.inl rfl)) (pgs_cons (pg_name (i := 3) sc_covers.nd rfl (Or.inl rfl)) (pgs_cons (pg_name (i := 2) sc_covers.nd rfl (Or.inl rfl)) pgs_nil))))))
    (pss_one (ps_ret (pe_anyG (N := ["pattern", "path"]) (nt := 1) (fr := [1]) rfl hr zany TB rfl (gnOf (by decide +kernel)) (by show freeOk _ (defScope s_covers) = true; decide +kernel) (by show capOk _ _ _ N_covers _ (defScope s_covers) = true; decide +kernel)
      (pi_tup (pv 3)) (fun _ _ _ _ _ hr => (pg_name (i := 0) (by show List.Nodup (["pattern", "path"] : List Str); decide +kernel) rfl (Or.inl rfl))) (fun _ _ _ _ _ hr => pts_nil) (fun _ _ _ _ _ hr => (c_matches.pe hr (pa_cons (pv 0) (pa_cons (pv 1) pa_nil)))) (fun _ => rfl))))), ?_⟩
  walk_at "wp"
  refine ⟨g, _, rfl, SqT.of e1, rfl, x0, _, rfl, x1, _, rfl, _, _, rfl, x3, _, rfl, rfl, ?_⟩
  walk_at "wp"
  refine ⟨_, rfl, pt, rfl, ⟨_, SqT.of e2⟩, hG _ mtt, fun H2 hT => ?_⟩
  have g2 := hG.tab hT mtt
  have k2 : Kp Ts H H2 := Kp.tab (hG _ mtt) hT mtt
  refine any_strs (K := K) (o := none) (cap := [some (.str z)]) (f := fun p => mtW p z) (k2.get hG e2) g2 (fun p H' R mp k3 g3 hq => ?_) (fun H3 k3 g3 h3 => ?_) (fun σ H3 k3 g3 h3 => ?_)
  · have := lp p mp
    exact ⟨_, rfl, _, rfl, p, z, rfl, by omega, by omega, fun H4 k4 => hq H4 k4.in0 (g3.kp0 k4)⟩
  · have y := q H3 (k2.trans k3) g3
    rw [h3] at y
    exact y
  · have y := q H3 (k2.trans k3) g3
    rw [h3] at y
    exact y
end
/-! charters -/
def isCharter (d : PyData) : Bool := headB (Str.ofString "charter") 4 d && (numB 1 1000000000000 (ixD d 1) && (numB 0 1000000000000 (ixD d 2) && (tupB 4 4 (ixD d 3) && (itD (ixD d 3)).all isRole)))
/-! charters that a law draws, and what it asks of them -/
/-! stamps -/
/-! shelves -/
structure DshC (mg : Str → Option Value) : Prop where
  c_MOST_LISTS : ∃ t, mg "MOST_LISTS" = some (.int 32 t)
  c_TOP_LIST : ∃ t, mg "TOP_LIST" = some (.str "list" t)
/-! lists -/
abbrev s_is_good : Stmt := top 43
abbrev N_is_good : List Str := ["value"]
theorem sc_is_good : FnScope N_is_good ["value"] (defScope s_is_good) := ⟨rfl, rfl, rfl, by decide +kernel, rfl, by decide +kernel, by decide +kernel⟩
abbrev s_is_list : Stmt := top 34
abbrev N_is_list : List Str := ["value", "_", "name", "version", "expires", "goods", "grants", "granted", "grant", "good"]
theorem sc_is_list : FnScope N_is_list ["value"] (defScope s_is_list) := ⟨rfl, rfl, rfl, by decide +kernel, rfl, by decide +kernel, by decide +kernel⟩
def isGood (d : PyData) : Bool := tupB 3 3 d && (paD paM (ixD d 0) && (numB 0 1000000000000 (ixD d 1) && isDig (ixD d 2)))
def isGoods (d : PyData) : Bool := tupB 0 64 d && ((itD d).all isGood && asc ((itD d).map nmG))
def isList (d : PyData) : Bool := headB (Str.ofString "list") 6 d && (lnD (ixD d 1) && (numB 1 1000000000000 (ixD d 2) && (numB 0 1000000000000 (ixD d 3) && (isGoods (ixD d 4) && (tupB 0 32 (ixD d 5) && ((itD (ixD d 5)).all isGrant && decide ((strD (ixD d 1) :: (itD (ixD d 5)).map nmG).Nodup)))))))
structure DlsC (mg : Str → Option Value) : Prop where
  c_MOST_GOODS : ∃ t, mg "MOST_GOODS" = some (.int 64 t)
  c_MOST_LISTS : ∃ t, mg "MOST_LISTS" = some (.int 32 t)
theorem isGood_of {H : Hp} {v : V} {d : PyData} (r : Rq H v d) (h : isGood d = true) : ∃ (p : Addr) (xs : List V) (z : Str) (es : List PyData), v = .ref p ∧ H p = some (.tup (.str z :: xs)) ∧ d = .tuple (.str z :: es) ∧ RqA H xs es ∧ hpS paM z = true ∧ es.length = 2 := by
  unfold isGood at h
  simp only [Bool.and_eq_true] at h
  obtain ⟨h1, h2, _⟩ := h
  obtain ⟨p, xs, ds, rfl, ep, rfl, rr, l1, l2⟩ := tupB_of r h1
  cases rr with
  | nil => exact absurd l1 (by decide)
  | @cons v vs d ds a b =>
    have h2 : paD paM d = true := h2
    cases a with
    | str z => exact ⟨p, vs, z, ds, rfl, ep, rfl, b, h2, by rw [List.length_cons] at l1 l2; omega⟩
    | _ => cases h2
theorem strOk_good {H : Hp} {ds : List PyData} {n : Nat} (ho : ∀ d ∈ ds, okD n d = true) {xs : List V} (r : RqA H xs ds) {f : PyData → Bool} (hf : ∀ (v : V) (d : PyData), Rq H v d → f d = true → ∃ z es, d = .tuple (.str z :: es)) (al : ∀ d ∈ ds, f d = true) : ∀ z ∈ ds.map nmG, PyData.strOk z = true := fun z hz => by
  obtain ⟨d, m, rfl⟩ := List.mem_map.mp hz
  obtain ⟨i, hi, e⟩ := List.getElem_of_mem m
  obtain ⟨x, _, Rx⟩ := r.at hi
  rw [List.getD_eq_getElem?_getD, List.getElem?_eq_getElem hi] at Rx
  have Rx : Rq H x d := e ▸ Rx
  obtain ⟨z, es, rfl⟩ := hf x d Rx (al d m)
  have o := ho _ m
  cases n with
  | zero => cases o
  | succ n => exact (okD_str.mp ((okD_tup.mp o).2 _ List.mem_cons_self)).2
theorem asc_sorted {ys xs : List Str} (p : ys.Perm xs) (s : PyProof.Rows.sortedS ys = true) : asc ys = decide xs.Nodup := by
  cases h : asc ys with
  | true => exact (decide_eq_true (p.nodup_iff.mp (asc_nodup h))).symm
  | false =>
    refine (decide_eq_false fun n => ?_).symm
    rw [asc_of s (p.nodup_iff.mpr n)] at h
    cases h
section
variable {P : Program} {w : World} {K : PySem.W.Frag} {mg : Str → Option Value} {base : Heap} {f : Addr} {fd : FuncData}
theorem ok_good {Ts : List Addr} (F : Fun K "_is_good" "_is_good" s_is_good f fd) (B : Blt mg) (c_is_tuple_of : Cal P w K mg base CX0 1 "_is_tuple_of" spTOf) (c_is_path : Cal P w K mg base CX0 7 "is_path" (spPa paM Ts)) (c_is_amount : Cal P w K mg base CX0 2 "is_amount" (spNumP 0)) (c_is_digest : Cal P w K mg base CX0 3 "is_digest" (spDoc isDig Ts)) : FnOk P w K mg base CX0 8 f fd ["value"] (spDoc isGood Ts) := by
  refine F.ok sc_is_good (fun vs H Q E h => ?_) (fun cdv A outer s H vs Q E hr h => ?_)
  · obtain ⟨v, d, rfl, _⟩ := h; rfl
  obtain ⟨v, d, rfl, hR, ho, hG, q⟩ := h
  refine ⟨_, (pss_one (ps_ret (pe_and (c_is_tuple_of.pe hr (pa_cons (pv 0) (pa_cons pe_int pa_nil))) (pe_and (c_is_path.pe hr (pa_cons (pe_ix ix_tM (pv 0) pe_int (fun _ _ => rfl)) pa_nil)) (pe_and (c_is_amount.pe hr (pa_cons (pe_ix ix_tM (pv 0) pe_int (fun _ _ => rfl)) pa_nil)) (pe_one (c_is_digest.pe hr (pa_cons (pe_ix ix_tM (pv 0) pe_int (fun _ _ => rfl)) pa_nil)))))))), ?_⟩
  walk_at "wp"
  have off : isGood d = false → ∀ H', Kp Ts H H' → Tabs Ts H' → Q (.bl false) H' := fun h H' k g => by have y := q H' k g; rw [h] at y; exact y
  refine ⟨v, d, 3, rfl, hR, _, rfl, ?_⟩
  cases h1 : tupB 3 3 d with
  | false =>
    rw [if_neg (by decide)]
    exact off (by unfold isGood; rw [h1]; rfl) _ (Kp.refl _ _) hG
  | true =>
  rw [if_pos rfl]
  obtain ⟨p, xs, ds, rfl, ep, rfl, r, l1, l2⟩ := tupB_of hR h1
  obtain ⟨x0, x1, x2, d0, d1, d2, rfl, rfl, R0, R1, R2⟩ := rq3 r (by omega)
  obtain ⟨o1, o2⟩ := okD_tup.mp ho
  have e1 : isGood (.tuple [d0, d1, d2]) = (paD paM d0 && (numB 0 1000000000000 d1 && isDig d2)) := rfl
  rw [e1] at off q
  refine ⟨p, rfl, _, ep, _, rfl, x0, rfl, hG, R0.tyx, ok_szV R0 (o2 d0 (by simp)), fun H1 k1 g1 => ⟨_, rfl, ?_⟩⟩
  rw [paD_of R0]
  cases h2 : paD paM d0 with
  | false =>
    rw [if_neg (by decide)]
    exact off (by rw [h2]; rfl) _ k1 g1
  | true =>
  rw [if_pos rfl]
  rw [h2, Bool.true_and] at off q
  refine ⟨p, rfl, _, k1.get hG ep, _, rfl, x1, d1, rfl, R1.tabs k1 hG, _, rfl, ?_⟩
  cases h3 : numB 0 1000000000000 d1 with
  | false =>
    rw [if_neg (by decide)]
    exact off (by rw [h3]; rfl) _ k1 g1
  | true =>
  rw [if_pos rfl]
  rw [h3, Bool.true_and] at off q
  exact ⟨p, rfl, _, k1.get hG ep, _, rfl, x2, d2, rfl, R2.tabs k1 hG, ok_mono _ 12 d2 (by decide) (o2 d2 (by simp)), g1, fun H2 k2 g2 => q H2 (k1.trans k2) g2⟩
theorem ok_list {oc kV doc pm ct : Value} {od an : Option Addr} {osl : Array (Option Value)} {c Pt Pc : Addr} {Ts : List Addr} (B : Blt mg) (z1 : mg "sorted" = none) (TB : GxR.TabB base mg c Pt) (D : DlsC mg) (mt : Pt ∈ Ts) (mc : Pc ∈ Ts)
    (lk : K.lookup f = some ⟨oc, od, .func (PySem.W.fnOf "is_list" "is_list" (defArgs s_is_list) (defBody s_is_list) (defScope s_is_list) .none kV doc pm an (.ref c) ct), osl⟩) (hcd : PySem.W.codeIn K (.ref c) "is_list" = true)
    (c_is_headed : Cal P w K mg base CX0 2 "_is_headed" spHead) (c_is_list_name : Cal P w K mg base CX0 4 "is_list_name" (spNm lnV Pc)) (c_is_version : Cal P w K mg base CX0 2 "_is_version" (spNumP 1)) (c_is_amount : Cal P w K mg base CX0 2 "is_amount" (spNumP 0)) (c_is_tuple_within : Cal P w K mg base CX0 1 "_is_tuple_within" spTIn) (c_is_good : Cal P w K mg base CX0 8 "_is_good" (spDoc isGood Ts)) (c_is_grant : Cal P w K mg base CX0 11 "is_grant" (spDoc isGrant Ts)) (c_ascends : Cal P w K mg base CX0 1 "ascends" (spAsc K)) :
    FnOk P w K mg base CX0 15 f (PySem.W.fnOf "is_list" "is_list" (defArgs s_is_list) (defBody s_is_list) (defScope s_is_list) .none kV doc pm an (.ref c) ct) ["value"] (spDoc isList Ts) := by
  refine fn_of lk hcd sc_is_list (fun vs H Q E h => ?_) (fun A outer s H vs Q E hr h => ?_)
  · obtain ⟨v, d, rfl, _⟩ := h; rfl
  obtain ⟨v, d, rfl, hR, ho, hG, q⟩ := h
  refine ⟨_, PSs.nox (pss_cons (ps_if (pt_not (pt_val (c_is_headed.pe hr (pa_cons (pv 0) (pa_cons pe_str (pa_cons pe_int pa_nil)))))) (pss_one (ps_ret pe_bl)) pss_nil)
    (pss_cons (ps_asg (pv 0) (pg_tup rfl (pgs_cons (pg_name (i := 1) sc_is_list.nd rfl (Or.inl rfl)) (pgs_cons (pg_name (i := 2) sc_is_list.nd rfl (Or.inl rfl)) (pgs_cons (pg_name (i := 3) sc_is_list.nd rfl (Or.inl rfl)) (pgs_cons (pg_name (i := 4) sc_is_list.nd rfl (Or.inl rfl)) (pgs_cons (pg_name (i := 5) sc_is_list.nd rfl (Or.inl rfl)) (pgs_cons (pg_name (i := 6) sc_is_list.nd rfl (Or.inl rfl)) pgs_nil))))))))
    (pss_cons (ps_if (PW.pt (pw_or (pt_not (pt_val (c_is_list_name.pe hr (pa_cons (pv 2) pa_nil)))) (pw_or (pt_not (pt_val (c_is_version.pe hr (pa_cons (pv 3) pa_nil)))) (pw_or1 (pt_not (pt_val (c_is_amount.pe hr (pa_cons (pv 4) pa_nil)))))))) (pss_one (ps_ret pe_bl)) pss_nil)
    (pss_cons (ps_if (PW.pt (pw_or (pt_not (pt_val (c_is_tuple_within.pe hr (pa_cons (pv 5) (pa_cons pe_int (pa_cons (pe_cE D.c_MOST_GOODS) pa_nil)))))) (pw_or1 (pt_not (pt_val (pe_allG (N := ["good"]) (nt := 1) (fr := []) rfl hr B TB rfl (gnOf (by decide +kernel)) (by show freeOk _ (defScope s_is_list) = true; decide +kernel) (by show capOk _ _ _ N_is_list _ (defScope s_is_list) = true; decide +kernel)
      (pi_tup (pv 5)) (fun _ _ _ _ _ hr => (pg_name (i := 0) (by show List.Nodup (["good"] : List Str); decide +kernel) rfl (Or.inl rfl))) (fun _ _ _ _ _ hr => pts_nil) (fun _ _ _ _ _ hr => (c_is_good.pe hr (pa_cons (pv 0) pa_nil))) (fun _ => rfl))))))) (pss_one (ps_ret pe_bl)) pss_nil)
    (pss_cons (ps_if (PW.pt (pw_or (pt_not (pt_val (c_is_tuple_within.pe hr (pa_cons (pv 6) (pa_cons pe_int (pa_cons (pe_cE D.c_MOST_LISTS) pa_nil)))))) (pw_or1 (pt_not (pt_val (pe_allG (N := ["grant"]) (nt := 1) (fr := []) rfl hr B TB rfl (gnOf (by decide +kernel)) (by show freeOk _ (defScope s_is_list) = true; decide +kernel) (by show capOk _ _ _ N_is_list _ (defScope s_is_list) = true; decide +kernel)
      (pi_tup (pv 6)) (fun _ _ _ _ _ hr => (pg_name (i := 0) (by show List.Nodup (["grant"] : List Str); decide +kernel) rfl (Or.inl rfl))) (fun _ _ _ _ _ hr => pts_nil) (fun _ _ _ _ _ hr => (c_is_grant.pe hr (pa_cons (pv 0) pa_nil))) (fun _ => rfl))))))) (pss_one (ps_ret pe_bl)) pss_nil)
    (pss_cons (ps_setLc (i := 7) (own := [("grant", 8)]) (g := gName 8) (tt := tYes) rfl sc_is_list.nd rfl rfl (sw_true rfl rfl rfl (by decide +kernel)) (pi_tup (pv 6)) (blkOk_by (own := [("grant", 8)]) (N := N_is_list) (sc := defScope s_is_list) (by decide +kernel)) (fun _ _ _ _ _ => pg_name (i := 8) sc_is_list.nd rfl (Or.inl rfl)) (fun _ _ _ _ _ => pts_nil) (fun _ _ _ _ _ => (pe_ix ix_tM (pv 8) pe_int (fun _ _ => rfl))))
    (pss_one (ps_ret (pe_and (c_ascends.pe hr (pa_cons (pe_lc (own := [("good", 9)]) (g := gName 9) (tt := tYes) rfl sc_is_list.nd (pi_tup (pv 5)) (blkOk_by (own := [("good", 9)]) (N := N_is_list) (sc := defScope s_is_list) (by decide +kernel)) (fun _ _ _ _ _ => pg_name (i := 9) sc_is_list.nd rfl (Or.inl rfl)) (fun _ _ _ _ _ => pts_nil) (fun _ _ _ _ _ => (pe_ix ix_tM (pv 9) pe_int (fun _ _ => rfl)))) pa_nil)) (pe_and (c_ascends.pe hr (pa_cons (pe_callB cr_sortedA rfl z1 (by decide +kernel) (pa_cons (pv 7) pa_nil)) pa_nil)) (pe_one (pe_cmpR (show OpR _ _ (rIn K true) from op_notIn_seq) (pv 2) (pv 7) (by rfl))))))))))))), ?_⟩
  walk_at "wp"
  have off : isList d = false → ∀ H', Kp Ts H H' → Tabs Ts H' → Q (.bl false) H' := fun h H' k g => by have y := q H' k g; rw [h] at y; exact y
  refine ⟨v, d, _, 6, rfl, hR, by decide, _, rfl, ?_⟩
  cases h1 : headB (Str.ofString "list") 6 d with
  | false =>
    rw [if_pos rfl]
    exact off (by unfold isList; rw [h1]; rfl) H (Kp.refl _ _) hG
  | true =>
  rw [if_neg (by decide)]
  have h1' := h1
  unfold headB at h1'
  rw [Bool.and_eq_true] at h1'
  obtain ⟨p, xs, ds, rfl, ep, rfl, r, l1, l2⟩ := tupB_of hR h1'.1
  obtain ⟨x0, x1, x2, x3, x4, x5, d0, d1, d2, d3, d4, d5, rfl, rfl, R0, R1, R2, R3, R4, R5⟩ := rq6 r (by omega)
  obtain ⟨o1, o2⟩ := okD_tup.mp ho
  have e1 : isList (.tuple [d0, d1, d2, d3, d4, d5]) = (headB (Str.ofString "list") 6 (.tuple [d0, d1, d2, d3, d4, d5]) && (lnD d1 && (numB 1 1000000000000 d2 && (numB 0 1000000000000 d3 && (isGoods d4 && (tupB 0 32 d5 && ((itD d5).all isGrant && decide ((strD d1 :: (itD d5).map nmG).Nodup)))))))) := rfl
  rw [h1, Bool.true_and] at e1
  rw [e1] at off q
  refine ⟨p, _, rfl, SqT.of ep, rfl, x0, _, rfl, x1, _, rfl, x2, _, rfl, x3, _, rfl, x4, _, rfl, x5, _, rfl, rfl, ?_⟩
  walk_at "wp"
  refine ⟨x1, rfl, hG _ mc, R1.tyx, ok_szV R1 (o2 d1 (by simp)), fun H1 k1 g1 => ⟨_, rfl, ?_⟩⟩
  rw [lnD_of R1]
  have K1 := k1.in1 mc
  have G1 := hG.kp1 k1 g1
  cases h2 : lnD d1 with
  | false =>
    rw [if_pos rfl]
    exact off (by rw [h2]; rfl) _ K1 G1
  | true =>
  rw [if_neg (by decide)]
  rw [h2, Bool.true_and] at off q
  obtain ⟨z, rfl, rfl⟩ : ∃ z, x1 = .str z ∧ d1 = .str z := isS_of R1 (by cases d1 <;> first | rfl | cases h2)
  refine ⟨x2, d2, rfl, R2.tabs K1 hG, _, rfl, ?_⟩
  cases h3 : numB 1 1000000000000 d2 with
  | false =>
    rw [if_pos rfl]
    exact off (by rw [h3]; rfl) _ K1 G1
  | true =>
  rw [if_neg (by decide)]
  rw [h3, Bool.true_and] at off q
  refine ⟨x3, d3, rfl, R3.tabs K1 hG, _, rfl, ?_⟩
  cases h4 : numB 0 1000000000000 d3 with
  | false =>
    rw [if_pos rfl]
    exact off (by rw [h4]; rfl) _ K1 G1
  | true =>
  rw [if_neg (by decide)]
  rw [h4, Bool.true_and] at off q
  refine ⟨x4, d4, 0, 64, rfl, R4.tabs K1 hG, _, rfl, ?_⟩
  cases h5 : tupB 0 64 d4 with
  | false =>
    rw [if_pos rfl]
    exact off (by unfold isGoods; rw [h5]; rfl) _ K1 G1
  | true =>
  rw [if_neg (by decide)]
  obtain ⟨b, ys, es, rfl, eb, rfl, rr, l3, l4⟩ := tupB_of R4 h5
  rw [show isGoods (.tuple es) = (tupB 0 64 (.tuple es) && (es.all isGood && asc (es.map nmG))) from rfl, h5, Bool.true_and] at off q
  obtain ⟨o3, o4⟩ := okD_tup.mp (o2 (.tuple es) (by simp))
  have e3 := K1.get hG eb
  refine ⟨_, rfl, b, rfl, ⟨ys, SqT.of e3⟩, G1 _ mt, fun H2 hT => ?_⟩
  have g2 := G1.tab hT mt
  have k2 : Kp Ts H1 H2 := Kp.tab (G1 _ mt) hT mt
  have K2 := K1.trans k2
  refine all_rq (K := K) (o := none) (cap := []) (f := isGood) (K2.get hG eb) (rr.tabs K2 hG) g2 (fun x d H' R hx md k3 g3 hq => ?_) (fun H3 k3 g3 h6 => ?_) (fun σ H3 k3 g3 h6 => ?_)
  · exact ⟨x, rfl, x, d, rfl, hx, ok_mono _ 12 d (by decide) (o4 d md), g3, hq⟩
  · refine ⟨_, rfl, ?_⟩
    rw [if_pos rfl]
    exact off (by rw [h6]; rfl) H3 (K2.trans k3) g3
  refine ⟨_, rfl, ?_⟩
  rw [if_neg (by decide)]
  have K3 := K2.trans k3
  rw [h6, Bool.true_and] at off q
  have al := List.all_eq_true.mp h6
  refine ⟨x5, d5, 0, 32, rfl, R5.tabs K3 hG, _, rfl, ?_⟩
  cases h7 : tupB 0 32 d5 with
  | false =>
    rw [if_pos rfl]
    exact off (by rw [h7, Bool.false_and, Bool.and_false]) _ K3 g3
  | true =>
  rw [if_neg (by decide)]
  obtain ⟨b2, ws, us, rfl, eb2, rfl, ru, l5, l6⟩ := tupB_of R5 h7
  rw [h7, Bool.true_and, show itD (.tuple us) = us from rfl] at off q
  obtain ⟨o5, o6⟩ := okD_tup.mp (o2 (.tuple us) (by simp))
  have e5 := K3.get hG eb2
  refine ⟨_, rfl, b2, rfl, ⟨ws, SqT.of e5⟩, g3 _ mt, fun H4 hT => ?_⟩
  have g4 := g3.tab hT mt
  have k4 : Kp Ts H3 H4 := Kp.tab (g3 _ mt) hT mt
  have K4 := K3.trans k4
  refine all_rq (K := K) (o := none) (cap := []) (f := isGrant) (K4.get hG eb2) (ru.tabs K4 hG) g4 (fun x d H' R hx md k5 g5 hq => ?_) (fun H5 k5 g5 h8 => ?_) (fun σ H5 k5 g5 h8 => ?_)
  · exact ⟨x, rfl, x, d, rfl, hx, ok_mono _ 12 d (by decide) (o6 d md), g5, hq⟩
  · refine ⟨_, rfl, ?_⟩
    rw [if_pos rfl]
    exact off (by rw [h8, Bool.false_and, Bool.and_false]) H5 (K4.trans k5) g5
  have K5 := K4.trans k5
  refine ⟨_, rfl, ?_⟩
  rw [if_neg (by decide)]
  rw [h8, Bool.true_and] at off q
  have alG := List.all_eq_true.mp h8
  refine lc_nm (nm := nmG) (K5.get hG eb2) (ru.tabs K5 hG) o5 (fun R h => ⟨_, rfl, h⟩) (fun _ => rfl) (fun x d H' R hx md hr => ?_) (fun D H6 k6 a6 hD => ?_)
  · obtain ⟨p2, xs2, z2, es2, rfl, ep2, rfl, _⟩ := isGrant_of hx (alG d md)
    exact ⟨_, rfl, p2, rfl, _, ep2, 0, rfl, _, at0, hr⟩
  have K6 := K5.trans (k6.in0 : Kp Ts H5 H6)
  have g6 := g5.kp0 k6
  refine lc_nm (nm := nmG) (K6.get hG eb) (rr.tabs K6 hG) o3 (fun R h => ⟨_, rfl, h⟩) (fun _ => rfl) (fun x d H' R hx md hr => ?_) (fun D2 H7 k7 a7 hD2 => ?_)
  · obtain ⟨p2, xs2, z2, es2, rfl, ep2, rfl, _⟩ := isGood_of hx (al d md)
    exact ⟨_, rfl, p2, rfl, _, ep2, 0, rfl, _, at0, hr⟩
  have K7 := K6.trans (k7.in0 : Kp Ts H6 H7)
  have g7 := g6.kp0 k7
  have sg := strOk_good o4 rr (f := isGood) (fun v d r h => by obtain ⟨_, _, z, es, _, _, e, _⟩ := isGood_of r h; exact ⟨z, es, e⟩) al
  refine ⟨D2, es.map nmG, rfl, SqL.of a7, by rw [List.length_map]; omega, sg, fun H8 k8 => ⟨_, rfl, ?_⟩⟩
  cases h9 : asc (es.map nmG) with
  | false =>
    rw [if_neg (by decide)]
    exact off (by rw [h9]; rfl) H8 (K7.trans k8.in0) (g7.kp0 k8)
  | true =>
  rw [if_pos rfl]
  rw [h9, Bool.true_and] at off q
  have a8 := (k7.trans k8).keep D _ List.not_mem_nil a6
  refine ⟨D, us.map nmG, rfl, SqL.of a8, fun ns p9 perm srt hp9 => ?_⟩
  have k9 := Kp.new (S := []) hp9 (.lst (ns.map V.str))
  have sgg := strOk_good o6 ru (f := isGrant) (fun v d r h => by obtain ⟨_, _, z, es, _, _, e, _⟩ := isGrant_of r h; exact ⟨z, es, e⟩) alG
  have ln9 : ns.length = us.length := by rw [perm.length_eq, List.length_map]
  refine ⟨p9, ns, rfl, SqL.of upd_same, by omega, fun z hz => sgg z (perm.mem_iff.mp hz), fun H10 k10 => ⟨_, rfl, ?_⟩⟩
  have K10 := ((K7.trans (k8.in0 : Kp Ts H7 H8)).trans (k9.in0 : Kp Ts H8 _)).trans (k10.in0 : Kp Ts _ H10)
  have g10 := ((g7.kp0 k8).kp0 k9).kp0 k10
  rw [asc_sorted perm srt]
  cases h10 : decide (us.map nmG).Nodup with
  | false =>
    rw [if_neg (by decide)]
    exact off (decide_eq_false fun n => of_decide_eq_false h10 (List.nodup_cons.mp n).2) _ K10 g10
  | true =>
  rw [if_pos rfl]
  have a10 := (k9.trans k10).keep D _ List.not_mem_nil a8
  have y := q _ K10 g10
  rw [show decide (strD (PyData.str z) :: us.map nmG).Nodup = !decide (z ∈ us.map nmG) by
    rw [Bool.eq_iff_iff, decide_eq_true_eq, Bool.not_eq_true', decide_eq_false_iff_not, List.nodup_cons]
    exact ⟨fun h => h.1, fun h => ⟨h, of_decide_eq_true h10⟩⟩] at y
  refine ⟨D, _, rfl, .inl (SqL.of a10), rfl, flat_strsQ _, ?_⟩
  rw [inV_strsQ]
  exact y
end
/-! lists: what the law asks -/
/-! entry_of -/
abbrev s_behind_name : Stmt := top 44
abbrev N_behind_name : List Str := ["rows", "name", "row"]
theorem sc_behind_name : FnScope N_behind_name ["rows", "name"] (defScope s_behind_name) := ⟨rfl, rfl, rfl, by decide +kernel, rfl, by decide +kernel, by decide +kernel⟩
abbrev s_entry_of : Stmt := top 38
abbrev N_entry_of : List Str := ["document", "name"]
theorem sc_entry_of : FnScope N_entry_of ["document", "name"] (defScope s_entry_of) := ⟨rfl, rfl, rfl, by decide +kernel, rfl, by decide +kernel, by decide +kernel⟩
def hdD : PyData → Bool
  | .tuple (.str _ :: _) => true
  | _ => false
def rowD (z : Str) : List PyData → PyData
  | [] => .none
  | d :: ds => if strD (ixD d 0) = z then .tuple ((itD d).drop 1) else rowD z ds
def spBehind : Sp := fun vs H Q _ => ∃ (b : Addr) (xs : List V) (ds : List PyData) (z : Str), vs = [.ref b, .str z] ∧ H b = some (.tup xs) ∧ RqA H xs ds ∧ ds.all hdD = true ∧ ∀ v H', Rq H' v (rowD z ds) → Kp [] H H' → Q v H'
def spOf (n : Nat) : Sp := fun vs H Q _ => ∃ (p b : Addr) (us xs : List V) (ds : List PyData) (z : Str), vs = [.ref p, .str z] ∧ H p = some (.tup us) ∧ atI us (n : Int) = some (.ref b) ∧ H b = some (.tup xs) ∧ RqA H xs ds ∧ ds.all hdD = true ∧ ∀ v H', Rq H' v (rowD z ds) → Kp [] H H' → Q v H'
def p1D (p : PyData → Bool) : PyData → Bool
  | .none => true
  | .int _ => true
  | .str _ => true
  | .tuple ds => decide (ds.length ≤ 1000) && ds.all p
  | _ => false
def q2D : PyData → Bool := p1D (p1D fun _ => false)
theorem dig_str {d : PyData} (h : isDig d = true) : ∃ z, d = .str z := by
  cases d <;> first | exact ⟨_, rfl⟩ | cases h
theorem num_int {lo hi : Int} {d : PyData} (h : numB lo hi d = true) : ∃ z, d = .int z := by
  cases d <;> first | exact ⟨_, rfl⟩ | cases h
theorem good_row {d : PyData} (h : isGood d = true) : hdD d = true ∧ q2D (.tuple ((itD d).drop 1)) = true ∧ (nmG d).length ≤ 100 := by
  unfold isGood at h
  rw [Bool.and_eq_true, Bool.and_eq_true, Bool.and_eq_true] at h
  obtain ⟨h1, h2, h3, h4⟩ := h
  cases d with
  | tuple es =>
    have h1 : (decide (3 ≤ es.length) && decide (es.length ≤ 3)) = true := h1
    rw [Bool.and_eq_true, decide_eq_true_eq, decide_eq_true_eq] at h1
    match es, h1, h2, h3, h4 with
    | [a, b, c], _, h2, h3, h4 =>
      obtain ⟨n, rfl⟩ := num_int (show numB 0 1000000000000 b = true from h3)
      obtain ⟨z, rfl⟩ := dig_str (show isDig c = true from h4)
      have h2 : paD paM a = true := h2
      cases a with
      | str w =>
        refine ⟨rfl, rfl, ?_⟩
        have t : hpS paM w = true := h2
        unfold hpS at t
        rw [Bool.and_eq_true, Bool.and_eq_true, decide_eq_true_eq] at t
        show w.length ≤ 100
        have := t.1.1
        omega
      | _ => cases h2
    | [], h, _, _, _ => exact absurd h.1 (by decide)
    | [_], h, _, _, _ => exact absurd h.1 (by simp)
    | [_, _], h, _, _, _ => exact absurd h.1 (by simp)
    | _ :: _ :: _ :: _ :: _, h, _, _, _ => exact absurd h.2 (by simp)
  | _ => cases h1
section
variable {P : Program} {w : World} {K : PySem.W.Frag} {mg : Str → Option Value} {base : Heap} {f : Addr} {fd : FuncData}
theorem ok_behind (F : Fun K "_behind_name" "_behind_name" s_behind_name f fd) (B : Blt mg) : FnOk P w K mg base CX0 1 f fd ["rows", "name"] spBehind := by
  refine F.ok sc_behind_name (fun vs H Q E h => ?_) (fun cdv A outer s H vs Q E hr h => ?_)
  · obtain ⟨_, _, _, _, rfl, _⟩ := h; rfl
  obtain ⟨b, xs, ds, z, rfl, eb, r, hd, q⟩ := h
  refine ⟨_, (pss_cons (ps_for PassesOwn.never rfl (pi_tup (pv 0)) (pg_name (i := 2) sc_behind_name.nd rfl (Or.inl rfl)) (pss_one (ps_if (pt_cmpR op_eq (pe_ix ix_tM (pv 2) pe_int (fun _ _ => rfl)) (pv 1) (nomark _)) (pss_one (ps_ret (pe_slice sl_tupA (pv 2) (po_some pe_int) po_none))) pss_nil)))
    (pss_one (ps_ret pe_non))), ?_⟩
  walk_at "wp"
  refine ⟨_, rfl, b, rfl, ⟨xs, SqT.of eb⟩, ?_⟩
  refine for_tup (K := K) (a := b) (xs := xs) (fun i σ H' => (∃ o : Option V, σ = [some (.ref b), some (.str z), o]) ∧ H' = H ∧ rowD z (ds.drop i) = rowD z ds) ⟨⟨_, rfl⟩, rfl, rfl⟩ (fun i σ H' _ ⟨_, e, _⟩ => by rw [e]; exact SqT.of eb) (fun i x σ H' hx ⟨⟨o, hσ⟩, e, hd2⟩ => ?_) (fun σ H' ⟨⟨o, hσ⟩, e, hd2⟩ => ?_)
  · subst hσ
    subst e
    obtain ⟨d, hdi, Rd⟩ := r.get hx
    have dr : ds.drop i = d :: ds.drop (i + 1) := by
      have li := (List.getElem?_eq_some_iff.mp hdi)
      rw [List.drop_eq_getElem_cons li.1, li.2]
    have hh := List.all_eq_true.mp hd d (List.mem_of_getElem? hdi)
    rw [dr] at hd2
    walk_at "wp"
    cases Rd with
    | @tup p vs es ep re =>
      cases re with
      | nil => cases hh
      | @cons y ys e es a b =>
        cases a with
        | str s =>
          refine ⟨p, rfl, _, ep, _, at0, rfl, ?_⟩
          have e3 : rowD z (.tuple (.str s :: es) :: ds.drop (i + 1)) = if s = z then .tuple es else rowD z (ds.drop (i + 1)) := rfl
          rw [e3] at hd2
          split
          · rename_i c
            rw [if_pos (V.str.inj c)] at hd2
            refine sl_q ep fun z2 H3 k3 f3 => ?_
            have r3 := ((RqA.cons (.str s) b).kp0 k3).cut (some 1) none
            rw [cutD_tl] at r3
            exact q _ H3 (hd2 ▸ .tup f3 r3) k3
          · rename_i c
            rw [if_neg fun e => c (congrArg V.str e)] at hd2
            refine ⟨⟨_, rfl⟩, ?_⟩
            exact hd2
        | _ => cases hh
    | _ => cases hh
  · subst hσ
    subst e
    walk_at "wp"
    rw [r.len, List.drop_length] at hd2
    exact q .non H' (hd2 ▸ .non) (Kp.refl _ _)
theorem ok_entry_of (F : Fun K "entry_of" "entry_of" s_entry_of f fd) (B : Blt mg) (c_behind_name : Cal P w K mg base CX0 1 "_behind_name" spBehind) : FnOk P w K mg base CX0 2 f fd ["document", "name"] (spOf 3) := by
  refine F.ok sc_entry_of (fun vs H Q E h => ?_) (fun cdv A outer s H vs Q E hr h => ?_)
  · obtain ⟨_, _, _, _, _, _, rfl, _⟩ := h; rfl
  obtain ⟨p, b, us, xs, ds, z, rfl, ep, ei, eb, r, hd, q⟩ := h
  refine ⟨_, (pss_one (ps_ret (c_behind_name.pe hr (pa_cons (pe_ix ix_tM (pv 0) pe_int (fun _ _ => rfl)) (pa_cons (pv 1) pa_nil))))), ?_⟩
  walk_at "wp"
  exact ⟨_, ep, _, ei, b, xs, ds, z, rfl, eb, r, hd, q⟩
end
/-! role_of without the trusted set -/
abbrev s_role_of : Stmt := top 47
abbrev N_role_of : List Str := ["charter", "name"]
theorem sc_role_of : FnScope N_role_of ["charter", "name"] (defScope s_role_of) := ⟨rfl, rfl, rfl, by decide +kernel, rfl, by decide +kernel, by decide +kernel⟩
theorem if_no {p : Prop} [Decidable p] {A B : Prop} (h : ¬ p) (b : B) : if p then A else B := by rw [if_neg h]; exact b
theorem if_yes {p : Prop} [Decidable p] {A B : Prop} (h : p) (b : A) : if p then A else B := by rw [if_pos h]; exact b
theorem Kp.insT {S : List Addr} {H : Hp} {p C dx dy : Addr} {fs gs : List (Str × V)} (h : H p = some (.ins C dx fs)) (m : p ∈ S) : Kp S H (L2.upd H p (.ins C dy gs)) :=
  ⟨fun b u n q => by rw [upd_ne (fun z => n (by rw [z]; exact m))]; exact q, fun b xs q => by rw [upd_ne (ne_of q h (by intro z; cases z))]; exact q⟩
theorem Kp.gone1 {S : List Addr} {H H1 : Hp} (k : Kp S H H1) (g : ∀ b ∈ S, H1 b ≠ none) {e : Addr} (h : H1 e = none) : H e = none := by
  cases c : H e with
  | none => rfl
  | some o =>
    have n : e ∉ S := fun m => g e m h
    rw [k.keep e o n c] at h
    cases h
theorem Kp.gone {Ts : List Addr} {H H1 : Hp} (k : Kp Ts H H1) (g : Tabs Ts H1) {e : Addr} (h : H1 e = none) : H e = none := by
  cases c : H e with
  | none => rfl
  | some o =>
    have n : e ∉ Ts := fun m => by
      obtain ⟨ps, t, _⟩ := g e m
      rw [h] at t; cases t
    rw [k.keep e o n c] at h
    cases h
abbrev kC : Str := Str.ofString "charter"
abbrev kT : Str := Str.ofString "stamp"
abbrev kF : Str := Str.ofString "shelf"
abbrev kL : Str := Str.ofString "list"
/-- a document of the kind k -/
def rnm : List Str := [kC, kT, kF, kL]
structure RnC (K : PySem.W.Frag) (mg : Str → Option Value) (R : Addr) : Prop where
  g : mg "_ROLE_NAMES" = some (.ref R)
  o : ∃ (o : Obj) (its : Array Value) (n : Nat), K.lookup R = some o ∧ o.cls = .type "tuple" ∧ o.dict = none ∧ o.data = .seq its n ∧ its.size ≤ sizeLine ∧ Vals (rnm.map V.str) its.toList
theorem RnC.s {K : PySem.W.Frag} {mg : Str → Option Value} {R : Addr} (h : RnC K mg R) (H : Hp) : SqT K H R (rnm.map V.str) := by
  obtain ⟨o, its, n, l, c, d, x, y, z⟩ := h.o
  exact .inr ⟨o, its, n, l, c, x, y, z⟩
theorem RnC.t {K : PySem.W.Frag} {mg : Str → Option Value} {R : Addr} (h : RnC K mg R) (H : Hp) : tyV K "tuple" (V.ref R) H := by
  obtain ⟨o, its, n, l, c, d, x, y, z⟩ := h.o
  exact .inr (.inl ⟨rfl, o, l, c, d⟩)
theorem Rq.part {a b : Nat} {H : Hp} {v : V} {d : PyData} (r : Rq H v d) (h : tupB a b d = true) {i : Nat} (hi : i < a) :
    ∃ (p : Addr) (xs : List V), v = .ref p ∧ H p = some (.tup xs) ∧ xs.length = (itD d).length ∧ RqA H xs (itD d) ∧ ∃ x, atI xs (i : Nat) = some x ∧ Rq H x (ixD d i) := by
  obtain ⟨p, xs, ds, rfl, ep, rfl, rr, l1, l2⟩ := tupB_of r h
  obtain ⟨x, hx, hr⟩ := rr.ix (i := i) (by omega)
  exact ⟨p, xs, rfl, ep, rr.len, rr, x, hx, hr⟩
theorem ch_tup {d : PyData} (h : isCharter d = true) : tupB 4 4 d = true := by
  unfold isCharter headB at h; simp only [Bool.and_eq_true] at h; exact h.1.1
theorem ch_rls {d : PyData} (h : isCharter d = true) : tupB 4 4 (ixD d 3) = true := by
  unfold isCharter headB at h; simp only [Bool.and_eq_true] at h; exact h.2.2.2.1
theorem tupB_len {a b : Nat} {d : PyData} (h : tupB a b d = true) : a ≤ (itD d).length ∧ (itD d).length ≤ b := by
  cases d with
  | tuple ds =>
    have h : (decide (a ≤ ds.length) && decide (ds.length ≤ b)) = true := h
    rw [Bool.and_eq_true, decide_eq_true_eq, decide_eq_true_eq] at h
    exact h
  | _ => cases h
theorem ok_ix {n a b : Nat} {d : PyData} (h : okD (n + 1) d = true) (t : tupB a b d = true) {i : Nat} (hi : i < a) : okD n (ixD d i) = true := by
  have l := (tupB_len t).1
  cases d with
  | tuple ds => exact (okD_tup.mp h).2 _ (getD_mem (by have : a ≤ ds.length := l; omega))
  | _ => cases t
theorem pur_ix {a b : Nat} {d : PyData} (h : purD d = true) (t : tupB a b d = true) {i : Nat} (hi : i < a) : purD (ixD d i) = true := by
  have l := (tupB_len t).1
  cases d with
  | tuple ds => exact purD_tup.mp h _ (getD_mem (by have : a ≤ ds.length := l; omega))
  | _ => cases t
theorem rnm_nd : ∀ j < 4, ∀ m < j, rnm[m]? ≠ rnm[j]? := by decide +kernel
theorem rnm_lt0 {j : Nat} {n : Str} (h : rnm[j]? = some n) : j < 4 := (List.getElem?_eq_some_iff.mp h).1
theorem rnm_first {j : Nat} {n : Str} (h : rnm[j]? = some n) : ∀ m, m < j → rnm[m]? ≠ some n := fun m l e => rnm_nd j (rnm_lt0 h) m l (e.trans h.symm)
theorem rnm_lt {j : Nat} {n : Str} (h : rnm[j]? = some n) : j < 4 := (List.getElem?_eq_some_iff.mp h).1
/-- the role j of a charter -/
def rlD (d : PyData) (j : Nat) : PyData := ixD (ixD d 3) j
def spRoleOf : Sp := fun vs H Q _ => ∃ (v : V) (d : PyData) (n : Str) (j : Nat), vs = [v, .str n] ∧ Rq H v d ∧ isCharter d = true ∧ rnm[j]? = some n ∧ ∀ u, Rq H u (rlD d j) → Q u H
def getA {α : Type} (l : List (Str × α)) (n : Str) : Option α := (l.find? fun p => decide (p.1 = n)).map (·.2)
inductive KvD (H : Hp) : List (Key × V) → List (Str × PyData) → Prop
  | nil : KvD H [] []
  | cons {n : Str} {v : V} {d : PyData} {r : List (Key × V)} {l : List (Str × PyData)} : Rq H v d → KvD H r l → KvD H ((Sum.inr n, v) :: r) ((n, d) :: l)
theorem KvD.val {H : Hp} {n : Str} : ∀ {kvs : List (Key × V)} {l : List (Str × PyData)}, KvD H kvs l → (∃ v d, valV kvs (Sum.inr n) = some v ∧ getA l n = some d ∧ Rq H v d) ∨ (valV kvs (Sum.inr n) = none ∧ getA l n = none)
  | _, _, .nil => .inr ⟨rfl, rfl⟩
  | _, _, .cons (n := m) (v := v) (d := d) h r => by
    by_cases e : m = n
    · exact .inl ⟨v, d, valV_pos (by rw [e]), by simp [getA, List.find?_cons, e], h⟩
    · have := r.val (n := n)
      rw [valV_neg (fun z => e (Sum.inr.inj z))]
      simp only [getA, List.find?_cons, e, decide_false]
      exact this
theorem KvD.kp {S : List Addr} {H H' : Hp} (k : Kp S H H') : ∀ {kvs : List (Key × V)} {l : List (Str × PyData)}, KvD H kvs l → (∀ p ∈ l, purD p.2 = true) → KvD H' kvs l
  | _, _, .nil, _ => .nil
  | _, _, .cons h r, p => .cons (h.pure k (p _ List.mem_cons_self)) (r.kp k fun q m => p q (List.mem_cons_of_mem _ m))
theorem getA_mem {α : Type} {l : List (Str × α)} {n : Str} {a : α} (h : getA l n = some a) : (n, a) ∈ l := by
  unfold getA at h
  obtain ⟨p, e, rfl⟩ := Option.map_eq_some_iff.mp h
  have := List.find?_some e
  have m := List.mem_of_find?_eq_some e
  rw [decide_eq_true_eq] at this
  rw [← this]; exact m
section
variable {P : Program} {w : World} {K : PySem.W.Frag} {mg : Str → Option Value} {base : Heap} {f : Addr} {fd : FuncData} {C CB CD CR R : Addr} {Ts : List Addr}
theorem ok_roleof (F : Fun K "role_of" "role_of" s_role_of f fd) (RN : RnC K mg R) : FnOk P w K mg base CX0 1 f fd ["charter", "name"] spRoleOf := by
  refine F.ok sc_role_of (fun vs H Q E h => ?_) (fun cdv A outer s H vs Q E hr h => ?_)
  · obtain ⟨v, d, n, j, rfl, _⟩ := h; rfl
  obtain ⟨v, d, n, j, rfl, hR, hc, hn, q⟩ := h
  refine ⟨_, (pss_one (ps_ret (pe_ix ix_tM (pe_ix ix_tM (pv 0) pe_int (fun _ _ => rfl)) (pe_bm PySem.F.plainAttrs_tuple PySem.F.slot_tuple_index PySem.F.type_tuple_index mt_tup_index (pe_glob (v := .ref R) rfl RN.g rfl) (pa_cons (pv 1) pa_nil)) (fun _ _ => rfl)))), ?_⟩
  walk_at "wq"
  obtain ⟨p, xs, rfl, ep, _, _, x, hx, rx⟩ := hR.part (ch_tup hc) (i := 3) (by omega)
  obtain ⟨b, ys, rfl, eb, _, _, y, hy, ry⟩ := rx.part (ch_rls hc) (i := j) (rnm_lt hn)
  exact ⟨p, rfl, xs, ep, _, hx, RN.t H, rnm, RN.s H, j, hn, rnm_first hn, b, rfl, ys, eb, y, hy, q y ry⟩
end
/-! the search: the class -/
abbrev s_good_of : Stmt := top 37
abbrev N_good_of : List Str := ["document", "path"]
theorem sc_good_of : FnScope N_good_of ["document", "path"] (defScope s_good_of) := ⟨rfl, rfl, rfl, by decide +kernel, rfl, by decide +kernel, by decide +kernel⟩
abbrev s_Search___init : Stmt := inClass (top 49) 0
abbrev N_Search___init : List Str := ["self", "charter", "shelf", "path"]
theorem sc_Search___init : FnScope N_Search___init ["self", "charter", "shelf", "path"] (defScope s_Search___init) := ⟨rfl, rfl, rfl, by decide +kernel, rfl, by decide +kernel, by decide +kernel⟩
abbrev s_Search_wanted : Stmt := inClass (top 49) 1
abbrev N_Search_wanted : List Str := ["self"]
theorem sc_Search_wanted : FnScope N_Search_wanted ["self"] (defScope s_Search_wanted) := ⟨rfl, rfl, rfl, by decide +kernel, rfl, by decide +kernel, by decide +kernel⟩
abbrev s_Search_give : Stmt := inClass (top 49) 2
abbrev N_Search_give : List Str := ["self", "document", "name", "_", "good"]
theorem sc_Search_give : FnScope N_Search_give ["self", "document"] (defScope s_Search_give) := ⟨rfl, rfl, rfl, by decide +kernel, rfl, by decide +kernel, by decide +kernel⟩
abbrev s_Search_result : Stmt := inClass (top 49) 3
abbrev N_Search_result : List Str := ["self"]
theorem sc_Search_result : FnScope N_Search_result ["self"] (defScope s_Search_result) := ⟨rfl, rfl, rfl, by decide +kernel, rfl, by decide +kernel, by decide +kernel⟩
abbrev s_Search__follow : Stmt := inClass (top 49) 4
abbrev N_Search__follow : List Str := ["self", "grants", "waiting", "behind", "grant", "name", "role", "_", "last", "row"]
theorem sc_Search__follow : FnScope N_Search__follow ["self", "grants"] (defScope s_Search__follow) := ⟨rfl, rfl, rfl, by decide +kernel, rfl, by decide +kernel, by decide +kernel⟩
abbrev s_Search__leads_on : Stmt := inClass (top 49) 5
abbrev N_Search__leads_on : List Str := ["self", "grant", "name"]
theorem sc_Search__leads_on : FnScope N_Search__leads_on ["self", "grant"] (defScope s_Search__leads_on) := ⟨rfl, rfl, rfl, by decide +kernel, rfl, by decide +kernel, by decide +kernel⟩
def rLenK : List V → Hp → VK → Prop := fun xs H Q => ∃ a kvs, xs = [V.ref a] ∧ H a = some (.dK kvs) ∧ Q (.int kvs.length) H
theorem len_dK {X : Cx} {p pos : Pos} {e : Expr} {es : List Expr} {t : TA} (B : Blt X.mg) (ha : PA X (e :: es) t) (hg : Gl X "len" := by rfl) (he : starEach (e :: es) X.env = (false, eval e X.env) :: starEach es X.env := by rfl) (hpl : (backTo pos (starEach es X.env)).any (·.1) = false := by rfl) :
    PE X (.Call (.Name "len" p) (e :: es) [] pos) (tCB rLenK t) := pe_callB call_lenD hg B.len PySem.boot_len ha (he := he) (hpl := hpl)
def noneB : PyData → Bool
  | .none => true
  | _ => false
/-- what a search holds -/
structure Sst where
  path : Str
  wait : List (Str × PyData)
  seen : List Str
  res : PyData
def rowW (p : Str × PyData) : PyData := .tuple [.str p.1, p.2]
def seenK (l : List Str) : List (Key × V) := l.map fun n => (Sum.inr n, V.bl true)
structure Sst.Sm (s : Sst) : Prop where
  path : s.path.length ≤ 100
  wl : s.wait.length ≤ 2000
  wt : ∀ p ∈ s.wait, okD 12 (.str p.1) = true ∧ okD 12 p.2 = true ∧ purD p.2 = true
  sn : s.seen.length ≤ 1000
  rp : purD s.res = true
  rt : s.res = .none ∨ ∃ ds, s.res = .tuple ds
structure ShR (sh : PyData) : Prop where
  pur : purD sh = true
  t : tupB 4 4 sh = true
  r : tupB 0 100000 (ixD sh 3) = true
  hd : (itD (ixD sh 3)).all hdD = true
def srF (sv : V) (wl sd : Addr) (rv : V) (s : Sst) : List (Str × V) := [("_shelf", sv), ("_path", .str s.path), ("_waiting", .ref wl), ("_seen", .ref sd), ("_result", rv)]
/-- a search at o, its waiting rows at wl, its seen names at sd -/
structure Srs (C o wl sd : Addr) (sv : V) (sh : PyData) (s : Sst) (H : Hp) : Prop where
  ob : ∃ dx rv, H o = some (.ins C dx (srF sv wl sd rv s)) ∧ Rq H rv s.res
  wt : ∃ vs, H wl = some (.lst vs) ∧ RqA H vs (s.wait.map rowW)
  sn : H sd = some (.dK (seenK s.seen))
  shf : Rq H sv sh
  shr : ShR sh
  sm : s.Sm
theorem pur_rows {l : List (Str × PyData)} (h : ∀ p ∈ l, purD p.2 = true) : purDs (l.map rowW) = true := purDs_all.mpr fun d m => by
  obtain ⟨p, mp, rfl⟩ := List.mem_map.mp m
  exact purD_tup.mpr fun x mx => by
    rcases List.mem_cons.mp mx with rfl | mx
    · rfl
    · rw [List.mem_singleton.mp mx]; exact h p mp
theorem Srs.kp {S : List Addr} {C o wl sd : Addr} {sv : V} {sh : PyData} {s : Sst} {H H' : Hp} (h : Srs C o wl sd sv sh s H) (k : Kp S H H') (m1 : o ∉ S) (m2 : wl ∉ S) (m3 : sd ∉ S) : Srs C o wl sd sv sh s H' :=
  let ⟨dx, rv, e, r⟩ := h.ob
  let ⟨vs, ew, rw⟩ := h.wt
  ⟨⟨dx, rv, k.keep _ _ m1 e, r.pure k h.sm.rp⟩, ⟨vs, k.keep _ _ m2 ew, rw.pure k (pur_rows fun p m => (h.sm.wt p m).2.2)⟩, k.keep _ _ m3 h.sn, h.shf.pure k h.shr.pur, h.shr, h.sm⟩
theorem Srs.kp0 {C o wl sd : Addr} {sv : V} {sh : PyData} {s : Sst} {H H' : Hp} (h : Srs C o wl sd sv sh s H) (k : Kp [] H H') : Srs C o wl sd sv sh s H' := h.kp k List.not_mem_nil List.not_mem_nil List.not_mem_nil
theorem Srs.tabs {Ts : List Addr} {C o wl sd : Addr} {sv : V} {sh : PyData} {s : Sst} {H H' : Hp} (h : Srs C o wl sd sv sh s H) (k : Kp Ts H H') (g : Tabs Ts H) : Srs C o wl sd sv sh s H' :=
  let ⟨_, _, e, _⟩ := h.ob
  let ⟨_, ew, _⟩ := h.wt
  h.kp k (g.ne e) (g.ne ew) (g.ne h.sn)
/-- the grant leads on -/
def patsD (g : PyData) : List Str := (itD (ixD g 2)).map strD
def oneB : PyData → Bool
  | .int i => decide (i = 1)
  | _ => false
def leadsF (sh : PyData) (s : Sst) (g : PyData) : Bool := !decide (strD (ixD g 0) ∈ s.seen) && (!noneB (rowD (strD (ixD g 0)) (itD (ixD sh 3))) && (patsD g).any fun p => mtW p s.path)
def folF (sh : PyData) (s : Sst) : List PyData → List (Str × PyData) × Bool
  | [] => ([], false)
  | g :: gs => if leadsF sh s g = true then (if oneB (ixD g 3) = true then ([(strD (ixD g 0), ixD g 1)], true) else ((strD (ixD g 0), ixD g 1) :: (folF sh s gs).1, (folF sh s gs).2)) else folF sh s gs
def Sst.fol (s : Sst) (sh : PyData) (gs : List PyData) : Sst := { s with wait := ((folF sh s gs).1 ++ if (folF sh s gs).2 = true then [] else s.wait).filter fun p => !decide (p.1 ∈ s.seen) }
def Sst.hd (s : Sst) : Str × PyData := s.wait.headD (Str.empty, .none)
def Sst.see (s : Sst) : Sst := { s with seen := s.seen ++ [s.hd.1] }
def Sst.found (s : Sst) (d : PyData) : PyData := rowD s.path (itD (ixD d 4))
def Sst.fin (s : Sst) : Sst := if s.wait = [] ∨ 32 ≤ s.seen.length then { s with res := .tuple [.str "none"] } else s
def Sst.give (s : Sst) (sh d : PyData) : Sst :=
  if noneB (s.found d) = true then (s.see.fol sh (itD (ixD d 5))).fin
  else { s.see with res := .tuple (.str "found" :: .str s.hd.1 :: itD (s.found d)) }
def Sst.want (s : Sst) : PyData := if noneB s.res = true then rowW s.hd else .none
def Sst.new (z : Str) (r : PyData) : Sst := ⟨z, [(Str.ofString "list", r)], [], .none⟩
def spSInit (C : Addr) : Sp := fun vs H Q _ => ∃ (o dx : Addr) (cv sv : V) (ch sh : PyData) (z : Str), vs = [.ref o, cv, sv, .str z] ∧ H o = some (.ins C dx []) ∧ Rq H cv ch ∧ isCharter ch = true ∧ okD 12 ch = true ∧ purD ch = true ∧ Rq H sv sh ∧ ShR sh ∧ z.length ≤ 100 ∧
  ∀ wl sd H', H wl = none → H sd = none → wl ≠ o → sd ≠ o → Kp [o] H H' → Srs C o wl sd sv sh (Sst.new z (rlD ch 3)) H' → Q .non H'
def spSWant (C : Addr) : Sp := fun vs H Q _ => ∃ (o wl sd : Addr) (sv : V) (sh : PyData) (s : Sst), vs = [.ref o] ∧ Srs C o wl sd sv sh s H ∧ (s.res = .none → s.wait ≠ []) ∧ ∀ u, Rq H u s.want → Q u H
def spSRes (C : Addr) : Sp := fun vs H Q _ => ∃ (o wl sd : Addr) (sv : V) (sh : PyData) (s : Sst), vs = [.ref o] ∧ Srs C o wl sd sv sh s H ∧ ∀ u, Rq H u s.res → Q u H
def spSLead (C : Addr) (Ts : List Addr) : Sp := fun vs H Q _ => ∃ (o wl sd : Addr) (sv : V) (sh : PyData) (s : Sst) (v : V) (g : PyData), vs = [.ref o, v] ∧ Srs C o wl sd sv sh s H ∧ Rq H v g ∧ isGrant g = true ∧ Tabs Ts H ∧ ∀ H', Kp Ts H H' → Tabs Ts H' → Q (.bl (leadsF sh s g)) H'
def spSFol (C : Addr) (Ts : List Addr) : Sp := fun vs H Q _ => ∃ (o wl sd : Addr) (sv : V) (sh : PyData) (s : Sst) (b : Addr) (xs : List V) (gs : List PyData), vs = [.ref o, .ref b] ∧ Srs C o wl sd sv sh s H ∧ H b = some (.tup xs) ∧ RqA H xs gs ∧ gs.all isGrant = true ∧ gs.length ≤ 32 ∧ (∀ g ∈ gs, okD 12 g = true ∧ purD g = true) ∧ s.wait.length ≤ 1500 ∧ Tabs Ts H ∧
  ∀ wl' H', (H wl' = none) → wl' ≠ o → wl' ≠ sd → Kp (o :: Ts) H H' → Tabs Ts H' → Srs C o wl' sd sv sh (s.fol sh gs) H' → Q .non H'
def spSGive (C CB : Addr) (Ts : List Addr) : Sp := fun vs H Q E => ∃ (o wl sd : Addr) (sv : V) (sh : PyData) (s : Sst) (v : V) (d : PyData), vs = [.ref o, v] ∧ Srs C o wl sd sv sh s H ∧ (s.res = .none → s.wait ≠ [] ∧ s.hd.1 ∉ s.seen ∧ s.wait.length ≤ 1500 ∧ s.seen.length ≤ 900) ∧ Rq H v d ∧ okD 12 d = true ∧ (isList d = true → purD d = true) ∧ Tabs Ts H ∧
  (s.res = .none → isList d = true → ixD d 1 = .str s.hd.1 → ∀ wl' H', (wl' = wl ∨ (H wl' = none)) → Kp (o :: sd :: Ts) H H' → Tabs Ts H' → Srs C o wl' sd sv sh (s.give sh d) H' → Q .non H') ∧
  (¬ (s.res = .none ∧ isList d = true ∧ ixD d 1 = .str s.hd.1) → ∀ H', Kp Ts H H' → Tabs Ts H' → E (.ref CB) none H')
structure SrC (K : PySem.W.Frag) (mg : Str → Option Value) (C CB : Addr) : Prop where
  cl : Cls K C
  n1 : NoAttr K C "_shelf"
  n2 : NoAttr K C "_path"
  n3 : NoAttr K C "_waiting"
  n4 : NoAttr K C "_seen"
  n5 : NoAttr K C "_result"
  BadState : Err K mg "BadState" CB
structure SrM (mg : Str → Option Value) : Prop where
  c_TOP_LIST : ∃ t, mg "TOP_LIST" = some (.str "list" t)
  c_MOST_LISTS : ∃ t, mg "MOST_LISTS" = some (.int 32 t)
theorem map_strD (ps : List Str) : (ps.map PyData.str).map strD = ps := by
  rw [List.map_map]; exact (List.map_congr_left fun _ _ => rfl).trans (List.map_id _)
theorem seenK_has (z : Str) : ∀ l : List Str, (valV (seenK l) (Sum.inr z)).isSome = decide (z ∈ l)
  | [] => rfl
  | n :: l => by
    have e : seenK (n :: l) = (Sum.inr n, V.bl true) :: seenK l := rfl
    rw [e]
    by_cases c : n = z
    · rw [valV_pos (by rw [c]), decide_eq_true (by rw [c]; exact List.mem_cons_self)]; rfl
    · rw [valV_neg (fun h => c (Sum.inr.inj h)), seenK_has z l]
      exact decide_eq_decide.mpr ⟨fun h => List.mem_cons_of_mem _ h, fun h => (List.mem_cons.mp h).resolve_left fun e => c e.symm⟩
theorem rq_non {H : Hp} {v : V} {d : PyData} (r : Rq H v d) : v = .non ↔ noneB d = true := by
  cases r <;> simp [noneB]
theorem pa_str {m : Str} {d : PyData} (h : paD m d = true) : ∃ z, d = .str z ∧ z.length ≤ 100 := by
  cases d with
  | str w =>
    have t : hpS m w = true := h
    unfold hpS at t
    rw [Bool.and_eq_true, Bool.and_eq_true, decide_eq_true_eq] at t
    exact ⟨w, rfl, by have := t.1.1; omega⟩
  | _ => cases h
theorem strs_of : ∀ {ds : List PyData}, (∀ d ∈ ds, ∃ z, d = .str z ∧ z.length ≤ 100) → ∃ ps : List Str, ds = ps.map PyData.str ∧ ∀ q ∈ ps, q.length ≤ 100
  | [], _ => ⟨[], rfl, fun _ m => absurd m List.not_mem_nil⟩
  | d :: ds, h => by
    obtain ⟨z, rfl, lz⟩ := h d List.mem_cons_self
    obtain ⟨ps, rfl, l⟩ := strs_of fun x m => h x (List.mem_cons_of_mem _ m)
    exact ⟨z :: ps, rfl, fun q m => by
      rcases List.mem_cons.mp m with rfl | m
      · exact lz
      · exact l q m⟩
theorem grant4 {H : Hp} {v : V} {d : PyData} (r : Rq H v d) (h : isGrant d = true) : ∃ (p pt : Addr) (z : Str) (x1 : V) (d1 : PyData) (ps : List Str) (la : Int), v = .ref p ∧ H p = some (.tup [.str z, x1, .ref pt, .int la]) ∧ d = .tuple [.str z, d1, .tuple (ps.map PyData.str), .int la] ∧ Rq H x1 d1 ∧
    H pt = some (.tup (ps.map V.str)) ∧ (∀ q ∈ ps, q.length ≤ 100) ∧ z.length ≤ 100 ∧ isRole d1 = true := by
  obtain ⟨p, ys, z, es, rfl, ep, rfl, rr, hz, hn, l3⟩ := isGrant_of r h
  unfold isGrant at h
  simp only [Bool.and_eq_true] at h
  obtain ⟨_, _, _, h4, h5, h6, h7⟩ := h
  match es, l3, rr, h4, h5, h6, h7 with
  | [e1, e2, e3], _, .cons r1 (.cons r2 (.cons r3 .nil)), h4, h5, h6, h7 =>
    obtain ⟨n, rfl⟩ := num_int (show numB 0 1 e3 = true from h7)
    cases r3
    obtain ⟨pt, us, ds, rfl, ept, rfl, rp, _, _⟩ := tupB_of r2 (show tupB 1 8 e2 = true from h5)
    have h6 : ds.all (paD ptM) = true := h6
    obtain ⟨ps, rfl, lps⟩ := strs_of fun d m => pa_str (List.all_eq_true.mp h6 d m)
    have eu := rqa_strs rp (fun d m => by obtain ⟨q, _, rfl⟩ := List.mem_map.mp m; rfl)
    rw [map_strD] at eu
    exact ⟨p, pt, z, _, e1, ps, n, rfl, ep, rfl, r1, by rw [ept, eu], lps, by have := (ln_low hz).1; omega, h4⟩
theorem rqa_app {H : Hp} : ∀ {xs : List V} {ds : List PyData} {ys : List V} {es : List PyData}, RqA H xs ds → RqA H ys es → RqA H (xs ++ ys) (ds ++ es)
  | _, _, _, _, .nil, b => b
  | _, _, _, _, .cons h r, b => .cons h (rqa_app r b)
theorem folF_app (sh : PyData) (s : Sst) (es : List PyData) : ∀ ds : List PyData, (folF sh s ds).2 = false → folF sh s (ds ++ es) = ((folF sh s ds).1 ++ (folF sh s es).1, (folF sh s es).2)
  | [], _ => rfl
  | g :: ds, h => by
    have e1 : folF sh s (g :: ds ++ es) = if leadsF sh s g = true then (if oneB (ixD g 3) = true then ([(strD (ixD g 0), ixD g 1)], true) else ((strD (ixD g 0), ixD g 1) :: (folF sh s (ds ++ es)).1, (folF sh s (ds ++ es)).2)) else folF sh s (ds ++ es) := rfl
    have e2 : folF sh s (g :: ds) = if leadsF sh s g = true then (if oneB (ixD g 3) = true then ([(strD (ixD g 0), ixD g 1)], true) else ((strD (ixD g 0), ixD g 1) :: (folF sh s ds).1, (folF sh s ds).2)) else folF sh s ds := rfl
    rw [e1, e2]
    rw [e2] at h
    by_cases c : leadsF sh s g = true
    · rw [if_pos c] at h ⊢
      rw [if_pos c]
      by_cases c2 : oneB (ixD g 3) = true
      · rw [if_pos c2] at h; cases h
      · rw [if_neg c2] at h ⊢
        rw [if_neg c2, folF_app sh s es ds h]; rfl
    · rw [if_neg c] at h ⊢
      rw [if_neg c, folF_app sh s es ds h]
theorem folF_len (sh : PyData) (s : Sst) : ∀ ds : List PyData, (folF sh s ds).1.length ≤ ds.length
  | [] => Nat.le_refl _
  | g :: ds => by
    have e2 : folF sh s (g :: ds) = if leadsF sh s g = true then (if oneB (ixD g 3) = true then ([(strD (ixD g 0), ixD g 1)], true) else ((strD (ixD g 0), ixD g 1) :: (folF sh s ds).1, (folF sh s ds).2)) else folF sh s ds := rfl
    have := folF_len sh s ds
    rw [e2]
    split
    · split
      · show 1 ≤ ds.length + 1; omega
      · show (folF sh s ds).1.length + 1 ≤ ds.length + 1; omega
    · rw [List.length_cons]; omega
theorem folF_mem (sh : PyData) (s : Sst) : ∀ {ds : List PyData} {p : Str × PyData}, p ∈ (folF sh s ds).1 → ∃ g ∈ ds, p = (strD (ixD g 0), ixD g 1)
  | [], _, h => absurd h List.not_mem_nil
  | g :: ds, p, h => by
    have e2 : folF sh s (g :: ds) = if leadsF sh s g = true then (if oneB (ixD g 3) = true then ([(strD (ixD g 0), ixD g 1)], true) else ((strD (ixD g 0), ixD g 1) :: (folF sh s ds).1, (folF sh s ds).2)) else folF sh s ds := rfl
    rw [e2] at h
    split at h
    · split at h
      · exact ⟨g, List.mem_cons_self, List.mem_singleton.mp h⟩
      · rcases List.mem_cons.mp h with h | h
        · exact ⟨g, List.mem_cons_self, h⟩
        · obtain ⟨x, m, e⟩ := folF_mem sh s h
          exact ⟨x, List.mem_cons_of_mem _ m, e⟩
    · obtain ⟨x, m, e⟩ := folF_mem sh s h
      exact ⟨x, List.mem_cons_of_mem _ m, e⟩
/-- [row for row in a new list of rows if a test that changes nothing] -/
theorem lc_rows {K : PySem.W.Frag} {σ : List (Option V)} {H : Hp} {R : VK} {tl te : TE} {tt : TT} {ks : Nat} {vs : List V} {l : List (Str × PyData)} (fl : Str × PyData → Bool) (rr : RqA H vs (l.map rowW)) (pur : purDs (l.map rowW) = true) (ln : l.length ≤ 10000)
    (hl : ∀ R : VK, (∀ r, H r = none → R (.ref r) (upd H r (.lst vs))) → tl σ H R) (hw : ∀ x : V, wipe ((wipe σ [ks]).set ks (some x)) [ks] = wipe σ [ks])
    (ht : ∀ (p : Str × PyData) (x : V) (H2 : Hp) (R : Bool → Hp → Prop), p ∈ l → Kp [] H H2 → Rq H2 x (rowW p) → R (fl p) H2 → tt ((wipe σ [ks]).set ks (some x)) H2 R)
    (he : ∀ (x : V) (H2 : Hp) (R : VK), R x H2 → te ((wipe σ [ks]).set ks (some x)) H2 R)
    (q : ∀ (D : Addr) (us : List V) (H' : Hp), H' D = some (.lst us) → RqA H' us ((l.filter fl).map rowW) → Kp [] H H' → H D = none → R (.ref D) H') :
    tLc (iList K tl) (gName ks) tt te [ks] σ H R := by
  refine hl _ fun r hr => ⟨r, rfl, ⟨_, SqL.of upd_same⟩, fun D hD => ?_⟩
  have lim : sizeLine = 16777216 := sizeLine_eq
  have nrD : r ≠ D := fun e => by rw [← e, upd_same] at hD; cases hD
  have hD0 : H D = none := by rw [upd_ne nrD.symm] at hD; exact hD
  have kr : Kp [] H (upd H r (.lst vs)) := Kp.new hr _
  have pf : ∀ i, purDs (((l.take i).filter fl).map rowW) = true := fun i => purDs_all.mpr fun d m => by
    obtain ⟨p, mp, rfl⟩ := List.mem_map.mp m
    exact purDs_all.mp pur _ (List.mem_map_of_mem (List.mem_of_mem_take (List.mem_filter.mp mp).1))
  have vl : vs.length = l.length := by rw [rr.len, List.length_map]
  refine lc_list (K := K) (a := r) (xs := vs) (fun i H' => (∃ us, H' D = some (.lst us) ∧ us.length ≤ i ∧ RqA H' us (((l.take i).filter fl).map rowW)) ∧ H' r = some (.lst vs) ∧ Kp [] H H')
    ⟨⟨[], upd_same, Nat.le_refl _, .nil⟩, by rw [upd_ne nrD]; exact upd_same, kr.trans (Kp.new hD _)⟩ (fun i H' _ ⟨_, e, _⟩ => SqL.of e) (fun i x H2 hx ⟨⟨us, hy, lu, ru⟩, e2, k2⟩ => ?_) (fun H2 ⟨⟨us, hy, lu, ru⟩, e2, k2⟩ => ?_)
  · obtain ⟨d, hd, Rd⟩ := rr.get hx
    rw [List.getElem?_map] at hd
    obtain ⟨p, hp, rfl⟩ := Option.map_eq_some_iff.mp hd
    have mp := List.mem_of_getElem? hp
    have pd := purDs_all.mp pur _ (List.mem_map_of_mem mp)
    have tk : l.take (i + 1) = l.take i ++ [p] := by rw [List.take_add_one, hp]; rfl
    have li := (List.getElem?_eq_some_iff.mp hp).1
    have R2 : Rq H2 x (rowW p) := Rd.pure k2 pd
    refine ⟨hw _, ht p x _ _ mp k2 R2 ?_⟩
    cases c : fl p with
    | false =>
      rw [if_neg (by decide)]
      refine ⟨⟨us, hy, by omega, ?_⟩, e2, k2⟩
      rw [tk, List.filter_append]
      simpa [c] using ru
    | true =>
      rw [if_pos rfl]
      refine he x _ _ ⟨us, hy, by omega, ?_⟩
      have kD : Kp [D] H2 (upd H2 D (.lst (us ++ [x]))) := Kp.lst hy (List.mem_singleton.mpr rfl)
      refine ⟨⟨us ++ [x], upd_same, by rw [List.length_append, List.length_singleton]; omega, ?_⟩, by rw [upd_ne nrD]; exact e2, k2.upd hD0 hy⟩
      rw [tk, List.filter_append, List.map_append]
      have e1 : ([p].filter fl).map rowW = [rowW p] := by simp [c]
      rw [e1]
      exact rqa_app (ru.pure kD (pf i)) (.cons (R2.pure kD pd) .nil)
  · rw [vl, List.take_length] at ru
    exact q D us H2 hy ru k2 hD0
theorem eqv_nil (ds : List PyData) : PyData.eqv (.list ds) (.list []) = ds.isEmpty := by
  show PyData.eqvAll ds [] = _
  cases ds <;> rfl
theorem shaped_list {n : Nat} {ds : List PyData} (h : okD n (.tuple ds) = true) (hn : n ≤ 64) : SeqAt.shaped (.list ds) = true := by
  have := ok_shaped h hn
  unfold SeqAt.shaped at this ⊢
  simpa [PyData.canLay0, PyData.depth] using this
theorem seenK_put {n : Str} : ∀ {l : List Str}, n ∉ l → putK (seenK l) (Sum.inr n) (.bl true) = seenK (l ++ [n]) := by
  intro l h
  unfold putK
  rw [if_neg]
  · unfold seenK; rw [List.map_append]; rfl
  · intro e
    obtain ⟨kv, m, hk⟩ := List.any_eq_true.mp e
    obtain ⟨x, mx, rfl⟩ := List.mem_map.mp m
    have := Sum.inr.inj (of_decide_eq_true hk)
    exact h (this ▸ mx)
theorem row_good {z : Str} : ∀ {ds : List PyData}, ds.all isGood = true → rowD z ds = .none ∨ ∃ a b, rowD z ds = .tuple [a, b]
  | [], _ => .inl rfl
  | d :: ds, h => by
    rw [List.all_cons, Bool.and_eq_true] at h
    unfold rowD
    split
    · have g := h.1
      unfold isGood at g
      rw [Bool.and_eq_true] at g
      have t := tupB_len g.1
      cases d with
      | tuple es =>
        match es, t with
        | [a, b, c], _ => exact .inr ⟨b, c, rfl⟩
        | [], t => exact absurd t.1 (by decide)
        | [_], t => exact absurd t.1 (by simp [itD])
        | [_, _], t => exact absurd t.1 (by simp [itD])
        | _ :: _ :: _ :: _ :: _, t => exact absurd t.2 (by simp [itD])
      | _ => cases g.1
    · exact row_good h.2
theorem row_pur {z : Str} : ∀ {ds : List PyData}, (∀ x ∈ ds, purD x = true) → purD (rowD z ds) = true
  | [], _ => rfl
  | d :: ds, h => by
    unfold rowD
    split
    · refine purD_tup.mpr fun x mx => ?_
      have := h d List.mem_cons_self
      cases d with
      | tuple es => exact purD_tup.mp this x (List.mem_of_mem_drop mx)
      | _ => cases mx
    · exact row_pur fun x mx => h x (List.mem_cons_of_mem _ mx)
structure LsP (d : PyData) (n : Str) : Prop where
  t6 : tupB 6 6 d = true
  nm : ixD d 1 = .str n
  g1 : tupB 0 64 (ixD d 4) = true
  g2 : (itD (ixD d 4)).all isGood = true
  r1 : tupB 0 32 (ixD d 5) = true
  r2 : (itD (ixD d 5)).all isGrant = true
theorem lsP {d : PyData} (h : isList d = true) : ∃ n, LsP d n := by
  unfold isList headB isGoods at h
  simp only [Bool.and_eq_true] at h
  obtain ⟨⟨h1, _⟩, h2, _, _, ⟨h3, h4, _⟩, h5, h6, _⟩ := h
  generalize hx : ixD d 1 = x at h2
  cases x with
  | str z => exact ⟨z, h1, hx, h3, h4, h5, h6⟩
  | _ => cases h2
section
variable {P : Program} {w : World} {K : PySem.W.Frag} {mg : Str → Option Value} {base : Heap} {f : Addr} {fd : FuncData} {C CB R : Addr} {Ts : List Addr}
theorem ok_good_of (F : Fun K "good_of" "good_of" s_good_of f fd) (B : Blt mg) (c_behind_name : Cal P w K mg base CX0 1 "_behind_name" spBehind) : FnOk P w K mg base CX0 2 f fd ["document", "path"] (spOf 4) := by
  refine F.ok sc_good_of (fun vs H Q E h => ?_) (fun cdv A outer s H vs Q E hr h => ?_)
  · obtain ⟨_, _, _, _, _, _, rfl, _⟩ := h; rfl
  obtain ⟨p, b, us, xs, ds, z, rfl, ep, ei, eb, r, hd, q⟩ := h
  refine ⟨_, (pss_one (ps_ret (c_behind_name.pe hr (pa_cons (pe_ix ix_tM (pv 0) pe_int (fun _ _ => rfl)) (pa_cons (pv 1) pa_nil))))), ?_⟩
  walk_at "wp"
  exact ⟨_, ep, _, ei, b, xs, ds, z, rfl, eb, r, hd, q⟩
theorem ok_swanted (F : Fun K "wanted" "Search.wanted" s_Search_wanted f fd) (B : Blt mg) (T : SrC K mg C CB) : FnOk P w K mg base CX0 1 f fd ["self"] (spSWant C) := by
  refine F.ok sc_Search_wanted (fun vs H Q E h => ?_) (fun cdv A outer s H vs Q E hr h => ?_)
  · obtain ⟨o, wl, sd, sv, sh, st, rfl, _⟩ := h; rfl
  obtain ⟨o, wl, sd, sv, sh, st, rfl, hS, hne, q⟩ := h
  refine ⟨_, (pss_cons (ps_if (pt_cmpR op_notN (pe_fld (pv 0) rfl) pe_non (nomark _)) (pss_one (ps_ret pe_non)) pss_nil)
    (pss_one (ps_ret (pe_ix ix_lM (pe_fld (pv 0) rfl) pe_int (fun _ _ => rfl))))), ?_⟩
  obtain ⟨dx, rv, ho, hrv⟩ := hS.ob
  obtain ⟨vs, ew, rw_⟩ := hS.wt
  walk_at "wq"
  refine ⟨C, dx, _, ho, T.cl, T.n5, _, rfl, ?_⟩
  unfold Sst.want at q
  rcases hS.sm.rt with e | ⟨ds, e⟩
  · rw [e] at hrv
    cases hrv
    rw [e, if_pos (show noneB .none = true from rfl)] at q
    refine if_no (by simp) ⟨C, dx, _, ho, T.cl, T.n3, _, rfl, wl, rfl, vs, ew, ?_⟩
    have ne := hne e
    unfold Sst.hd at q
    cases hw : st.wait with
    | nil => exact absurd hw ne
    | cons p l =>
      rw [hw] at rw_ q
      cases rw_ with
      | cons a b => exact ⟨_, at0, q _ a⟩
  · rw [e] at hrv
    cases hrv
    rw [e, if_neg (show ¬ noneB (.tuple ds) = true by intro h; cases h)] at q
    exact if_yes (by simp) (q _ .non)
theorem ok_sresult (F : Fun K "result" "Search.result" s_Search_result f fd) (B : Blt mg) (T : SrC K mg C CB) : FnOk P w K mg base CX0 1 f fd ["self"] (spSRes C) := by
  refine F.ok sc_Search_result (fun vs H Q E h => ?_) (fun cdv A outer s H vs Q E hr h => ?_)
  · obtain ⟨o, wl, sd, sv, sh, st, rfl, _⟩ := h; rfl
  obtain ⟨o, wl, sd, sv, sh, st, rfl, hS, q⟩ := h
  refine ⟨_, (pss_one (ps_ret (pe_fld (pv 0) rfl))), ?_⟩
  obtain ⟨dx, rv, ho, hrv⟩ := hS.ob
  walk_at "wq"
  exact ⟨C, dx, _, ho, T.cl, T.n5, _, rfl, q _ hrv⟩
theorem ok_sinit (F : Fun K "__init__" "Search.__init__" s_Search___init f fd) (B : Blt mg) (T : SrC K mg C CB) (D : SrM mg) (c_role_of : Cal P w K mg base CX0 1 "role_of" spRoleOf) : FnOk P w K mg base CX0 2 f fd ["self", "charter", "shelf", "path"] (spSInit C) := by
  refine F.ok sc_Search___init (fun vs H Q E h => ?_) (fun cdv A outer s H vs Q E hr h => ?_)
  · obtain ⟨o, dx, cv, sv, ch, sh, z, rfl, _⟩ := h; rfl
  obtain ⟨o, dx, cv, sv, ch, sh, z, rfl, ho, rc, ic, oc, pc, rs, hsh, lz, q⟩ := h
  refine ⟨_, (C8.pss_cut (ps_fld (pv 0) (pv 2) rfl)
    (C8.pss_cut (ps_fld (pv 0) (pv 3) rfl)
    (C8.pss_cut (ps_fld (pv 0) (pe_lst (pa_cons (pe_tup (pa_cons (pe_cSE D.c_TOP_LIST) (pa_cons (c_role_of.pe hr (pa_cons (pv 1) (pa_cons pe_str pa_nil))) pa_nil))) pa_nil)) rfl)
    (C8.pss_cut (ps_fld (pv 0) pe_dnewK rfl)
    (pss_one (ps_fld (pv 0) pe_non rfl)))))), ?_⟩
  have m : o ∈ [o] := List.mem_singleton.mpr rfl
  refine ⟨fun σ H' => σ = [some (.ref o), some cv, some sv, some (.str z)] ∧ H' o = some (.ins C dx [("_shelf", sv)]) ∧ Kp [o] H H', ?_, fun σ H1 ⟨hσ, e1, k1⟩ => ?_⟩
  · walk_at "wq"
    exact ⟨C, dx, _, ho, T.cl, T.n1, (by show 0 < 1000; decide), rfl, Kp.insT ho m⟩
  subst hσ
  refine ⟨fun σ H' => σ = [some (.ref o), some cv, some sv, some (.str z)] ∧ H' o = some (.ins C dx [("_shelf", sv), ("_path", .str z)]) ∧ Kp [o] H1 H', ?_, fun σ H2 ⟨hσ, e2, k2⟩ => ?_⟩
  · walk_at "wq"
    exact ⟨C, dx, _, e1, T.cl, T.n2, (by show 1 < 1000; decide), rfl, Kp.insT e1 m⟩
  subst hσ
  refine ⟨fun σ H' => ∃ (wl : Addr) (vs : List V), σ = [some (.ref o), some cv, some sv, some (.str z)] ∧ H2 wl = none ∧ H' wl = some (.lst vs) ∧ RqA H' vs [rowW (Str.ofString "list", rlD ch 3)] ∧ H' o = some (.ins C dx [("_shelf", sv), ("_path", .str z), ("_waiting", .ref wl)]) ∧ Kp [o] H2 H', ?_, fun σ H3 ⟨wl, vs, hσ, w3, ew, rw3, e3, k3⟩ => ?_⟩
  · walk_at "wq"
    have lim : sizeLine = 16777216 := sizeLine_eq
    refine ⟨cv, ch, _, 3, rfl, (rc.pure (k1.trans k2) pc), ic, rfl, fun u ru => ⟨by omega, fun p hp => ⟨by omega, fun wl hw => ?_⟩⟩⟩
    have np : o ≠ p := fun e => by rw [← e, e2] at hp; cases hp
    have hw2 : H2 wl = none := by
      by_cases e : wl = p
      · rw [e]; exact hp
      · rw [upd_ne e] at hw; exact hw
    have nw : o ≠ wl := fun e => by rw [← e, e2] at hw2; cases hw2
    have npw : p ≠ wl := fun e => by rw [← e, upd_same] at hw; cases hw
    have a1 : Kp [o] H2 (upd H2 p (.tup [.str "list", u])) := Kp.new hp _
    have a2 := a1.trans (Kp.new hw (.lst [.ref p]))
    have e2' : upd (upd H2 p (.tup [.str "list", u])) wl (.lst [.ref p]) o = some (.ins C dx [("_shelf", sv), ("_path", .str z)]) := by rw [upd_ne nw, upd_ne np]; exact e2
    have a3 := a2.trans (Kp.insT (dy := dx) (gs := putF "_waiting" (.ref wl) [("_shelf", sv), ("_path", .str z)]) e2' m)
    have ep : upd (upd (upd H2 p (.tup [.str "list", u])) wl (.lst [.ref p])) o (.ins C dx (putF "_waiting" (.ref wl) [("_shelf", sv), ("_path", .str z)])) p = some (.tup [.str "list", u]) := by rw [upd_ne np.symm, upd_ne npw, upd_same]
    refine ⟨C, dx, _, e2', T.cl, T.n3, (by show 2 < 1000; decide), wl, hw2, [.ref p], ?_, ?_, rfl, a3⟩
    · rw [upd_ne nw.symm, upd_same]
    · refine .cons (.tup ep (.cons (.str _) (.cons (ru.pure a3 ?_) .nil))) .nil
      exact pur_ix (pur_ix pc (ch_tup ic) (i := 3) (by omega)) (ch_rls ic) (by omega)
  subst hσ
  refine ⟨fun σ H' => ∃ sd : Addr, σ = [some (.ref o), some cv, some sv, some (.str z)] ∧ H3 sd = none ∧ H' sd = some (.dK []) ∧ H' o = some (.ins C dx [("_shelf", sv), ("_path", .str z), ("_waiting", .ref wl), ("_seen", .ref sd)]) ∧ Kp [o] H3 H', ?_, fun σ H4 ⟨sd, hσ, s4, es, e4, k4⟩ => ?_⟩
  · walk_at "wq"
    intro p hp
    have np : o ≠ p := fun e => by rw [← e, e3] at hp; cases hp
    have e3' : upd H3 p (.dK []) o = some (.ins C dx [("_shelf", sv), ("_path", .str z), ("_waiting", .ref wl)]) := by rw [upd_ne np]; exact e3
    exact ⟨C, dx, _, e3', T.cl, T.n4, (by show 3 < 1000; decide), p, hp, by rw [upd_ne np.symm, upd_same], rfl, (Kp.new hp _).trans (Kp.insT e3' m)⟩
  subst hσ
  walk_at "wq"
  refine ⟨C, dx, _, e4, T.cl, T.n5, (by show 4 < 1000; decide), ?_⟩
  have k5 := Kp.insT (dy := dx) (gs := putF "_result" V.non [("_shelf", sv), ("_path", .str z), ("_waiting", .ref wl), ("_seen", .ref sd)]) e4 m
  have K1 := ((k1.trans k2).trans k3).trans (k4.trans k5)
  have n1 : wl ≠ o := fun e => by rw [e, e2] at w3; cases w3
  have n2 : sd ≠ o := fun e => by rw [e, e3] at s4; cases s4
  have pr : purD (rlD ch 3) = true ∧ okD 12 (rlD ch 3) = true := ⟨pur_ix (pur_ix pc (ch_tup ic) (i := 3) (by omega)) (ch_rls ic) (by omega), ok_mono 10 12 _ (by decide) (ok_ix (ok_ix oc (ch_tup ic) (i := 3) (by omega)) (ch_rls ic) (by omega))⟩
  have g : ∀ {b : Addr} {G : Hp}, Kp [o] H G → G o ≠ none → G b = none → H b = none := fun k n h => k.gone1 (fun b mb => by rw [List.mem_singleton.mp mb]; exact n) h
  refine q wl sd _ (g (k1.trans k2) (by rw [e2]; simp) w3) (g ((k1.trans k2).trans k3) (by rw [e3]; simp) s4) n1 n2 K1 ⟨⟨dx, .non, upd_same, .non⟩, ⟨vs, ?_, ?_⟩, ?_, rs.pure K1 hsh.pur, hsh, ⟨lz, by show 1 ≤ 2000; decide, fun p mp => ?_, by show 0 ≤ 1000; decide, rfl, .inl rfl⟩⟩
  · exact (k4.trans k5).keep _ _ (by simpa using n1) ew
  · exact rw3.pure (k4.trans k5) (pur_rows (l := [(Str.ofString "list", rlD ch 3)]) fun p mp => by rw [List.mem_singleton.mp mp]; exact pr.1)
  · exact k5.keep _ _ (by simpa using n2) es
  · rw [List.mem_singleton.mp mp]
    exact ⟨okD_str.mpr ⟨by show (Str.ofString "list").length ≤ 200000; decide, strOk_low (by show ∀ c ∈ (Str.ofString "list").cps.toList, c < 128; decide)⟩, pr.2, pr.1⟩
theorem ok_sleads (F : Fun K "_leads_on" "Search._leads_on" s_Search__leads_on f fd) (B : Blt mg) (T : SrC K mg C CB) (c_entry_of : Cal P w K mg base CX0 2 "entry_of" (spOf 3)) (c_covers : Cal P w K mg base CX0 6 "covers" (spCovers Ts)) : FnOk P w K mg base CX0 7 f fd ["self", "grant"] (spSLead C Ts) := by
  refine F.ok sc_Search__leads_on (fun vs H Q E h => ?_) (fun cdv A outer s H vs Q E hr h => ?_)
  · obtain ⟨o, wl, sd, sv, sh, st, v, g, rfl, _⟩ := h; rfl
  obtain ⟨o, wl, sd, sv, sh, st, v, g, rfl, hS, hR, hg, hG, q⟩ := h
  refine ⟨_, (pss_cons (ps_set (i := 2) sc_Search__leads_on.nd rfl (Or.inl rfl) (pe_ix ix_tM (pv 1) pe_int (fun _ _ => rfl)))
    (pss_cons (ps_if (PW.pt (pw_or (pt_cmp (pc_din (hu_of hr) (pv 2) (pe_fld (pv 0) rfl))) (pw_or1 (pt_cmpR op_isN (c_entry_of.pe hr (pa_cons (pe_fld (pv 0) rfl) (pa_cons (pv 2) pa_nil))) pe_non (nomark _))))) (pss_one (ps_ret pe_bl)) pss_nil)
    (pss_one (ps_ret (c_covers.pe hr (pa_cons (pv 1) (pa_cons (pe_fld (pv 0) rfl) pa_nil))))))), ?_⟩
  obtain ⟨dx, rv, ho, hrv⟩ := hS.ob
  obtain ⟨p, pt, z, x1, d1, ps, la, rfl, ep, rfl, r1, ept, lps, lz, ir⟩ := grant4 hR hg
  obtain ⟨a, us, rfl, ea, _, _, x, hx, rx⟩ := hS.shf.part hS.shr.t (i := 3) (by omega)
  obtain ⟨b, ys, ds, rfl, eb, eds, rr, _, _⟩ := tupB_of rx hS.shr.r
  have hd := hS.shr.hd
  unfold leadsF at q
  rw [show strD (ixD (.tuple [.str z, d1, .tuple (ps.map PyData.str), .int la]) 0) = z from rfl, show patsD (.tuple [.str z, d1, .tuple (ps.map PyData.str), .int la]) = (ps.map PyData.str).map strD from rfl, map_strD, eds, show itD (.tuple ds) = ds from rfl] at q
  rw [eds, show itD (.tuple ds) = ds from rfl] at hd
  walk_at "wq"
  refine ⟨_, ep, _, at0, C, dx, _, ho, T.cl, T.n4, _, rfl, sd, rfl, _, DGet.k (k := Sum.inr z) hS.sn, ?_⟩
  rw [seenK_has]
  by_cases c : z ∈ st.seen
  · rw [decide_eq_true c] at q ⊢
    exact if_yes rfl (q H (Kp.refl _ _) hG)
  rw [decide_eq_false c] at q ⊢
  refine if_no (by simp) ⟨C, dx, _, ho, T.cl, T.n1, _, rfl, a, b, us, ys, ds, z, rfl, ea, hx, eb, rr, hd, fun v H' rv k => ?_⟩
  cases nb : noneB (rowD z ds) with
  | true =>
    rw [nb] at q
    exact if_yes ((rq_non rv).mpr nb) (q H' k.in0 (hG.kp0 k))
  | false =>
    rw [nb] at q
    refine if_no (fun e => by rw [(rq_non rv).mp e] at nb; cases nb) ⟨C, dx, _, k.keep _ _ List.not_mem_nil ho, T.cl, T.n2, _, rfl, ?_⟩
    exact ⟨p, pt, .str z, x1, .int la, ps, st.path, rfl, k.keep _ _ List.not_mem_nil ep, k.keep _ _ List.not_mem_nil ept, lps, hS.sm.path, hG.kp0 k, fun H2 k2 g2 => q H2 (k.in0.trans k2) g2⟩
theorem ok_sfollow (F : Fun K "_follow" "Search._follow" s_Search__follow f fd) (B : Blt mg) (T : SrC K mg C CB) (m_Search_leads_on : CalM P w K mg base CX0 7 C "_leads_on" (spSLead C Ts)) : FnOk P w K mg base CX0 8 f fd ["self", "grants"] (spSFol C Ts) := by
  refine F.ok sc_Search__follow (fun vs H Q E h => ?_) (fun cdv A outer s H vs Q E hr h => ?_)
  · obtain ⟨o, wl, sd, sv, sh, st, b, xs, gs, rfl, _⟩ := h; rfl
  obtain ⟨o, wl, sd, sv, sh, st, b, xs, gs, rfl, hS, eb, rg, hg, lg, ok, lw, hG, q⟩ := h
  refine ⟨_, (pss_cons (ps_set (i := 2) sc_Search__follow.nd rfl (Or.inl rfl) (pe_lst pa_nil))
    (pss_cons (ps_set (i := 3) sc_Search__follow.nd rfl (Or.inl rfl) (pe_fld (pv 0) rfl))
    (pss_cons (ps_for PassesOwn.never rfl (pi_tup (pv 1)) (pg_name (i := 4) sc_Search__follow.nd rfl (Or.inl rfl)) (pss_cons (ps_if (pt_not (pt_val (m_Search_leads_on.pe hr (pv 0) (pa_cons (pv 4) pa_nil)))) (pss_one ps_continue) pss_nil)
    (pss_cons (ps_asg (pv 4) (pg_tup rfl (pgs_cons (pg_name (i := 5) sc_Search__follow.nd rfl (Or.inl rfl)) (pgs_cons (pg_name (i := 6) sc_Search__follow.nd rfl (Or.inl rfl)) (pgs_cons (pg_name (i := 7) sc_Search__follow.nd rfl (Or.inl rfl)) (pgs_cons (pg_name (i := 8) sc_Search__follow.nd rfl (Or.inl rfl)) pgs_nil))))))
    (pss_cons (ps_expr (pe_bm PySem.F.plainAttrs_list PySem.F.slot_list_append PySem.F.type_list_append mt_append (pv 2) (pa_cons (pe_tup (pa_cons (pv 5) (pa_cons (pv 6) pa_nil))) pa_nil)))
    (pss_one (ps_if (pt_cmpR op_eq (pv 8) pe_int (nomark _)) (pss_cons (ps_set (i := 3) sc_Search__follow.nd rfl (Or.inl rfl) (pe_lst pa_nil))
    (pss_one ps_break)) pss_nil))))))
    (pss_one (ps_fld (pv 0) (pe_lc (own := [("row", 9)]) (g := gName 9) (tt := _) rfl sc_Search__follow.nd (pi_list (pe_op op_cat (pv 2) (pv 3))) (blkOk_by (own := [("row", 9)]) (N := N_Search__follow) (sc := defScope s_Search__follow) (by decide +kernel)) (fun _ _ _ _ _ => pg_name (i := 9) sc_Search__follow.nd rfl (Or.inl rfl)) (fun _ _ _ _ _ => pts_one (pt_cmp (pc_dnotin (by exact hu_of hr) (pe_ix ix_tM (pv 9) pe_int (fun _ _ => rfl)) (show PE _ _ (tFld K (tVar 0) "_seen") from pe_fld (pv 0) rfl)))) (fun _ _ _ _ _ => (pv 9))) rfl))))), ?_⟩
  obtain ⟨dx, rv, ho, hrv⟩ := hS.ob
  obtain ⟨vw, ew, rw_⟩ := hS.wt
  walk_at "wq"
  have lim : sizeLine = 16777216 := sizeLine_eq
  refine ⟨by omega, fun wr hw => ?_⟩
  have no : o ≠ wr := fun e => by rw [← e, ho] at hw; cases hw
  have k0 : Kp (o :: Ts) H (upd H wr (.lst [])) := Kp.new hw _
  refine ⟨C, dx, _, by rw [upd_ne no]; exact ho, T.cl, T.n3, _, rfl, ?_⟩
  have eb0 : ∀ {G : Hp}, Kp Ts H G → G b = some (.tup xs) := fun k => k.tup _ _ eb
  have mem2 : ∀ {es : List PyData}, (∀ g ∈ es, g ∈ gs) → ∀ p ∈ (folF sh st es).1, okD 12 (.str p.1) = true ∧ okD 12 p.2 = true ∧ purD p.2 = true := fun hs p mp => by
    obtain ⟨g, mg, rfl⟩ := folF_mem sh st mp
    have ig := List.all_eq_true.mp hg g (hs g mg)
    obtain ⟨og, pg⟩ := ok g (hs g mg)
    unfold isGrant at ig
    simp only [Bool.and_eq_true] at ig
    refine ⟨?_, ok_mono 11 12 _ (by decide) (ok_ix og ig.1 (by omega)), pur_ix pg ig.1 (by omega)⟩
    have h2 := ig.2.1
    have o2 := ok_mono 11 12 _ (by decide) (ok_ix og ig.1 (i := 0) (by omega))
    generalize ixD g 0 = y at h2 o2 ⊢
    cases y with
    | str z => exact o2
    | _ => cases h2
  have fin : ∀ (wb : Addr) (vb : List V) (bh ad : List (Str × PyData)) (vs : List V) (o4 o5 o6 o7 o8 o9 : Option V) (H1 : Hp), Kp Ts H H1 → Tabs Ts H1 → H1 wr = some (.lst vs) → RqA H1 vs (ad.map rowW) → H1 wb = some (.lst vb) → RqA H1 vb (bh.map rowW) →
      (∀ p ∈ ad ++ bh, okD 12 (.str p.1) = true ∧ okD 12 p.2 = true ∧ purD p.2 = true) → (ad ++ bh).length ≤ 2000 → { st with wait := (ad ++ bh).filter fun p => !decide (p.1 ∈ st.seen) } = st.fol sh gs →
      tLc (iList K (tOp rCat (tVar 2) (tVar 3))) (gName 9) (tB (tDNotIn (tOp (fun x y H Q => ∃ p, x = V.ref p ∧ ∃ xs, H p = some (HO.tup xs) ∧ ∃ i, y = V.int i ∧ ∃ u, atI xs i = some u ∧ Q u H) (tVar 9) (tC (V.int 0))) (tFld K (tVar 0) (Str.ofString "_seen")))) (tVar 9) [9] [some (V.ref o), some (V.ref b), some (V.ref wr), some (V.ref wb), o4, o5, o6, o7, o8, o9] H1
        fun y H1 => ∃ x x_1 x_2, H1 o = some (HO.ins x x_1 x_2) ∧ Cls K x ∧ NoAttr K x (Str.ofString "_waiting") ∧ x_2.length < 1000 ∧ Q V.non (upd H1 o (HO.ins x x_1 (putF (Str.ofString "_waiting") y x_2))) :=
    fun wb vb bh ad vs o4 o5 o6 o7 o8 o9 H1 k1 g1 ew1 rw1 eb1 rb1 sm1 ln1 e1 => by
      have S1 := hS.tabs k1 hG
      obtain ⟨dx1, rv1, ho1, hrv1⟩ := S1.ob
      have len1 := rw1.len
      have len2 := rb1.len
      rw [List.length_map] at len1 len2
      rw [List.length_append] at ln1
      have pur1 : purDs ((ad ++ bh).map rowW) = true := pur_rows fun p mp => (sm1 p mp).2.2
      refine lc_rows (vs := vs ++ vb) (l := ad ++ bh) (fun p => !decide (p.1 ∈ st.seen)) (by rw [List.map_append]; exact rqa_app rw1 rb1) pur1 (by rw [List.length_append]; omega) (fun R h => ?_) (fun x => rfl) (fun p x H2 R mp k2 rx h => ?_) (fun x H2 R h => ?_) (fun D us H2 eD rD k2 hD => ?_)
      · exact ⟨_, rfl, _, rfl, wr, wb, vs, vb, rfl, rfl, ew1, eb1, by omega, fun r hr => h r hr⟩
      · have S2 := S1.kp0 k2
        obtain ⟨dx2, rv2, ho2, hrv2⟩ := S2.ob
        obtain ⟨pn, pr⟩ := p
        cases rx with
        | @tup a xs2 es2 ea ra =>
          cases ra with
          | cons a1 a2 =>
            cases a1
            walk_at "wq"
            refine ⟨_, rfl, a, rfl, _, ea, _, at0, _, rfl, o, rfl, C, dx2, _, ho2, T.cl, T.n4, _, rfl, sd, rfl, _, DGet.k (k := Sum.inr pn) S2.sn, ?_⟩
            rw [seenK_has]
            exact h
      · walk_at "wq"
        exact ⟨_, rfl, h⟩
      · have S2 := S1.kp0 k2
        obtain ⟨dx2, rv2, ho2, hrv2⟩ := S2.ob
        have m : o ∈ o :: Ts := List.mem_cons_self
        have k3 := Kp.insT (dy := dx2) (gs := srF sv D sd rv2 (st.fol sh gs)) ho2 m
        have nD : D ≠ o := fun e => by rw [e, ho1] at hD; cases hD
        have nDs : D ≠ sd := fun e => by rw [e, S1.sn] at hD; cases hD
        have hD0 : H D = none := k1.gone g1 hD
        have K1 : Kp (o :: Ts) H (upd H2 o (.ins C dx2 (srF sv D sd rv2 (st.fol sh gs)))) := ((k1.mono fun b mb => List.mem_cons_of_mem _ mb).trans k2.in0).trans k3
        have pf : purDs (((ad ++ bh).filter fun p => !decide (p.1 ∈ st.seen)).map rowW) = true := pur_rows fun p mp => (sm1 p (List.mem_filter.mp mp).1).2.2
        have k3' : Kp [o] H2 (upd H2 o (.ins C dx2 (srF sv D sd rv2 (st.fol sh gs)))) := Kp.insT ho2 (List.mem_singleton.mpr rfl)
        refine ⟨C, dx2, _, ho2, T.cl, T.n3, (by show 5 < 1000; decide), ?_⟩
        refine q D _ hD0 nD nDs K1 ((g1.kp0 k2).kp k3' fun P mP mo => absurd mP (by rw [List.mem_singleton.mp mo]; exact (g1.kp0 k2).ne ho2)) ⟨⟨dx2, rv2, upd_same, ?_⟩, ⟨us, ?_, ?_⟩, ?_, S2.shf.pure k3' S2.shr.pur, S2.shr, ?_⟩
        · rw [← e1]; exact hrv2.pure k3' S2.sm.rp
        · exact k3'.keep _ _ (by simpa using nD) eD
        · rw [← e1]; exact rD.pure k3' pf
        · rw [← e1]; exact k3'.keep _ _ (by simpa using fun e : sd = o => by have := S2.sn; rw [e, ho2] at this; cases this) S2.sn
        · rw [← e1]
          exact ⟨hS.sm.path, by have := List.length_filter_le (fun p : Str × PyData => !decide (p.1 ∈ st.seen)) (ad ++ bh); rw [List.length_append] at this; exact Nat.le_trans this ln1, fun p mp => sm1 p (List.mem_filter.mp mp).1, hS.sm.sn, hS.sm.rp, hS.sm.rt⟩
  refine ⟨_, rfl, b, rfl, ⟨xs, SqT.of (eb0 (Kp.new hw _))⟩, ?_⟩
  refine for_tup (K := K) (a := b) (xs := xs) (fun i σ H' => (∃ o4 o5 o6 o7 o8 o9 : Option V, σ = [some (.ref o), some (.ref b), some (.ref wr), some (.ref wl), o4, o5, o6, o7, o8, o9]) ∧ Kp Ts H H' ∧ Tabs Ts H' ∧ (∃ vs, H' wr = some (.lst vs) ∧ RqA H' vs ((folF sh st (gs.take i)).1.map rowW)) ∧ (folF sh st (gs.take i)).2 = false)
    ⟨⟨_, _, _, _, _, _, rfl⟩, Kp.new hw _, hG.new hw _, ⟨[], upd_same, .nil⟩, rfl⟩ (fun i σ H' _ ⟨_, k, _, _⟩ => SqT.of (eb0 k)) (fun i x σ H1 hx ⟨⟨o4, o5, o6, o7, o8, o9, hσ⟩, k1, g1, ⟨vs, e1, r1⟩, f1⟩ => ?_) (fun σ H1 ⟨⟨o4, o5, o6, o7, o8, o9, hσ⟩, k1, g1, ⟨vs, e1, r1⟩, f1⟩ => ?_)
  · subst hσ
    obtain ⟨g, hgi, Rg⟩ := rg.get hx
    have mg := List.mem_of_getElem? hgi
    have li := (List.getElem?_eq_some_iff.mp hgi).1
    have ig := List.all_eq_true.mp hg g mg
    have tk : gs.take (i + 1) = gs.take i ++ [g] := by rw [List.take_add_one, hgi]; rfl
    have ap := folF_app sh st [g] _ f1
    have S1 := hS.tabs k1 hG
    obtain ⟨dx1, rv1, ho1, _⟩ := S1.ob
    have Rg1 := Rg.pure k1 (ok g mg).2
    walk_at "wq"
    refine ⟨dx1, _, ho1, rfl, o, wl, sd, sv, sh, st, x, g, rfl, S1, Rg1, ig, g1, fun H2 k2 g2 => ⟨_, rfl, ?_⟩⟩
    have e1' := k2.keep wr _ (g1.ne e1) e1
    have pf : purDs ((folF sh st (gs.take i)).1.map rowW) = true := pur_rows fun p mp => (mem2 (fun x m => List.mem_of_mem_take m) p mp).2.2
    have r1' := r1.pure k2 pf
    cases hb : leadsF sh st g with
    | false =>
      refine if_yes rfl ⟨⟨_, _, _, _, _, _, rfl⟩, k1.trans k2, g2, ⟨vs, e1', ?_⟩, ?_⟩
      all_goals (rw [tk, ap, show folF sh st [g] = ([], false) by show (if leadsF sh st g = true then _ else _) = _; rw [hb]; rfl])
      · rw [List.append_nil]; exact r1'
    | true =>
      obtain ⟨p, pt, z, x1, d1, ps, la, rfl, ep, rfl, R1, ept, lps, lz, ir⟩ := grant4 (Rg1.pure k2 (ok g mg).2) ig
      refine if_no (by simp) ⟨p, _, rfl, SqT.of ep, rfl, ?_⟩
      walk_at "wq"
      refine ⟨.inl ⟨rfl, vs, SqL.of e1'⟩, by omega, fun p1 hp1 => ?_⟩
      have n1 : wr ≠ p1 := ne_of_none e1' hp1
      have lv : vs.length ≤ i := by
        have := r1.len
        have h2 := folF_len sh st (gs.take i)
        rw [List.length_map] at this
        rw [List.length_take] at h2
        omega
      have a1 : Kp Ts H2 (upd H2 p1 (.tup [.str z, x1])) := Kp.new hp1 _
      have e1'' : upd H2 p1 (.tup [.str z, x1]) wr = some (.lst vs) := by rw [upd_ne n1]; exact e1'
      have k12 := k1.trans (k2.trans a1)
      have kw : Kp [wr] (upd H2 p1 (.tup [.str z, x1])) (upd (upd H2 p1 (.tup [.str z, x1])) wr (.lst (vs ++ [.ref p1]))) := Kp.lst e1'' (List.mem_singleton.mpr rfl)
      have k3 := k12.upd hw e1'' (ys := vs ++ [.ref p1])
      have g3 : Tabs Ts (upd (upd H2 p1 (.tup [.str z, x1])) wr (.lst (vs ++ [.ref p1]))) := (g2.new hp1 _).kp kw fun P mP mo => absurd mP (by rw [List.mem_singleton.mp mo]; exact g2.ne e1')
      have row : strD (ixD (.tuple [.str z, d1, .tuple (ps.map PyData.str), .int la]) 0) = z := rfl
      have pd1 : purD d1 = true := by have := purD_tup.mp (ok _ mg).2 d1 (by simp); exact this
      have nr := (Kp.new (S := []) hp1 (.tup [.str z, x1]))
      have ep1 : upd (upd H2 p1 (.tup [.str z, x1])) wr (.lst (vs ++ [.ref p1])) p1 = some (.tup [.str z, x1]) := by rw [upd_ne n1.symm, upd_same]
      have Rrow : Rq (upd (upd H2 p1 (.tup [.str z, x1])) wr (.lst (vs ++ [.ref p1]))) (.ref p1) (rowW (z, d1)) := .tup ep1 (.cons (.str _) (.cons ((R1.kp0 nr).pure kw pd1) .nil))
      have Rall : RqA (upd (upd H2 p1 (.tup [.str z, x1])) wr (.lst (vs ++ [.ref p1]))) (vs ++ [.ref p1]) (((folF sh st (gs.take i)).1 ++ [(z, d1)]).map rowW) := by
        rw [List.map_append]
        exact rqa_app ((r1'.kp0 nr).pure kw pf) (.cons Rrow .nil)
      refine ⟨vs, e1'', by omega, ?_⟩
      split
      · rename_i c
        subst c
        refine ⟨by omega, fun p2 hp2 => ?_⟩
        have e2 : folF sh st [.tuple [.str z, d1, .tuple (ps.map PyData.str), .int 1]] = ([(z, d1)], true) := by
          show (if leadsF sh st _ = true then (if oneB (.int 1) = true then _ else _) else _) = _
          rw [if_pos hb, if_pos (show oneB (.int 1) = true from rfl)]; rfl
        have gsp : gs = gs.take i ++ (.tuple [.str z, d1, .tuple (ps.map PyData.str), .int 1] :: gs.drop (i + 1)) := by
          have h1 := List.getElem?_eq_some_iff.mp hgi
          conv => lhs; rw [← List.take_append_drop i gs, List.drop_eq_getElem_cons h1.1, h1.2]
        have e3 : ∀ es, folF sh st (.tuple [.str z, d1, .tuple (ps.map PyData.str), .int 1] :: es) = ([(z, d1)], true) := fun es => by
          show (if leadsF sh st _ = true then (if oneB (.int 1) = true then _ else _) else _) = _
          rw [if_pos hb, if_pos (show oneB (.int 1) = true from rfl)]; rfl
        have eall : folF sh st gs = ((folF sh st (gs.take i)).1 ++ [(z, d1)], true) := by
          rw [gsp, folF_app sh st _ _ f1, e3, ← gsp]
        have n2 : wr ≠ p2 := fun e => by rw [← e, upd_same] at hp2; cases hp2
        have k4 : Kp [] _ (upd (upd (upd H2 p1 (.tup [.str z, x1])) wr (.lst (vs ++ [.ref p1]))) p2 (.lst [])) := Kp.new hp2 _
        have := fin p2 [] [] ((folF sh st (gs.take i)).1 ++ [(z, d1)]) (vs ++ [.ref p1]) (some (.ref p)) (some (.str z)) (some x1) (some (.ref pt)) (some (.int 1)) o9 _ (k3.trans k4.in0) (g3.kp0 k4) (by rw [upd_ne n2]; exact upd_same) (Rall.kp0 k4) upd_same .nil (fun q mq => ?_) ?_ ?_
        · simp only [tBreak]
          walk_at "wq"
          exact this
        · rw [List.append_nil] at mq
          rw [show (folF sh st (gs.take i)).1 ++ [(z, d1)] = (folF sh st gs).1 by rw [eall]] at mq
          exact mem2 (fun x m => m) q mq
        · have := folF_len sh st gs
          rw [eall] at this
          rw [List.append_nil]; exact Nat.le_trans this (by omega)
        · unfold Sst.fol
          rw [eall, if_pos rfl]
      · rename_i c
        have ne1 : oneB (.int la) = false := decide_eq_false c
        have e2 : folF sh st [.tuple [.str z, d1, .tuple (ps.map PyData.str), .int la]] = ([(z, d1)], false) := by
          show (if leadsF sh st _ = true then (if oneB (.int la) = true then _ else _) else _) = _
          rw [if_pos hb, ne1, if_neg (by decide)]; rfl
        rw [tk, ap, e2]
        exact ⟨⟨_, rfl⟩, k3, g3, Rall, rfl⟩
  · subst hσ
    rw [rg.len, List.take_length] at r1 f1
    walk_at "wq"
    have S1 := hS.tabs k1 hG
    obtain ⟨vw, ew1, rw1⟩ := S1.wt
    refine fin wl vw st.wait (folF sh st gs).1 vs o4 o5 o6 o7 o8 o9 H1 k1 g1 e1 r1 ew1 rw1 (fun p mp => ?_) ?_ ?_
    · rcases List.mem_append.mp mp with mp | mp
      · exact mem2 (fun x m => m) p mp
      · exact hS.sm.wt p mp
    · have := folF_len sh st gs
      rw [List.length_append]; omega
    · unfold Sst.fol
      rw [f1, if_neg (by decide)]
theorem ok_sgive (F : Fun K "give" "Search.give" s_Search_give f fd) (B : Blt mg) (T : SrC K mg C CB) (D : SrM mg) (c_is_list : Cal P w K mg base CX0 15 "is_list" (spDoc isList Ts)) (c_good_of : Cal P w K mg base CX0 2 "good_of" (spOf 4)) (m_Search_follow : CalM P w K mg base CX0 8 C "_follow" (spSFol C Ts)) : FnOk P w K mg base (L2.CX P w) 16 f fd ["self", "document"] (spSGive C CB Ts) := by
  refine F.okX sc_Search_give (fun vs H Q E h => ?_) (fun cdv A outer s H vs Q E hr h => ?_)
  · obtain ⟨o, wl, sd, sv, sh, st, v, d, rfl, _⟩ := h; rfl
  obtain ⟨o, wl, sd, sv, sh, st, v, d, rfl, hS, hn, hR, od, pd0, hG, q, qe⟩ := h
  refine ⟨_, (pss_cons (ps_if (pt_cmpR op_notN (pe_fld (pv 0) rfl) pe_non (nomark _)) (pss_one (T.BadState.raise (takes_of rfl rfl rfl rfl))) pss_nil)
    (pss_cons (ps_asg (pe_ix ix_lM (pe_fld (pv 0) rfl) pe_int (fun _ _ => rfl)) (pg_tup rfl (pgs_cons (pg_name (i := 2) sc_Search_give.nd rfl (Or.inl rfl)) (pgs_cons (pg_name (i := 3) sc_Search_give.nd rfl (Or.inl rfl)) pgs_nil))))
    (pss_cons (ps_if (PW.pt (pw_or (pt_not (pt_val (c_is_list.pe hr (pa_cons (pv 1) pa_nil)))) (pw_or1 (pt_cmpR (op_neD hr.units) (pe_ix ix_seq (pv 1) pe_int (fun _ _ => rfl)) (pv 2) (nomark _))))) (pss_one (T.BadState.raise (takes_of rfl rfl rfl rfl))) pss_nil)
    (pss_cons (ps_dput (hu_of hr) (pe_fld (pv 0) rfl) (pv 2) pe_bl rfl)
    (pss_cons (ps_set (i := 4) sc_Search_give.nd rfl (Or.inl rfl) (c_good_of.pe hr (pa_cons (pv 1) (pa_cons (pe_fld (pv 0) rfl) pa_nil))))
    (pss_cons (ps_if (pt_cmpR op_notN (pv 4) pe_non (nomark _)) (pss_cons (ps_fld (pv 0) (pe_op op_catT (pe_tup (pa_cons pe_str (pa_cons (pv 2) pa_nil))) (pv 4)) rfl)
    (pss_one ps_retN)) pss_nil)
    (pss_cons (ps_expr (m_Search_follow.pe hr (pv 0) (pa_cons (pe_ix ix_seq (pv 1) pe_int (fun _ _ => rfl)) pa_nil)))
    (pss_one (ps_if (PW.pt (pw_or (pt_cmpR (op_eqD hr.units) (pe_fld (pv 0) rfl) (pe_lst pa_nil) (nomark _)) (pw_or1 (pt_cmpR op_ge (len_dK B (pa_cons (pe_fld (pv 0) rfl) pa_nil)) (pe_cE D.c_MOST_LISTS) (nomark _))))) (pss_one (ps_fld (pv 0) (pe_tup (pa_cons pe_str pa_nil)) rfl)) pss_nil))))))))), ?_⟩
  obtain ⟨dx, rv, ho, hrv⟩ := hS.ob
  obtain ⟨vw, ew, rw_⟩ := hS.wt
  have lim : sizeLine = 16777216 := sizeLine_eq
  walk_at "wq"
  refine ⟨C, dx, _, ho, T.cl, T.n5, _, rfl, ?_⟩
  rcases hS.sm.rt with er | ⟨rs, er⟩
  rotate_left
  · rw [er] at hrv
    cases hrv
    exact if_yes (by simp) (qe (fun h => by rw [er] at h; cases h.1) H (Kp.refl _ _) hG)
  have hrv0 := hrv
  rw [er] at hrv
  cases hrv
  refine if_no (by simp) ⟨C, dx, _, ho, T.cl, T.n3, _, rfl, wl, rfl, vw, ew, ?_⟩
  obtain ⟨ne, ns, lw, lsn⟩ := hn er
  obtain ⟨n, r0, l, hw⟩ : ∃ n r0 l, st.wait = (n, r0) :: l := by
    cases hw : st.wait with
    | nil => exact absurd hw ne
    | cons p l => exact ⟨p.1, p.2, l, rfl⟩
  have hhd : st.hd = (n, r0) := by unfold Sst.hd; rw [hw]; rfl
  have rw2 := rw_
  rw [hw] at rw2
  cases rw2 with
  | @cons y ys d0 ds0 a1 a2 =>
  cases a1 with
  | @tup p us es ep ra =>
  cases ra with
  | cons b1 b2 =>
  cases b1
  cases b2 with
  | cons b3 b4 =>
  cases b4
  refine ⟨_, at0, p, _, rfl, SqT.of ep, rfl, ?_⟩
  walk_at "wq"
  refine ⟨v, d, rfl, hR, od, hG, fun H1 k1 g1 => ⟨_, rfl, ?_⟩⟩
  cases il : isList d with
  | false => exact if_yes rfl (qe (fun h => by rw [il] at h; cases h.2.1) H1 k1 g1)
  | true =>
  refine if_no (by simp) ?_
  have pd := pd0 il
  obtain ⟨z, L⟩ := lsP il
  have R1 := hR.pure k1 pd
  obtain ⟨p6, xs6, rfl, e6, _, rr6, x1, hx1, rx1⟩ := R1.part L.t6 (i := 1) (by omega)
  rw [L.nm] at rx1
  cases rx1
  have on : okD 12 (.str n) = true := (hS.sm.wt (n, r0) (by rw [hw]; exact List.mem_cons_self)).1
  have oz : okD 11 (.str z) = true := by rw [← L.nm]; exact ok_ix od L.t6 (by omega)
  refine .inr (.inl ⟨p6, xs6, _, .str z, rfl, rfl, SqT.of e6, hx1, .str z, .str n, .str _, .str _, ok_shaped oz (by decide), ok_shaped on (by decide), _, rfl, ?_⟩)
  rw [show PyData.eqv (.str z) (.str n) = (z == n) from rfl]
  by_cases ezn : z = n
  rotate_left
  · exact if_yes (by simpa using ezn) (qe (fun h => by rw [L.nm, hhd] at h; exact ezn (PyData.str.inj h.2.2)) H1 k1 g1)
  subst ezn
  refine if_no (by simp) ?_
  have q := q er il (by rw [L.nm, hhd])
  have S1 := hS.tabs k1 hG
  obtain ⟨dx1, rv1, ho1, hrv1⟩ := S1.ob
  refine ⟨C, dx1, _, ho1, T.cl, T.n4, _, rfl, sd, rfl, _, DPut.k (k := Sum.inr z) S1.sn (by unfold seenK; rw [List.length_map]; omega), ?_⟩
  rw [hhd] at ns
  rw [seenK_put ns]
  have ksd : Kp [sd] H1 (upd H1 sd (.dK (seenK (st.seen ++ [z])))) := ⟨fun b u nb h => by rw [upd_ne (fun e => nb (by rw [e]; exact List.mem_singleton.mpr rfl))]; exact h, fun b us h => by rw [upd_ne (ne_of h S1.sn (by intro e; cases e))]; exact h⟩
  generalize hH2 : upd H1 sd (.dK (seenK (st.seen ++ [z]))) = H2 at ksd
  have esd : H2 sd = some (.dK (seenK (st.seen ++ [z]))) := by rw [← hH2]; exact upd_same
  have nos : o ≠ sd := fun e => by have := S1.sn; rw [← e, ho1] at this; cases this
  have S2 : Srs C o wl sd sv sh st.see H2 := by
    obtain ⟨vs1, ew1, rw1⟩ := S1.wt
    have nws : wl ≠ sd := fun e => by rw [e, S1.sn] at ew1; cases ew1
    refine ⟨⟨dx1, rv1, ksd.keep _ _ (by simpa using nos) ho1, hrv1.pure ksd S1.sm.rp⟩, ⟨vs1, ksd.keep _ _ (by simpa using nws) ew1, rw1.pure ksd (pur_rows fun p m => (S1.sm.wt p m).2.2)⟩, ?_, S1.shf.pure ksd S1.shr.pur, S1.shr, ⟨S1.sm.path, S1.sm.wl, S1.sm.wt, ?_, S1.sm.rp, S1.sm.rt⟩⟩
    · unfold Sst.see
      rw [hhd]; exact esd
    · unfold Sst.see
      show (st.seen ++ [st.hd.1]).length ≤ 1000
      rw [List.length_append, List.length_singleton]; omega
  have g2 : Tabs Ts H2 := g1.kp ksd fun P mP mo => absurd mP (by rw [List.mem_singleton.mp mo]; exact g1.ne S1.sn)
  have K2 : Kp (o :: sd :: Ts) H H2 := (k1.mono fun b m => List.mem_cons_of_mem _ (List.mem_cons_of_mem _ m)).trans (ksd.mono fun b m => by rw [List.mem_singleton.mp m]; exact List.mem_cons_of_mem _ List.mem_cons_self)
  have R2 := R1.pure ksd pd
  obtain ⟨dx2, rv2, ho2, hrv2⟩ := S2.ob
  obtain ⟨p6', xs7, ep7, e7, _, rr7, x4, hx4, rx4⟩ := R2.part L.t6 (i := 4) (by omega)
  cases ep7
  obtain ⟨b4, ys4, ds4, rfl, e4, ed4, r4, _, _⟩ := tupB_of rx4 L.g1
  have gg := L.g2
  rw [ed4, show itD (.tuple ds4) = ds4 from rfl] at gg
  have fnd : st.found d = rowD st.path ds4 := by unfold Sst.found; rw [ed4]; rfl
  refine ⟨C, dx2, _, ho2, T.cl, T.n2, _, rfl, p6, b4, xs7, ys4, ds4, st.path, rfl, e7, hx4, e4, r4, List.all_eq_true.mpr fun x m => (good_row (List.all_eq_true.mp gg x m)).1, fun u H3 ru k3 => ?_⟩
  rw [← fnd] at ru
  have S3 := S2.kp0 k3
  have g3 := g2.kp0 k3
  have K3 : Kp (o :: sd :: Ts) H H3 := K2.trans k3.in0
  obtain ⟨dx3, rv3, ho3, hrv3⟩ := S3.ob
  have m : o ∈ o :: sd :: Ts := List.mem_cons_self
  have give := q
  unfold Sst.give at q
  rcases row_good (z := st.path) gg with e | ⟨a, b, e⟩
  · -- not found
    rw [← fnd] at e
    rw [e] at ru
    rw [e, if_pos (show noneB .none = true from rfl)] at q
    cases ru
    refine if_no (by simp) ?_
    obtain ⟨p6', xs8, ep8, e8, _, rr8, x5, hx5, rx5⟩ := (R2.kp0 k3).part L.t6 (i := 5) (by omega)
    cases ep8
    obtain ⟨b5, ys5, ds5, rfl, e5, ed5, r5, _, l5⟩ := tupB_of rx5 L.r1
    have gr := L.r2
    rw [ed5, show itD (.tuple ds5) = ds5 from rfl] at gr q
    have o5 : okD 11 (.tuple ds5) = true := by rw [← ed5]; exact ok_ix od L.t6 (by omega)
    have p5 : purD (.tuple ds5) = true := by rw [← ed5]; exact pur_ix pd L.t6 (by omega)
    refine ⟨dx3, _, ho3, rfl, .inr (.inl ⟨p6, xs8, _, .ref b5, rfl, rfl, SqT.of e8, hx5, ?_⟩)⟩
    refine ⟨o, wl, sd, sv, sh, st.see, b5, ys5, ds5, rfl, S3, e5, r5, gr, l5, fun g mg => ⟨ok_mono 10 12 _ (by decide) ((okD_tup.mp o5).2 g mg), purD_tup.mp p5 g mg⟩, lw, g3, fun w2 H4 w4 nwo nws k4 g4 S4 => ?_⟩
    obtain ⟨dx4, rv4, ho4, hrv4⟩ := S4.ob
    obtain ⟨vs4, ew4, rw4⟩ := S4.wt
    have K4 : Kp (o :: sd :: Ts) H H4 := K3.trans (k4.mono fun b mb => by
      rcases List.mem_cons.mp mb with rfl | mb
      · exact List.mem_cons_self
      · exact List.mem_cons_of_mem _ (List.mem_cons_of_mem _ mb))
    have hw2 : H w2 = none := by
      have : H2 w2 = none := k3.gone1 (fun b mb => absurd mb List.not_mem_nil) w4
      rw [← hH2, upd_ne nws] at this
      exact k1.gone g1 this
    generalize hst : st.see.fol sh ds5 = s4 at S4 q rw4 hrv4 ho4
    refine ⟨C, dx4, _, ho4, T.cl, T.n3, _, rfl, by omega, fun pe hpe => ?_⟩
    have ke : Kp [] H4 (upd H4 pe (.lst [])) := Kp.new hpe _
    have sh4 : SeqAt.shaped (.list (s4.wait.map rowW)) = true := shaped_list (n := 14) (okD_tup.mpr ⟨by have := S4.sm.wl; rw [List.length_map]; omega, fun x mx => by
      obtain ⟨y, my, rfl⟩ := List.mem_map.mp mx
      have t := S4.sm.wt y my
      exact okD_tup.mpr ⟨by show 2 ≤ 200000; decide, fun w mw => by
        rcases List.mem_cons.mp mw with rfl | mw
        · exact t.1
        · rw [List.mem_singleton.mp mw]; exact t.2.1⟩⟩) (by decide)
    have none3 : (s4.wait = [] ∨ 32 ≤ s4.seen.length) → ∀ H5, Kp [] H4 H5 → 1 ≤ sizeLine ∧ ∀ (p : Addr), H5 p = none → ∃ x x_1 x_2, upd H5 p (HO.tup [V.str (Str.ofString "none")]) o = some (HO.ins x x_1 x_2) ∧ Cls K x ∧ NoAttr K x (Str.ofString "_result") ∧ x_2.length < 1000 ∧
        Q V.non (upd (upd H5 p (HO.tup [V.str (Str.ofString "none")])) o (HO.ins x x_1 (putF (Str.ofString "_result") (V.ref p) x_2))) := fun hc H5 k5 => by
      refine ⟨by omega, fun pn hpn => ?_⟩
      have ho5 := k5.keep _ _ List.not_mem_nil ho4
      have nop := ne_of_none ho5 hpn
      have kn : Kp [] H5 (upd H5 pn (.tup [.str "none"])) := Kp.new hpn _
      have ho6 := kn.keep _ _ List.not_mem_nil ho5
      refine ⟨C, dx4, _, ho6, T.cl, T.n5, (by show 5 < 1000; decide), ?_⟩
      have S6 := S4.kp0 (k5.trans kn)
      obtain ⟨vs6, ew6, rw6⟩ := S6.wt
      have ki : Kp [o] _ (upd (upd H5 pn (.tup [.str "none"])) o (.ins C dx4 (putF "_result" (.ref pn) (srF sv w2 sd rv4 s4)))) := Kp.insT ho6 (List.mem_singleton.mpr rfl)
      have g6 := (g4.kp0 (k5.trans kn)).kp ki fun P mP mo => absurd mP (by rw [List.mem_singleton.mp mo]; exact (g4.kp0 (k5.trans kn)).ne ho6)
      refine q w2 _ (.inr hw2) (K4.trans ((k5.trans kn).in0.trans (ki.mono fun b mb => by rw [List.mem_singleton.mp mb]; exact m))) g6 ?_
      unfold Sst.fin
      rw [if_pos hc]
      have nwo2 : w2 ≠ o := nwo
      refine ⟨⟨dx4, .ref pn, upd_same, .tup (by rw [upd_ne nop.symm]; exact upd_same) (.cons (.str _) .nil)⟩, ⟨vs6, ki.keep _ _ (by simpa using nwo2) ew6, rw6.pure ki (pur_rows fun x mx => (S4.sm.wt x mx).2.2)⟩, ki.keep _ _ (by simpa using nos.symm) S6.sn, S6.shf.pure ki S6.shr.pur, S6.shr, ⟨S4.sm.path, S4.sm.wl, S4.sm.wt, S4.sm.sn, rfl, .inr ⟨_, rfl⟩⟩⟩
    refine ⟨.list (s4.wait.map rowW), .list [], .lst (SqL.of (ke.keep _ _ List.not_mem_nil ew4)) (rw4.kp0 ke).dp, .lst (SqL.of upd_same) .nil, sh4, shaped_list (n := 14) rfl (by decide), _, rfl, ?_⟩
    rw [eqv_nil]
    by_cases cw : s4.wait = []
    · rw [cw]
      exact if_yes rfl (none3 (.inl cw) _ ke)
    have cw2 : (s4.wait.map rowW).isEmpty = false := by
      cases h : s4.wait with
      | nil => exact absurd h cw
      | cons x y => rfl
    rw [cw2]
    have S5 := S4.kp0 ke
    refine if_no (by simp) ⟨C, dx4, _, ke.keep _ _ List.not_mem_nil ho4, T.cl, T.n4, _, rfl, sd, _, rfl, S5.sn, _, rfl, ?_⟩
    rw [show (seenK s4.seen).length = s4.seen.length from List.length_map ..]
    by_cases c32 : 32 ≤ s4.seen.length
    · exact if_yes (by omega) (none3 (.inr c32) _ ke)
    · refine if_no (by omega) (q w2 _ (.inr hw2) (K4.trans ke.in0) (g4.kp0 ke) ?_)
      unfold Sst.fin
      rw [if_neg (fun h => h.elim cw c32)]
      exact S5
  · rw [← fnd] at e
    rw [e] at ru
    rw [e, if_neg (show ¬ noneB (.tuple [a, b]) = true by intro h; cases h)] at q
    cases ru with
    | @tup pu us es eu rus =>
    refine if_yes (by simp) ⟨by omega, fun pf hpf => ?_⟩
    have nuf := ne_of_none eu hpf
    have l2 := rus.len
    have nof := ne_of_none ho3 hpf
    have kf : Kp [] H3 (upd H3 pf (.tup [.str "found", .str z])) := Kp.new hpf _
    refine ⟨pf, pu, _, us, rfl, rfl, SqT.of upd_same, SqT.of (by rw [upd_ne nuf]; exact eu), by simp, by rw [l2]; show 2 + 2 ≤ _; omega, fun h => absurd l2 (by rw [h]; intro e; cases e), fun _ pr hpr => ?_⟩
    have kr := kf.trans (Kp.new hpr (.tup ([.str "found", .str z] ++ us)))
    have ho5 := kr.keep _ _ List.not_mem_nil ho3
    refine ⟨C, dx3, _, ho5, T.cl, T.n5, (by show 5 < 1000; decide), ?_⟩
    simp only [tRetN]
    have S5 := S3.kp0 kr
    obtain ⟨vs5, ew5, rw5⟩ := S5.wt
    have now : wl ≠ o := fun e => by rw [e, ho5] at ew5; cases ew5
    have ki : Kp [o] _ (upd (upd (upd H3 pf (.tup [.str "found", .str z])) pr (.tup ([.str "found", .str z] ++ us))) o (.ins C dx3 (putF "_result" (.ref pr) (srF sv wl sd rv3 st.see)))) := Kp.insT ho5 (List.mem_singleton.mpr rfl)
    have nro : pr ≠ o := fun e => by rw [e, upd_ne nof] at hpr; rw [ho3] at hpr; cases hpr
    have g5 := g3.kp0 kr
    have p0 : purD (.tuple [a, b]) = true := by
      rw [← e, fnd]
      have p4 : purD (.tuple ds4) = true := by rw [← ed4]; exact pur_ix pd L.t6 (by omega)
      exact row_pur fun x mx => purD_tup.mp p4 x mx
    have pab : purDs [a, b] = true := purDs_all.mpr (purD_tup.mp p0)
    refine q wl _ (.inl rfl) (K3.trans (kr.in0.trans (ki.mono fun b mb => by rw [List.mem_singleton.mp mb]; exact m))) (g5.kp ki fun P mP mo => absurd mP (by rw [List.mem_singleton.mp mo]; exact g5.ne ho5)) ?_
    refine ⟨⟨dx3, .ref pr, upd_same, .tup (xs := [.str "found", .str z] ++ us) (by rw [upd_ne nro]; exact upd_same) ?_⟩, ⟨vs5, ki.keep _ _ (by simpa using now) ew5, rw5.pure ki (pur_rows fun x mx => (S5.sm.wt x mx).2.2)⟩, ki.keep _ _ (by simpa using nos.symm) S5.sn, S5.shf.pure ki S5.shr.pur, S5.shr, ⟨S5.sm.path, S5.sm.wl, S5.sm.wt, S5.sm.sn, ?_, .inr ⟨_, rfl⟩⟩⟩
    · rw [hhd]
      exact .cons (.str _) (.cons (.str _) ((rus.kp0 kr).pure ki pab))
    · exact purD_tup.mpr fun x mx => by
        rcases List.mem_cons.mp mx with rfl | mx
        · rfl
        rcases List.mem_cons.mp mx with rfl | mx
        · rfl
        · exact purDs_all.mp pab x mx
end
/-! the search: its run, lookup -/
abbrev s_lookup : Stmt := top 50
abbrev N_lookup : List Str := ["charter", "shelf", "lists", "path", "search", "name", "_"]
theorem sc_lookup : FnScope N_lookup ["charter", "shelf", "lists", "path"] (defScope s_lookup) := ⟨rfl, rfl, rfl, by decide +kernel, rfl, by decide +kernel, by decide +kernel⟩
/-- what holds of a search while it runs -/
structure Sst.Inv (s : Sst) : Prop where
  wl : s.wait.length ≤ 1 + 32 * s.seen.length
  sl : s.seen.length ≤ 32
  go : s.res = .none → s.wait ≠ [] ∧ s.seen.length < 32 ∧ ∀ p ∈ s.wait, p.1 ∉ s.seen
theorem hd_mem {s : Sst} (h : s.wait ≠ []) : s.hd ∈ s.wait := by
  unfold Sst.hd
  cases hw : s.wait with
  | nil => exact absurd hw h
  | cons p l => exact List.mem_cons_self
theorem Sst.Inv.new (z : Str) (r : PyData) : (Sst.new z r).Inv := ⟨by show 1 ≤ 1 + 32 * 0; decide, by show 0 ≤ 32; decide, fun _ => ⟨(by intro h; cases h), by show 0 < 32; decide, fun _ _ => List.not_mem_nil⟩⟩
theorem Sst.Inv.give {s : Sst} {sh d : PyData} (h : s.Inv) (hr : s.res = .none) (il : isList d = true) : (s.give sh d).Inv := by
  obtain ⟨a, b, c⟩ := h.go hr
  unfold Sst.give
  have ls : s.see.seen.length = s.seen.length + 1 := by unfold Sst.see; show (s.seen ++ [s.hd.1]).length = _; rw [List.length_append]; rfl
  split
  · obtain ⟨z, L⟩ := lsP il
    have l5 := (tupB_len L.r1).2
    generalize itD (ixD d 5) = gs at l5
    have w1 : (s.see.fol sh gs).wait.length ≤ 1 + 32 * (s.seen.length + 1) := by
      have e := List.length_filter_le (fun p : Str × PyData => !decide (p.1 ∈ s.see.seen)) ((folF sh s.see gs).1 ++ if (folF sh s.see gs).2 = true then [] else s.see.wait)
      have f := folF_len sh s.see gs
      have w := h.wl
      have g : (if (folF sh s.see gs).2 = true then ([] : List (Str × PyData)) else s.see.wait).length ≤ s.wait.length := by
        split
        · exact Nat.zero_le _
        · exact Nat.le_refl _
      rw [List.length_append] at e
      refine Nat.le_trans e ?_
      omega
    have s1 : (s.see.fol sh gs).seen = s.see.seen := rfl
    unfold Sst.fin
    split
    · rename_i hc
      exact ⟨by show (s.see.fol sh gs).wait.length ≤ 1 + 32 * (s.see.fol sh gs).seen.length; rw [s1, ls]; exact w1, by show (s.see.fol sh gs).seen.length ≤ 32; rw [s1, ls]; omega, fun e => by cases e⟩
    · rename_i hc
      refine ⟨by rw [s1, ls]; exact w1, by rw [s1, ls]; omega, fun _ => ⟨fun e => hc (.inl e), ?_, fun p mp => ?_⟩⟩
      · have := fun e => hc (.inr e)
        omega
      · have := (List.mem_filter.mp mp).2
        rw [s1]
        simpa using this
  · exact ⟨by show s.wait.length ≤ 1 + 32 * s.see.seen.length; have := h.wl; rw [ls]; omega, by show s.see.seen.length ≤ 32; rw [ls]; omega, fun e => by cases e⟩
theorem give_seen (s : Sst) (sh d : PyData) : (s.give sh d).seen.length = s.seen.length + 1 := by
  have ls : s.see.seen.length = s.seen.length + 1 := by unfold Sst.see; show (s.seen ++ [s.hd.1]).length = _; rw [List.length_append]; rfl
  unfold Sst.give
  split
  · unfold Sst.fin
    split <;> exact ls
  · exact ls
/-- what lookup tells -/
def lookF (sh : PyData) (ls : List (Str × PyData)) : Nat → Sst → PyData
  | 0, s => s.res
  | n + 1, s => if noneB s.res = true then (match getA ls s.hd.1 with | none => .tuple [.str "missing", .str s.hd.1] | some d => lookF sh ls n (s.give sh d)) else s.res
/-- lists under their names -/
def LsOk (ls : List (Str × PyData)) : Prop := ∀ p ∈ ls, isList p.2 = true ∧ ixD p.2 1 = .str p.1 ∧ okD 12 p.2 = true ∧ purD p.2 = true
def spLook (Ts : List Addr) : Sp := fun vs H Q _ => ∃ (dl : Addr) (cv sv : V) (ch sh : PyData) (z : Str) (kvs : List (Key × V)) (ls : List (Str × PyData)), vs = [cv, sv, .ref dl, .str z] ∧ Rq H cv ch ∧ isCharter ch = true ∧ okD 12 ch = true ∧ purD ch = true ∧ Rq H sv sh ∧ ShR sh ∧ z.length ≤ 100 ∧
  H dl = some (.dK kvs) ∧ KvD H kvs ls ∧ LsOk ls ∧ Tabs Ts H ∧ ∀ u H', Rq H' u (lookF sh ls 33 (Sst.new z (rlD ch 3))) → Kp Ts H H' → Tabs Ts H' → Q u H'
section
variable {P : Program} {w : World} {K : PySem.W.Frag} {mg : Str → Option Value} {base : Heap} {f : Addr} {fd : FuncData} {C CB R : Addr} {Ts : List Addr}
theorem ok_lookup (F : Fun K "lookup" "lookup" s_lookup f fd) (B : Blt mg) (k_Search : CalK P w K mg base CX0 2 C "Search" (spSInit C)) (m_Search_wanted : CalM P w K mg base CX0 1 C "wanted" (spSWant C)) (m_Search_result : CalM P w K mg base CX0 1 C "result" (spSRes C)) (m_Search_give : CalM P w K mg base (L2.CX P w) 16 C "give" (spSGive C CB Ts)) :
    FnOk P w K mg base CX0 17 f fd ["charter", "shelf", "lists", "path"] (spLook Ts) := by
  refine F.ok sc_lookup (fun vs H Q E h => ?_) (fun cdv A outer s H vs Q E hr h => ?_)
  · obtain ⟨dl, cv, sv, ch, sh, z, kvs, ls, rfl, _⟩ := h; rfl
  obtain ⟨dl, cv, sv, ch, sh, z, kvs, ls, rfl, rc, ic, oc, pc, rs, hsh, lz, ed, rd, hls, hG, q⟩ := h
  refine ⟨_, (pss_cons (ps_set (i := 4) sc_lookup.nd rfl (Or.inl rfl) (k_Search.pex hr pass0 (pa_cons (pv 0) (pa_cons (pv 1) (pa_cons (pv 3) pa_nil)))))
    (pss_cons (ps_while PassesOwn.never (pt_cmpR op_notN (m_Search_wanted.pe0 hr (pv 4)) pe_non (nomark _)) (pss_cons (ps_asg (m_Search_wanted.pe0 hr (pv 4)) (pg_tup rfl (pgs_cons (pg_name (i := 5) sc_lookup.nd rfl (Or.inl rfl)) (pgs_cons (pg_name (i := 6) sc_lookup.nd rfl (Or.inl rfl)) pgs_nil))))
    (pss_cons (ps_if (pt_cmp (pc_dnotin (hu_of hr) (pv 5) (pv 2))) (pss_one (ps_ret (pe_tup (pa_cons pe_str (pa_cons (pv 5) pa_nil))))) pss_nil)
    (pss_one (ps_expr (m_Search_give.peL hr (pv 4) (pa_cons (pe_dget (hu_of hr) (pv 2) (pv 5) (fun _ _ => rfl)) pa_nil)))))))
    (pss_one (ps_ret (m_Search_result.pe0 hr (pv 4)))))), ?_⟩
  have lim : sizeLine = 16777216 := sizeLine_eq
  walk_at "wq"
  intro o dx ho hdx ndx
  have k0 : Kp [] H (upd (upd H dx (.own o)) o (.ins C dx [])) := (Kp.new hdx _).trans (Kp.new (by rw [upd_ne ndx.symm]; exact ho) _)
  refine ⟨o, dx, cv, sv, ch, sh, z, rfl, upd_same, rc.kp0 k0, ic, oc, pc, rs.kp0 k0, hsh, lz, fun wl0 sd H1 w0 s0 nwo nso k1 S0 => ⟨rfl, ?_⟩⟩
  have hsd : H sd = none := k0.gone1 (fun b mb => absurd mb List.not_mem_nil) s0
  have kk : Kp [] H H1 := Kp.drop ho (k0.in0.trans k1)
  have ed1 : ∀ {G : Hp}, Kp Ts H G → G dl = some (.dK kvs) := fun k => k.get hG ed
  have rd1 : ∀ {G : Hp}, Kp Ts H G → KvD G kvs ls := fun k => rd.kp k fun p m => (hls p m).2.2.2
  refine ⟨fun m σ H' => ∃ (wl : Addr) (s : Sst) (o5 o6 : Option V), σ = [some cv, some sv, some (.ref dl), some (.str z), some (.ref o), o5, o6] ∧ Srs C o wl sd sv sh s H' ∧ s.Inv ∧ Kp Ts H H' ∧ Tabs Ts H' ∧ 33 ≤ m + s.seen.length ∧ lookF sh ls m s = lookF sh ls 33 (Sst.new z (rlD ch 3)),
    ⟨33, wl0, _, none, none, rfl, S0, Sst.Inv.new z _, kk.in0, hG.kp0 kk, Nat.le_refl _, rfl⟩, fun m σ H2 ⟨wl, s, o5, o6, hσ, S2, I2, k2, g2, lm, due⟩ => ?_⟩
  subst hσ
  obtain ⟨m, rfl⟩ : ∃ n, m = n + 1 := ⟨m - 1, by have := I2.sl; omega⟩
  obtain ⟨dx2, rv2, ho2, hrv2⟩ := S2.ob
  have e1 : lookF sh ls (m + 1) s = if noneB s.res = true then (match getA ls s.hd.1 with | none => .tuple [.str "missing", .str s.hd.1] | some d => lookF sh ls m (s.give sh d)) else s.res := rfl
  rw [e1] at due
  walk_at "wq"
  refine ⟨dx2, _, ho2, rfl, o, wl, sd, sv, sh, s, rfl, S2, fun h => (I2.go h).1, fun u ru => ?_⟩
  unfold Sst.want at ru
  rcases S2.sm.rt with er | ⟨ds, er⟩
  rotate_left
  · rw [er, if_neg (show ¬ noneB (.tuple ds) = true by intro h; cases h)] at ru
    rw [er] at due
    cases ru
    refine if_no (by simp) ⟨dx2, _, ho2, rfl, o, wl, sd, sv, sh, s, rfl, S2, fun u ru2 => q u H2 ?_ k2 g2⟩
    rw [if_neg (show ¬ noneB (.tuple ds) = true by intro h; cases h)] at due
    rw [er, due] at ru2
    exact ru2
  rw [er, if_pos (show noneB .none = true from rfl)] at ru due
  obtain ⟨i1, i2, i3⟩ := I2.go er
  have mh := hd_mem i1
  generalize hh : s.hd = nr at mh ru due
  obtain ⟨n, r⟩ := nr
  cases ru with
  | @tup p us es ep ra =>
  cases ra with
  | cons b1 b2 =>
  cases b1
  cases b2 with
  | cons b3 b4 =>
  cases b4
  refine if_yes (by simp) ?_
  refine ⟨fun σ' H' => ∃ (wl : Addr) (s : Sst) (o5 o6 : Option V), σ' = [some cv, some sv, some (.ref dl), some (.str z), some (.ref o), o5, o6] ∧ Srs C o wl sd sv sh s H' ∧ s.Inv ∧ Kp Ts H H' ∧ Tabs Ts H' ∧ 33 ≤ m + s.seen.length ∧ lookF sh ls m s = lookF sh ls 33 (Sst.new z (rlD ch 3)),
    fun σ' H' h => ⟨m, Nat.lt_succ_self m, h⟩, ?_⟩
  refine ⟨dx2, _, ho2, rfl, o, wl, sd, sv, sh, s, rfl, S2, fun h => (I2.go h).1, fun u ru => ?_⟩
  unfold Sst.want at ru
  rw [er, if_pos (show noneB .none = true from rfl), hh] at ru
  cases ru with
  | @tup p us es ep ra =>
  cases ra with
  | cons b1 b2 =>
  cases b1
  cases b2 with
  | cons b3 b4 =>
  cases b4
  refine ⟨p, _, rfl, SqT.of ep, rfl, ?_⟩
  walk_at "wq"
  have eg := ed1 k2
  refine ⟨_, DGet.k (k := Sum.inr n) eg, ?_⟩
  rcases (rd1 k2).val (n := n) with ⟨v, d, a, b, c⟩ | ⟨a, b⟩
  · obtain ⟨l1, l2, l3, l4⟩ := hls _ (getA_mem b)
    rw [a]
    have nd : (match getA ls n with | none => PyData.tuple [.str "missing", .str n] | some d => lookF sh ls m (s.give sh d)) = lookF sh ls m (s.give sh d) := by rw [b]
    have due2 : lookF sh ls m (s.give sh d) = lookF sh ls 33 (Sst.new z (rlD ch 3)) := nd.symm.trans due
    have hn1 : s.hd.1 = n := by rw [hh]
    refine if_no (by simp) ⟨dx2, _, ho2, rfl, v, by rw [← a]; exact DGet.k (k := Sum.inr n) eg, o, wl, sd, sv, sh, s, v, d, rfl, S2, fun _ => ⟨i1, ?_, ?_, ?_⟩, c, l3, fun _ => l4, g2, fun _ _ _ wl' H3 hwl k3 g3 S3 => ⟨wl', s.give sh d, S3, I2.give er l1, ?_, g3, ?_, due2⟩, fun hno => absurd ⟨er, l1, ?_⟩ hno⟩
    · rw [hn1]; exact i3 _ mh
    · have := I2.wl; have := I2.sl; omega
    · omega
    · have kA : Kp (o :: sd :: Ts) H H3 := (k2.mono fun b mb => List.mem_cons_of_mem _ (List.mem_cons_of_mem _ mb)).trans k3
      exact Kp.drop hsd (Kp.drop ho kA)
    · rw [give_seen]; omega
    · rw [hn1]; exact l2
  · rw [a]
    refine if_yes (by simp) ⟨by omega, fun pm hpm => ?_⟩
    have km : Kp [] H2 (upd H2 pm (.tup [.str "missing", .str n])) := Kp.new hpm _
    refine q _ _ ?_ (k2.trans km.in0) (g2.kp0 km)
    rw [← due]
    show Rq _ _ (match getA ls n with | none => _ | some d => _)
    rw [b]
    exact .tup upd_same (.cons (.str _) (.cons (.str _) .nil))
end
/-! a plain walk as the laws write it; the search goes the same way -/
def noneT : PyData := .tuple [.str (Str.ofString "none")]
def foundT (p : Str × PyData) (row : PyData) : PyData := .tuple (.str (Str.ofString "found") :: .str p.1 :: itD row)
/-- the law's walk in n turns: what it read, what it found -/
def walkF (sh : PyData) (z : Str) (doc : Str → PyData) : Nat → List (Str × PyData) → List Str → List (Str × PyData) × PyData
  | 0, _, _ => ([], noneT)
  | _ + 1, [], _ => ([], noneT)
  | n + 1, p :: w, sn =>
    if p.1 ∈ sn then walkF sh z doc n w sn
    else if noneB (rowD z (itD (ixD (doc p.1) 4))) = true then
      (p :: (walkF sh z doc n ((folF sh ⟨z, [], sn ++ [p.1], .none⟩ (itD (ixD (doc p.1) 5))).1 ++ if (folF sh ⟨z, [], sn ++ [p.1], .none⟩ (itD (ixD (doc p.1) 5))).2 = true then [] else w) (sn ++ [p.1])).1,
       (walkF sh z doc n ((folF sh ⟨z, [], sn ++ [p.1], .none⟩ (itD (ixD (doc p.1) 5))).1 ++ if (folF sh ⟨z, [], sn ++ [p.1], .none⟩ (itD (ixD (doc p.1) 5))).2 = true then [] else w) (sn ++ [p.1])).2)
    else ([p], foundT p (rowD z (itD (ixD (doc p.1) 4))))
/-- the search in m turns: what it wants, its end -/
def trF (sh : PyData) (doc : Str → PyData) : Nat → Sst → List (Str × PyData) × Sst
  | 0, s => ([], s)
  | m + 1, s => if noneB s.res = true then (s.hd :: (trF sh doc m (s.give sh (doc s.hd.1))).1, (trF sh doc m (s.give sh (doc s.hd.1))).2) else ([], s)
theorem trF_end {sh : PyData} {doc : Str → PyData} {s : Sst} (h : noneB s.res = false) : ∀ m, trF sh doc m s = ([], s)
  | 0 => rfl
  | m + 1 => by unfold trF; rw [if_neg (by rw [h]; simp)]
theorem trF_go {sh : PyData} {doc : Str → PyData} {s : Sst} (h : noneB s.res = true) (m : Nat) : trF sh doc (m + 1) s = (s.hd :: (trF sh doc m (s.give sh (doc s.hd.1))).1, (trF sh doc m (s.give sh (doc s.hd.1))).2) := by
  rw [trF]; rw [if_pos h]
theorem nodup_len : ∀ {l U : List Str}, l.Nodup → (∀ x ∈ l, x ∈ U) → l.length ≤ U.length
  | [], _, _, _ => Nat.zero_le _
  | a :: l, U, h, s => by
    obtain ⟨h1, h2⟩ := List.nodup_cons.mp h
    have m := s a List.mem_cons_self
    have := nodup_len (l := l) (U := U.erase a) h2 fun x mx => (List.mem_erase_of_ne (fun e => h1 (by rw [← e]; exact mx))).mpr (s x (List.mem_cons_of_mem _ mx))
    rw [List.length_erase_of_mem m] at this
    have := List.length_pos_of_mem m
    rw [List.length_cons]; omega
theorem nodup_all {l U : List Str} (h : l.Nodup) (s : ∀ x ∈ l, x ∈ U) (e : U.length ≤ l.length) {x : Str} (hx : x ∈ U) : x ∈ l := by
  by_cases c : x ∈ l
  · exact c
  · have := nodup_len (l := x :: l) (U := U) (List.nodup_cons.mpr ⟨c, h⟩) fun y my => by
      rcases List.mem_cons.mp my with rfl | my
      · exact hx
      · exact s y my
    rw [List.length_cons] at this; omega
theorem leadsF_congr {sh : PyData} {s s' : Sst} (h1 : s.seen = s'.seen) (h2 : s.path = s'.path) (g : PyData) : leadsF sh s g = leadsF sh s' g := by
  unfold leadsF; rw [h1, h2]
theorem folF_congr {sh : PyData} {s s' : Sst} (h1 : s.seen = s'.seen) (h2 : s.path = s'.path) : ∀ gs, folF sh s gs = folF sh s' gs
  | [] => rfl
  | g :: gs => by unfold folF; rw [leadsF_congr h1 h2, folF_congr h1 h2 gs]
theorem walk_stale {sh : PyData} {z : Str} {doc : Str → PyData} {sn : List Str} : ∀ {n : Nat} {w : List (Str × PyData)}, (∀ p ∈ w, p.1 ∈ sn) → walkF sh z doc n w sn = ([], noneT)
  | 0, _, _ => by unfold walkF; rfl
  | _ + 1, [], _ => by unfold walkF; rfl
  | n + 1, p :: w, h => by
    unfold walkF
    rw [if_pos (h p List.mem_cons_self)]
    exact walk_stale fun q m => h q (List.mem_cons_of_mem _ m)
theorem fol_named {sh : PyData} {s : Sst} {U : List Str} (h : ∀ g, leadsF sh s g = true → strD (ixD g 0) ∈ U) : ∀ gs, ∀ p ∈ (folF sh s gs).1, p.1 ∈ U
  | [], _, m => absurd m List.not_mem_nil
  | g :: gs, p, m => by
    unfold folF at m
    by_cases c : leadsF sh s g = true
    · rw [if_pos c] at m
      by_cases c1 : oneB (ixD g 3) = true
      · rw [if_pos c1] at m
        rw [List.mem_singleton.mp m]; exact h g c
      · rw [if_neg c1] at m
        rcases List.mem_cons.mp m with rfl | m
        · exact h g c
        · exact fol_named h gs p m
    · rw [if_neg c] at m
      exact fol_named h gs p m
theorem filter_in {w : List (Str × PyData)} {sn sn' : List Str} (h : ∀ x ∈ sn, x ∈ sn') : (w.filter fun p => !decide (p.1 ∈ sn)).filter (fun p => !decide (p.1 ∈ sn')) = w.filter fun p => !decide (p.1 ∈ sn') := by
  rw [List.filter_filter]
  refine List.filter_congr fun p _ => ?_
  by_cases c : p.1 ∈ sn
  · simp [c, h _ c]
  · simp [c]
/-- the search wants what the walk reads -/
theorem walk_tr {sh : PyData} {z : Str} {doc : Str → PyData} {U : List Str} (hU : U.length ≤ 32) (h5 : ∀ x ∈ U, (itD (ixD (doc x) 5)).length ≤ 32)
    (hn : ∀ s g, leadsF sh s g = true → strD (ixD g 0) ∈ U) : ∀ {n : Nat} {w : List (Str × PyData)} {sn : List Str} {s : Sst} {m : Nat},
    s.path = z → noneB s.res = true → s.seen = sn → s.wait = w.filter (fun p => !decide (p.1 ∈ sn)) → s.wait ≠ [] → sn.Nodup → (∀ x ∈ sn, x ∈ U) → (∀ p ∈ w, p.1 ∈ U) →
    w.length + 33 * (32 - sn.length) ≤ n → 33 ≤ m + sn.length → walkF sh z doc n w sn = ((trF sh doc m s).1, (trF sh doc m s).2.res)
  | n, [], sn, s, m, _, _, _, hw, ne, _, _, _, _, _ => absurd hw ne
  | 0, _ :: w, sn, s, m, _, _, _, _, _, _, _, _, hf, _ => by rw [List.length_cons] at hf; omega
  | n + 1, p :: w, sn, s, m, hz, hr, hs, hw, ne, nd, su, wu, hf, hm => by
    unfold walkF
    by_cases c : p.1 ∈ sn
    · rw [if_pos c]
      refine walk_tr hU h5 hn hz hr hs ?_ ne nd su (fun q mq => wu q (List.mem_cons_of_mem _ mq)) (by rw [List.length_cons] at hf; omega) hm
      rw [hw, List.filter_cons, if_neg (by simp [c])]
    rw [if_neg c]
    have pu := wu p List.mem_cons_self
    have nd' : (sn ++ [p.1]).Nodup := by
      rw [List.nodup_append]
      exact ⟨nd, List.nodup_cons.mpr ⟨List.not_mem_nil, List.nodup_nil⟩, fun a ma b mb e => c (by rw [← List.mem_singleton.mp mb, ← e]; exact ma)⟩
    have su' : ∀ x ∈ sn ++ [p.1], x ∈ U := fun x mx => by
      rcases List.mem_append.mp mx with mx | mx
      · exact su x mx
      · rw [List.mem_singleton.mp mx]; exact pu
    have l1 := nodup_len nd' su'
    have lsn : (sn ++ [p.1]).length = sn.length + 1 := by rw [List.length_append]; rfl
    rw [lsn] at l1
    obtain ⟨k, rfl⟩ : ∃ k, m = k + 1 := ⟨m - 1, by omega⟩
    have hw' : s.wait = p :: w.filter (fun p => !decide (p.1 ∈ sn)) := by rw [hw, List.filter_cons, if_pos (by simp [c])]
    have hh : s.hd = p := by unfold Sst.hd; rw [hw']; rfl
    rw [trF_go hr, hh]
    unfold Sst.give
    have hfd : s.found (doc p.1) = rowD z (itD (ixD (doc p.1) 4)) := by unfold Sst.found; rw [hz]
    have seS : s.see.seen = sn ++ [p.1] := by show s.seen ++ [s.hd.1] = _; rw [hs, hh]
    have zS : s.see.path = z := hz
    by_cases c1 : noneB (rowD z (itD (ixD (doc p.1) 4))) = true
    rotate_left
    · rw [if_neg c1, if_neg (show ¬ noneB (s.found (doc p.1)) = true by rw [hfd]; exact c1), trF_end rfl]
      dsimp only
      rw [hh, hfd]; rfl
    rw [if_pos c1, if_pos (show noneB (s.found (doc p.1)) = true by rw [hfd]; exact c1)]
    generalize hgs : itD (ixD (doc p.1) 5) = gs
    have lgs : gs.length ≤ 32 := by rw [← hgs]; exact h5 _ pu
    have ef : folF sh s.see gs = folF sh ⟨z, [], sn ++ [p.1], .none⟩ gs := folF_congr seS zS gs
    have fl := folF_len sh ⟨z, [], sn ++ [p.1], .none⟩ gs
    have fn := fol_named (hn ⟨z, [], sn ++ [p.1], .none⟩) gs
    generalize hfo : folF sh ⟨z, [], sn ++ [p.1], .none⟩ gs = fo at ef fl fn
    obtain ⟨a, b⟩ := fo
    dsimp only at fl fn ⊢
    have wu' : ∀ q ∈ a ++ (if b = true then [] else w), q.1 ∈ U := fun q mq => by
      rcases List.mem_append.mp mq with mq | mq
      · exact fn q mq
      · by_cases cb : b = true
        · rw [if_pos cb] at mq; exact absurd mq List.not_mem_nil
        · rw [if_neg cb] at mq; exact wu q (List.mem_cons_of_mem _ mq)
    have ew : (s.see.fol sh gs).wait = (a ++ if b = true then [] else w).filter fun q => !decide (q.1 ∈ sn ++ [p.1]) := by
      have e0 : (s.see.fol sh gs).wait = ((folF sh s.see gs).1 ++ if (folF sh s.see gs).2 = true then [] else s.see.wait).filter fun q => !decide (q.1 ∈ s.see.seen) := rfl
      rw [e0, ef, seS, List.filter_append, List.filter_append]
      congr 1
      by_cases cb : b = true
      · rw [if_pos cb, if_pos cb]
      · rw [if_neg cb, if_neg cb]
        have e1 : s.see.wait = s.wait := rfl
        rw [e1, hw', List.filter_cons, if_neg (by simp)]
        exact filter_in fun x mx => List.mem_append_left _ mx
    have seF : (s.see.fol sh gs).seen = sn ++ [p.1] := seS
    have rF : (s.see.fol sh gs).res = s.res := rfl
    have fuel : (a ++ if b = true then [] else w).length + 33 * (32 - (sn ++ [p.1]).length) ≤ n := by
      have : (if b = true then ([] : List (Str × PyData)) else w).length ≤ w.length := by
        split
        · exact Nat.zero_le _
        · exact Nat.le_refl _
      rw [List.length_append, lsn]
      rw [List.length_cons] at hf
      omega
    unfold Sst.fin
    by_cases ce : (s.see.fol sh gs).wait = [] ∨ 32 ≤ (s.see.fol sh gs).seen.length
    · rw [if_pos ce, trF_end rfl]
      have st : ∀ q ∈ a ++ (if b = true then [] else w), q.1 ∈ sn ++ [p.1] := fun q mq => by
        rcases ce with ce | ce
        · rw [ew] at ce
          have := (List.filter_eq_nil_iff.mp ce) q mq
          by_cases cq : q.1 ∈ sn ++ [p.1]
          · exact cq
          · exact absurd (by rw [decide_eq_false cq]; rfl) this
        · exact nodup_all nd' su' (by rw [seF] at ce; omega) (wu' q mq)
      rw [walk_stale st]
      rfl
    · rw [if_neg ce]
      have := walk_tr hU h5 hn (n := n) (w := a ++ if b = true then [] else w) (sn := sn ++ [p.1]) (s := s.see.fol sh gs) (m := k) zS (by rw [rF]; exact hr) seF ew (fun e => ce (.inl e)) nd' su' wu' fuel (by rw [lsn]; omega)
      rw [this]
/-- what the search goes through, from its start -/
theorem tr_inv {sh : PyData} {doc : Str → PyData} (hl : ∀ x, isList (doc x) = true) : ∀ {m : Nat} {s : Sst}, s.Inv → (s.res = .none ∨ noneB s.res = false) → 33 ≤ m + s.seen.length → noneB (trF sh doc m s).2.res = false
  | 0, s, h, _, hm => by have := h.sl; omega
  | m + 1, s, h, hr, hm => by
    rcases hr with hr | hr
    · rw [trF_go (by rw [hr]; rfl)]
      dsimp only
      refine tr_inv hl (h.give hr (hl _)) ?_ (by rw [give_seen]; omega)
      unfold Sst.give
      split
      · unfold Sst.fin
        split
        · exact .inr rfl
        · exact .inl hr
      · exact .inr rfl
    · rw [trF_end hr]; exact hr
theorem noneB_none {d : PyData} (h : noneB d = true) : d = .none := by
  cases d <;> first | rfl | cases h
theorem give_res (s : Sst) (sh d : PyData) (hr : s.res = .none) : (s.give sh d).res = .none ∨ noneB (s.give sh d).res = false := by
  unfold Sst.give
  split
  · unfold Sst.fin
    split
    · exact .inr rfl
    · exact .inl hr
  · exact .inr rfl
theorem give_sn (s : Sst) (sh d : PyData) : (s.give sh d).seen = s.seen ++ [s.hd.1] := by
  unfold Sst.give
  split
  · unfold Sst.fin
    split <;> rfl
  · rfl
/-- nothing is wanted twice -/
theorem tr_new {sh : PyData} {doc : Str → PyData} (hl : ∀ x, isList (doc x) = true) : ∀ {m : Nat} {s : Sst}, s.Inv → (s.res = .none ∨ noneB s.res = false) → ((trF sh doc m s).1.map (·.1)).Nodup ∧ ∀ p ∈ (trF sh doc m s).1, p.1 ∉ s.seen
  | 0, s, _, _ => ⟨List.nodup_nil, fun _ m => absurd m List.not_mem_nil⟩
  | m + 1, s, h, hr => by
    rcases hr with hr | hr
    · rw [trF_go (by rw [hr]; rfl)]
      dsimp only
      obtain ⟨a, b⟩ := tr_new hl (m := m) (h.give hr (hl s.hd.1) (sh := sh)) (give_res s sh _ hr)
      obtain ⟨i1, i2, i3⟩ := h.go hr
      refine ⟨?_, fun p mp => ?_⟩
      · rw [List.map_cons, List.nodup_cons]
        refine ⟨fun hm => ?_, a⟩
        obtain ⟨q, mq, eq⟩ := List.mem_map.mp hm
        refine b q mq ?_
        rw [give_sn, eq]
        exact List.mem_append_right _ List.mem_cons_self
      · rcases List.mem_cons.mp mp with rfl | mp
        · exact i3 _ (hd_mem i1)
        · intro hs
          refine b p mp ?_
          rw [give_sn]
          exact List.mem_append_left _ hs
    · rw [trF_end hr]
      exact ⟨List.nodup_nil, fun _ m => absurd m List.not_mem_nil⟩
theorem look_all {sh : PyData} {doc : Str → PyData} {ls : List (Str × PyData)} : ∀ {m : Nat} {s : Sst}, (∀ p ∈ (trF sh doc m s).1, getA ls p.1 = some (doc p.1)) → lookF sh ls m s = (trF sh doc m s).2.res
  | 0, s, _ => rfl
  | m + 1, s, h => by
    have e1 : lookF sh ls (m + 1) s = if noneB s.res = true then (match getA ls s.hd.1 with | none => .tuple [.str "missing", .str s.hd.1] | some d => lookF sh ls m (s.give sh d)) else s.res := rfl
    rw [e1]
    by_cases c : noneB s.res = true
    · rw [if_pos c]
      rw [trF_go c] at h ⊢
      have := h s.hd List.mem_cons_self
      rw [this]
      exact look_all fun p mp => h p (List.mem_cons_of_mem _ mp)
    · rw [if_neg c, trF_end (by simpa using c)]
theorem look_miss {sh : PyData} {doc : Str → PyData} {ls : List (Str × PyData)} {q : Str × PyData} {post : List (Str × PyData)} : ∀ {pre : List (Str × PyData)} {m : Nat} {s : Sst}, (trF sh doc m s).1 = pre ++ q :: post →
    (∀ p ∈ pre, getA ls p.1 = some (doc p.1)) → getA ls q.1 = none → lookF sh ls m s = .tuple [.str "missing", .str q.1]
  | pre, 0, s, e, _, _ => by
    have : ([] : List (Str × PyData)) = pre ++ q :: post := e
    cases pre <;> cases this
  | pre, m + 1, s, e, h, hq => by
    have e1 : lookF sh ls (m + 1) s = if noneB s.res = true then (match getA ls s.hd.1 with | none => .tuple [.str "missing", .str s.hd.1] | some d => lookF sh ls m (s.give sh d)) else s.res := rfl
    rw [e1]
    by_cases c : noneB s.res = true
    · rw [if_pos c]
      rw [trF_go c] at e
      cases pre with
      | nil =>
        injection e with e2 e3
        rw [e2, hq]
      | cons p pre =>
        injection e with e2 e3
        rw [e2, h p List.mem_cons_self]
        dsimp only
        rw [e2] at e3
        exact look_miss e3 (fun p mp => h p (List.mem_cons_of_mem _ mp)) hq
    · rw [trF_end (by simpa using c)] at e
      cases pre <;> cases e
/-! k33: what the law draws -/
abbrev s_law_cell : Stmt := top 52
abbrev N_law_cell : List Str := ["script", "k"]
theorem sc_law_cell : FnScope N_law_cell ["script", "k"] (defScope s_law_cell) := ⟨rfl, rfl, rfl, by decide +kernel, rfl, by decide +kernel, by decide +kernel⟩
abbrev s_law_names : Stmt := top 54
abbrev N_law_names : List Str := []
theorem sc_law_names : FnScope N_law_names [] (defScope s_law_names) := ⟨rfl, rfl, rfl, by decide +kernel, rfl, by decide +kernel, by decide +kernel⟩
abbrev s_law_path : Stmt := top 55
abbrev N_law_path : List Str := ["number"]
theorem sc_law_path : FnScope N_law_path ["number"] (defScope s_law_path) := ⟨rfl, rfl, rfl, by decide +kernel, rfl, by decide +kernel, by decide +kernel⟩
abbrev s_law_patterns : Stmt := top 56
abbrev N_law_patterns : List Str := ["number", "menu", "k"]
theorem sc_law_patterns : FnScope N_law_patterns ["number"] (defScope s_law_patterns) := ⟨rfl, rfl, rfl, by decide +kernel, rfl, by decide +kernel, by decide +kernel⟩
abbrev s_law_fits : Stmt := top 58
abbrev N_law_fits : List Str := ["mark", "part", "k"]
theorem sc_law_fits : FnScope N_law_fits ["mark", "part"] (defScope s_law_fits) := ⟨rfl, rfl, rfl, by decide +kernel, rfl, by decide +kernel, by decide +kernel⟩
abbrev s_law_covers : Stmt := top 57
abbrev N_law_covers : List Str := ["patterns", "path", "parts", "pattern", "marks", "k"]
theorem sc_law_covers : FnScope N_law_covers ["patterns", "path"] (defScope s_law_covers) := ⟨rfl, rfl, rfl, by decide +kernel, rfl, by decide +kernel, by decide +kernel⟩
theorem str_ext33 {a b : Str} (h : a.cps.toList = b.cps.toList) : a = b := by
  obtain ⟨x⟩ := a
  obtain ⟨y⟩ := b
  exact congrArg Str.mk (Array.toList_inj.mp h)
def spCellA (K : PySem.W.Frag) : Sp := fun vs H Q _ => ∃ (a : Addr) (ns : List Int) (k : Nat), vs = [.ref a, .int k] ∧ SqL K H a (ns.map V.int) ∧ ∀ z : Int, 0 ≤ z → Q (.int z) H
def nms33 : List Str := [Str.ofString "list", Str.ofString "a", Str.ofString "b", Str.ofString "c", Str.ofString "d", Str.ofString "e", Str.ofString "f", Str.ofString "g"]
def spNms33 : Sp := fun vs H Q _ => vs = [] ∧ ∀ a, H a = none → Q (.ref a) (upd H a (.lst (nms33.map V.str)))
def pth33 : List Str := [Str.ofString "bin/x", Str.ofString "bin/y.tar", Str.ofString "doc/x", Str.ofString "x", Str.ofString "lib/a/x", Str.ofString "bin/b/y"]
def spPth33 : Sp := fun vs H Q _ => ∃ n : Int, vs = [.int n] ∧ ∀ z ∈ pth33, ∀ H', Kp [] H H' → Q (.str z) H'
def men33 : List Str := [Str.ofString "*/*", Str.ofString "bin/*", Str.ofString "*", Str.ofString "*/x", Str.ofString "doc/*x*", Str.ofString "lib/*/*", Str.ofString "bin/*.tar", Str.ofString "b*n/*/y"]
def spPat33 : Sp := fun vs H Q _ => ∃ n : Int, vs = [.int n] ∧ 0 ≤ n ∧ ∀ (p : Addr) (ps : List Str) (H' : Hp), (∀ q ∈ ps, q ∈ men33) → 1 ≤ ps.length → ps.length ≤ 3 → H p = none → H' p = some (.tup (ps.map V.str)) → Kp [] H H' → Q (.ref p) H'
/-- the law's own match of a part -/
def fitF : List Nat → List Nat → Bool
  | [], p => p.isEmpty
  | c :: m, p => if c = 42 then (List.range (p.length + 1)).any fun k => fitF m (p.drop k) else !p.isEmpty && (decide (p.head? = some c) && fitF m (p.drop 1))
def spFit33 (n : Nat) : Sp := fun vs H Q _ => ∃ a b : Str, vs = [.str a, .str b] ∧ a.length + 1 ≤ n ∧ a.length ≤ 100 ∧ b.length ≤ 100 ∧ ∀ H', Kp [] H H' → Q (.bl (fitF a.cps.toList b.cps.toList)) H'
section
variable {P : Program} {w : World} {K : PySem.W.Frag} {mg : Str → Option Value} {base : Heap} {f : Addr} {fd : FuncData} {C CB R : Addr} {Ts : List Addr}
theorem ok_cellA (F : Fun K "_law_cell" "_law_cell" s_law_cell f fd) (B : Blt mg) (habs : mg "abs" = none) : FnOk P w K mg base CX0 1 f fd ["script", "k"] (spCellA K) := by
  refine F.ok sc_law_cell (fun vs H Q E h => ?_) (fun cdv A outer s H vs Q E hr h => ?_)
  · obtain ⟨_, _, _, rfl, _⟩ := h; rfl
  obtain ⟨a, ns, k, rfl, hS, q⟩ := h
  refine ⟨_, (pss_cons (ps_if (pt_cmpR op_lt (pv 1) (B.len_q (pa_cons (pv 0) pa_nil)) (nomark _)) (pss_one (ps_ret (pe_callB call_abs rfl habs (by decide +kernel) (pa_cons (B.int_i (pa_cons (pe_ix ix_list (pv 0) (pv 1) (fun _ _ => rfl)) pa_nil)) pa_nil)))) pss_nil)
    (pss_one (ps_ret pe_int))), ?_⟩
  walk_at "wq"
  refine ⟨_, .inl hS, ?_⟩
  rw [List.length_map]
  by_cases c : (k : Int) < ns.length
  · refine if_yes c ⟨a, _, (k : Int), V.int (ns[k]'(by omega)), rfl, rfl, hS, atI_nat (j := k) (by rw [List.getElem?_map, List.getElem?_eq_getElem (by omega)]; rfl), _, rfl, ?_⟩
    exact q _ (by split <;> omega)
  · exact if_no c (q 0 (by decide))
theorem ok_nms33 (F : Fun K "_law_names" "_law_names" s_law_names f fd) : FnOk P w K mg base CX0 1 f fd [] spNms33 := by
  refine F.ok sc_law_names (fun vs H Q E h => ?_) (fun cdv A outer s H vs Q E hr h => ?_)
  · obtain ⟨rfl, _⟩ := h; rfl
  obtain ⟨rfl, q⟩ := h
  refine ⟨_, (pss_one (ps_ret (pe_lst (pa_cons pe_str (pa_cons pe_str (pa_cons pe_str (pa_cons pe_str (pa_cons pe_str (pa_cons pe_str (pa_cons pe_str (pa_cons pe_str pa_nil))))))))))), ?_⟩
  have lim : sizeLine = 16777216 := sizeLine_eq
  walk_at "wq"
  exact ⟨by omega, fun p hp => q p hp⟩
theorem ok_pth33 (F : Fun K "_law_path" "_law_path" s_law_path f fd) : FnOk P w K mg base CX0 1 f fd ["number"] spPth33 := by
  refine F.ok sc_law_path (fun vs H Q E h => ?_) (fun cdv A outer s H vs Q E hr h => ?_)
  · obtain ⟨_, rfl, _⟩ := h; rfl
  obtain ⟨n, rfl, q⟩ := h
  refine ⟨_, (pss_one (ps_ret (pe_ix ix_lM (pe_lst (pa_cons pe_str (pa_cons pe_str (pa_cons pe_str (pa_cons pe_str (pa_cons pe_str (pa_cons pe_str pa_nil))))))) (pe_op op_mod (pv 0) pe_int) (fun _ _ => rfl)))), ?_⟩
  have lim : sizeLine = 16777216 := sizeLine_eq
  walk_at "wq"
  refine ⟨by omega, fun p hp => ⟨by decide, ?_⟩⟩
  have kn : Kp [] H (upd H p (.lst (pth33.map V.str))) := Kp.new hp _
  have h0 := Int.emod_nonneg n (show (6 : Int) ≠ 0 by decide)
  have h1 := Int.emod_lt_of_pos n (show (0 : Int) < 6 by decide)
  generalize n % 6 = m at h0 h1
  have : m = 0 ∨ m = 1 ∨ m = 2 ∨ m = 3 ∨ m = 4 ∨ m = 5 := by omega
  rcases this with rfl | rfl | rfl | rfl | rfl | rfl
  · exact ⟨_, rfl, q _ (by simp [pth33]) _ kn⟩
  · exact ⟨_, rfl, q _ (by simp [pth33]) _ kn⟩
  · exact ⟨_, rfl, q _ (by simp [pth33]) _ kn⟩
  · exact ⟨_, rfl, q _ (by simp [pth33]) _ kn⟩
  · exact ⟨_, rfl, q _ (by simp [pth33]) _ kn⟩
  · exact ⟨_, rfl, q _ (by simp [pth33]) _ kn⟩
theorem ok_pat33 (F : Fun K "_law_patterns" "_law_patterns" s_law_patterns f fd) (B : Blt mg) : FnOk P w K mg base CX0 1 f fd ["number"] spPat33 := by
  refine F.ok sc_law_patterns (fun vs H Q E h => ?_) (fun cdv A outer s H vs Q E hr h => ?_)
  · obtain ⟨_, rfl, _⟩ := h; rfl
  obtain ⟨n, rfl, n0, q⟩ := h
  refine ⟨_, (pss_cons (ps_set (i := 1) sc_law_patterns.nd rfl (Or.inr rfl) (pe_lst (pa_cons pe_str (pa_cons pe_str (pa_cons pe_str (pa_cons pe_str (pa_cons pe_str (pa_cons pe_str (pa_cons pe_str (pa_cons pe_str pa_nil))))))))))
    (pss_one (ps_ret (B.tuple_l (pa_cons (pe_lc (own := [("k", 2)]) (g := gName 2) (tt := tYes) rfl sc_law_patterns.nd (B.range1 (pa_cons (pe_op op_add pe_int (pe_op op_mod (pv 0) pe_int)) pa_nil)) (blkOk_by (own := [("k", 2)]) (N := N_law_patterns) (sc := defScope s_law_patterns) (by decide +kernel)) (fun _ _ _ _ _ => pg_name (i := 2) sc_law_patterns.nd rfl (Or.inl rfl)) (fun _ _ _ _ _ => pts_nil) (fun _ _ _ _ _ => (pe_ix ix_lM (pv 1) (pe_op op_mod (pe_op op_fdivW (pv 0) (pe_op op_add (pe_op op_mul pe_int (pv 2)) pe_int)) pe_int) (fun _ _ => rfl)))) pa_nil))))), ?_⟩
  have lim : sizeLine = 16777216 := sizeLine_eq
  walk_at "wq"
  refine ⟨by omega, fun p hp => ?_⟩
  have kp : Kp [] H (upd H p (.lst (men33.map V.str))) := Kp.new hp _
  have h0 := Int.emod_nonneg n (show (3 : Int) ≠ 0 by decide)
  have h1 := Int.emod_lt_of_pos n (show (0 : Int) < 3 by decide)
  refine ⟨.int n, rfl, n, 3, rfl, rfl, (show (0 : Int) < 3 by decide), 1, n % 3, rfl, rfl, 1 + n % 3, rfl, by omega, by omega, fun D hD => ?_⟩
  have npD : p ≠ D := fun e => by rw [← e, upd_same] at hD; cases hD
  refine lc_range (lo := 0) (n := (1 + n % 3).toNat) (fun i H' => (∃ ps : List Str, H' D = some (.lst (ps.map V.str)) ∧ ps.length = i ∧ ∀ q ∈ ps, q ∈ men33) ∧ H' p = some (.lst (men33.map V.str)) ∧ Kp [] H H')
    ⟨⟨[], upd_same, rfl, fun q m => absurd m List.not_mem_nil⟩, by rw [upd_ne npD]; exact upd_same, kp.trans (Kp.new hD _)⟩ (fun i G hi ⟨⟨ps, e1, l1, m1⟩, e2, k2⟩ => ⟨rfl, ?_⟩) (fun G ⟨⟨ps, e1, l1, m1⟩, e2, k2⟩ => ?_)
  · walk_at "wq"
    simp only [tYes, if_true]
    have hm0 : ∀ x : Int, 0 ≤ x % 8 ∧ x % 8 < 8 := fun x => ⟨Int.emod_nonneg x (by decide), Int.emod_lt_of_pos x (by decide)⟩
    refine ⟨_, rfl, _, rfl, _, rfl, _, rfl, by unfold CMul; omega, n, rfl, two200 (by omega) (by have : (2 : Int) ^ 200 = ((2 ^ 200 : Nat) : Int) := by decide +kernel
                                                                                                 rw [this]; have : (2 : Nat) ^ 200 ≥ 1000 := by decide +kernel
                                                                                                 omega), by decide, p, rfl, _, e2, ?_⟩
    obtain ⟨z0, z1⟩ := hm0 (n / (8 * (0 + (i : Int)) + 1))
    obtain ⟨q0, mq0, hq0⟩ : ∃ q0 ∈ men33, atI (men33.map V.str) (n / (8 * (0 + (i : Int)) + 1) % 8) = some (.str q0) := by
      obtain ⟨k, ek⟩ : ∃ k : Nat, n / (8 * (0 + (i : Int)) + 1) % 8 = (k : Nat) := ⟨(n / (8 * (0 + (i : Int)) + 1) % 8).toNat, by omega⟩
      rw [ek] at z1 ⊢
      have kl : k < men33.length := by show k < 8; omega
      exact ⟨men33[k], List.getElem_mem kl, atI_nat (by rw [List.getElem?_map, List.getElem?_eq_getElem kl]; rfl)⟩
    have nD : H D = none := kp.gone1 (fun b mb => absurd mb List.not_mem_nil) hD
    refine ⟨_, hq0, _, e1, by rw [List.length_map]; omega, ⟨ps ++ [q0], by rw [List.map_append]; rfl, by rw [List.length_append, l1]; rfl, fun q mq => ?_⟩, by rw [upd_ne npD]; exact e2, k2.upd nD e1⟩
    rcases List.mem_append.mp mq with mq | mq
    · exact m1 q mq
    · rw [List.mem_singleton.mp mq]; exact mq0
  · refine ⟨D, rfl, _, .inl ⟨SqL.of e1, fun l hl => ?_⟩⟩
    exact q l ps _ m1 (by omega) (by omega) (k2.gone1 (fun b mb => absurd mb List.not_mem_nil) hl) upd_same (k2.trans (Kp.new hl _))
theorem ok_fit33 {n : Nat} (F : Fun K "_law_fits" "_law_fits" s_law_fits f fd) (B : Blt mg) (hany : mg "any" = none) (c_law_fits : Cal P w K mg base CX0 n "_law_fits" (spFit33 n)) : FnOk P w K mg base CX0 (n + 1) f fd ["mark", "part"] (spFit33 (n + 1)) := by
  refine F.ok sc_law_fits (fun vs H Q E h => ?_) (fun cdv A outer s H vs Q E hr h => ?_)
  · obtain ⟨_, _, rfl, _⟩ := h; rfl
  obtain ⟨a, b, rfl, la, la2, lb, q⟩ := h
  refine ⟨_, (pss_cons (ps_if (pt_cmpR op_eq (pv 0) pe_str (nomark _)) (pss_one (ps_ret (pe_cmpR op_eq (pv 1) pe_str (nomark _)))) pss_nil)
    (pss_cons (ps_if (pt_cmpR op_eq (pe_ix ix_str (pv 0) pe_int (fun _ _ => rfl)) pe_str (nomark _)) (pss_one (ps_ret (pe_callB (cr_any rfl) rfl hany (by decide +kernel) (pa_cons (pe_lc (own := [("k", 2)]) (g := gName 2) (tt := tYes) rfl sc_law_fits.nd (B.range1 (pa_cons (pe_op op_add (B.len_s (pa_cons (pv 1) pa_nil)) pe_int) pa_nil)) (blkOk_by (own := [("k", 2)]) (N := N_law_fits) (sc := defScope s_law_fits) (by decide +kernel)) (fun _ _ _ _ _ => pg_name (i := 2) sc_law_fits.nd rfl (Or.inl rfl)) (fun _ _ _ _ _ => pts_nil) (fun _ _ _ _ _ => (c_law_fits.pe hr (pa_cons (pe_slice sl_str (pv 0) (po_some pe_int) po_none) (pa_cons (pe_slice sl_str (pv 1) (po_some (pv 2)) po_none) pa_nil))))) pa_nil)))) pss_nil)
    (pss_one (ps_ret (pe_and (pe_cmpR op_ne (pv 1) pe_str (nomark _)) (pe_and (pe_cmpR op_eq (pe_ix ix_str (pv 0) pe_int (fun _ _ => rfl)) (pe_ix ix_str (pv 1) pe_int (fun _ _ => rfl)) (nomark _)) (pe_one (c_law_fits.pe hr (pa_cons (pe_slice sl_str (pv 0) (po_some pe_int) po_none) (pa_cons (pe_slice sl_str (pv 1) (po_some pe_int) po_none) pa_nil)))))))))), ?_⟩
  have lim : sizeLine = 16777216 := sizeLine_eq
  walk_at "wq"
  by_cases ca : a = Str.ofString ""
  · subst ca
    refine if_yes rfl ?_
    have : fitF (Str.ofString "").cps.toList b.cps.toList = decide (b = Str.ofString "") := by
      show b.cps.toList.isEmpty = _
      rw [Bool.eq_iff_iff, decide_eq_true_eq, List.isEmpty_iff]
      exact ⟨fun h => str_ext33 h, fun h => by rw [h]; rfl⟩
    rw [← this]
    exact q H (Kp.refl _ _)
  refine if_no ca ?_
  obtain ⟨c, m, ea⟩ : ∃ c m, a.cps.toList = c :: m := by
    cases h : a.cps.toList with
    | nil => exact absurd (str_ext33 h) ca
    | cons c m => exact ⟨c, m, rfl⟩
  have lal : a.length = m.length + 1 := by
    show a.cps.size = _
    rw [← Array.length_toList, ea]; rfl
  have ca0 : (cutS a (some 1) none).cps.toList = m := by
    have := cut_from a 1
    rw [show TL.tl a = a.cps.toList from rfl, ea] at this
    exact this
  have lca : (cutS a (some 1) none).length = m.length := by
    show (cutS a (some 1) none).cps.size = _
    rw [← Array.length_toList, ca0]
  refine ⟨a, 0, c, rfl, rfl, by omega, atI_nat (j := 0) (by rw [ea]; rfl), rfl, ?_⟩
  have estar : (V.str ⟨#[c]⟩ = V.str (Str.ofString "*")) ↔ c = 42 := by
    constructor
    · intro h
      injection h with h
      have := congrArg (fun z : Str => z.cps.toList) h
      exact (List.cons.inj this).1
    · rintro rfl; rfl
  by_cases c42 : c = 42
  · refine if_yes (estar.mpr c42) ?_
    refine ⟨.str b, rfl, b, rfl, by omega, (b.length : Int), 1, rfl, rfl, (b.length : Int) + 1, rfl, by omega, by omega, fun D hD => ?_⟩
    have ef : fitF a.cps.toList b.cps.toList = (List.range (b.cps.toList.length + 1)).any fun k => fitF m (b.cps.toList.drop k) := by
      rw [ea, fitF, if_pos c42]
    have lbb : b.cps.toList.length = b.length := Array.length_toList
    rw [ef, lbb] at q
    rw [show ((b.length : Int) + 1).toNat = b.length + 1 by omega]
    refine lc_range (lo := 0) (n := b.length + 1) (fun i H' => H' D = some (.lst ((List.range i).map fun k => V.bl (fitF m (b.cps.toList.drop k)))) ∧ Kp [] H H')
      ⟨upd_same, Kp.new hD _⟩ (fun i G hi ⟨e1, k1⟩ => ⟨rfl, ?_⟩) (fun G ⟨e1, k1⟩ => ?_)
    · walk_at "wq"
      simp only [tYes, if_true]
      have cbi : (cutS b (some (0 + (i : Int))) none).cps.toList = b.cps.toList.drop i := by
        have := cut_from b i
        rw [show (0 : Int) + (i : Nat) = ((i : Nat) : Int) by omega]
        exact this
      have lci : (cutS b (some (0 + (i : Int))) none).length ≤ b.length := cutS_length b _ _
      refine ⟨_, rfl, a, rfl, by omega, _, rfl, _, rfl, 0 + (i : Int), rfl, b, rfl, by omega, cutS a (some 1) none, cutS b (some (0 + (i : Int))) none, rfl, by omega, by omega, by omega, fun H' k => ?_⟩
      rw [ca0, cbi]
      have nD : H D = none := by
        have := hD
        exact this
      refine ⟨_, (k.keep _ _ List.not_mem_nil e1), by rw [List.length_map, List.length_range]; omega, ?_, (k1.trans k).upd nD (k.keep _ _ List.not_mem_nil e1)⟩
      rw [List.range_succ, List.map_append]; rfl
    · refine ⟨D, (List.range (b.length + 1)).map fun k => fitF m (b.cps.toList.drop k), rfl, SqL.of (by rw [e1, List.map_map]; rfl), ?_⟩
      rw [List.any_map]
      exact q G k1
  · refine if_no (fun h => c42 (estar.mp h)) ?_
    have ef : fitF a.cps.toList b.cps.toList = (!b.cps.toList.isEmpty && (decide (b.cps.toList.head? = some c) && fitF m (b.cps.toList.drop 1))) := by
      rw [ea, fitF, if_neg c42]
    rw [ef] at q
    by_cases cb : b = Str.ofString ""
    · subst cb
      exact if_no (by simp) (q H (Kp.refl _ _))
    refine if_yes cb ?_
    obtain ⟨d, l, eb⟩ : ∃ d l, b.cps.toList = d :: l := by
      cases h : b.cps.toList with
      | nil => exact absurd (str_ext33 h) cb
      | cons c m => exact ⟨c, m, rfl⟩
    have lbl : b.length = l.length + 1 := by
      show b.cps.size = _
      rw [← Array.length_toList, eb]; rfl
    have cb0 : (cutS b (some 1) none).cps.toList = l := by
      have := cut_from b 1
      rw [show TL.tl b = b.cps.toList from rfl, eb] at this
      exact this
    have lcb : (cutS b (some 1) none).length = l.length := by
      show (cutS b (some 1) none).cps.size = _
      rw [← Array.length_toList, cb0]
    rw [eb] at q
    have q : ∀ H', Kp [] H H' → Q (.bl (decide (some d = some c) && fitF m l)) H' := q
    refine ⟨a, 0, c, rfl, rfl, by omega, atI_nat (j := 0) (by rw [ea]; rfl), b, 0, d, rfl, rfl, by omega, atI_nat (j := 0) (by rw [eb]; rfl), rfl, ?_⟩
    by_cases cd : d = c
    · subst cd
      refine if_yes rfl ⟨by omega, by omega, cutS a (some 1) none, cutS b (some 1) none, rfl, by omega, by omega, by omega, fun H' k => ?_⟩
      rw [ca0, cb0]
      have := q H' k
      rw [decide_eq_true rfl, Bool.true_and] at this
      exact this
    · refine if_no (fun h => cd ?_) ?_
      · injection h with h
        have := congrArg (fun z : Str => z.cps.toList) h
        exact ((List.cons.inj this).1).symm
      · have := q H (Kp.refl _ _)
        rw [decide_eq_false (fun h => cd (Option.some.inj h)), Bool.false_and] at this
        exact this
end
/-! k33: the law's covers -/
def one33 (z p : Str) : Bool := decide ((Txt.split p (Str.ofString "/")).length = (Txt.split z (Str.ofString "/")).length) && (List.range (Txt.split z (Str.ofString "/")).length).all fun k => fitF ((Txt.split p (Str.ofString "/")).getD k Str.empty).cps.toList ((Txt.split z (Str.ofString "/")).getD k Str.empty).cps.toList
theorem one_mt : ∀ z ∈ pth33, ∀ p ∈ men33, one33 z p = mtW p z := by decide +kernel
theorem men_ok : ∀ p ∈ men33, p.length ≤ 10 ∧ (Txt.split p (Str.ofString "/")).length ≤ 3 ∧ ∀ q ∈ Txt.split p (Str.ofString "/"), q.length ≤ 5 := by decide +kernel
theorem pth_ok : ∀ p ∈ pth33, p.length ≤ 10 ∧ (Txt.split p (Str.ofString "/")).length ≤ 3 ∧ ∀ q ∈ Txt.split p (Str.ofString "/"), q.length ≤ 5 := by decide +kernel
def spCov33 : Sp := fun vs H Q _ => ∃ (pt : Addr) (ps : List Str) (z : Str), vs = [.ref pt, .str z] ∧ H pt = some (.tup (ps.map V.str)) ∧ (∀ q ∈ ps, q ∈ men33) ∧ z ∈ pth33 ∧ ∀ H', Kp [] H H' → Q (.bl (ps.any fun p => mtW p z)) H'
section
variable {P : Program} {w : World} {K : PySem.W.Frag} {mg : Str → Option Value} {base : Heap} {f : Addr} {fd : FuncData} {C CB R : Addr} {Ts : List Addr}
theorem ok_cov33 (F : Fun K "_law_covers" "_law_covers" s_law_covers f fd) (B : Blt mg) (c_law_fits : Cal P w K mg base CX0 8 "_law_fits" (spFit33 8)) : FnOk P w K mg base CX0 9 f fd ["patterns", "path"] spCov33 := by
  refine F.ok sc_law_covers (fun vs H Q E h => ?_) (fun cdv A outer s H vs Q E hr h => ?_)
  · obtain ⟨_, _, _, rfl, _⟩ := h; rfl
  obtain ⟨pt, ps, z, rfl, ep, hps, hz, q⟩ := h
  refine ⟨_, (pss_cons (ps_set (i := 2) sc_law_covers.nd rfl (Or.inr rfl) (pe_m1 PySem.F.slot_str_split PySem.F.type_str_split mt_split (pv 1) pe_str))
    (pss_cons (ps_for PassesOwn.never rfl (pi_tup (pv 0)) (pg_name (i := 3) sc_law_covers.nd rfl (Or.inl rfl)) (pss_cons (ps_set (i := 4) sc_law_covers.nd rfl (Or.inr rfl) (pe_m1 PySem.F.slot_str_split PySem.F.type_str_split mt_split (pv 3) pe_str))
    (pss_one (ps_if (PW.pt (pw_and (pt_cmpR op_eq (B.len_q (pa_cons (pv 4) pa_nil)) (B.len_q (pa_cons (pv 2) pa_nil)) (nomark _)) (pw_and1 (pt_val (pe_callB (cr_all rfl) rfl B.all (by decide +kernel) (pa_cons (pe_lc (own := [("k", 5)]) (g := gName 5) (tt := tYes) rfl sc_law_covers.nd (B.range1 (pa_cons (B.len_q (pa_cons (pv 2) pa_nil)) pa_nil)) (blkOk_by (own := [("k", 5)]) (N := N_law_covers) (sc := defScope s_law_covers) (by decide +kernel)) (fun _ _ _ _ _ => pg_name (i := 5) sc_law_covers.nd rfl (Or.inl rfl)) (fun _ _ _ _ _ => pts_nil) (fun _ _ _ _ _ => (c_law_fits.pe hr (pa_cons (pe_ix ix_lM (pv 4) (pv 5) (fun _ _ => rfl)) (pa_cons (pe_ix ix_lM (pv 2) (pv 5) (fun _ _ => rfl)) pa_nil))))) pa_nil)))))) (pss_one (ps_ret pe_bl)) pss_nil))))
    (pss_one (ps_ret pe_bl)))), ?_⟩
  have lim : sizeLine = 16777216 := sizeLine_eq
  walk_at "wq"
  obtain ⟨zl, zn, zq⟩ := pth_ok z hz
  refine ⟨⟨_, rfl⟩, rfl, by omega, fun pl hpl => ?_⟩
  generalize hzp : Txt.split z (Str.ofString "/") = zp at *
  have kp : Kp [] H (upd H pl (.lst (zp.map V.str))) := Kp.new hpl _
  refine ⟨_, rfl, pt, rfl, ⟨_, SqT.of (kp.keep _ _ List.not_mem_nil ep)⟩, ?_⟩
  refine for_tup (K := K) (a := pt) (xs := ps.map V.str) (fun i σ H' => (∃ o3 o4 o5 : Option V, σ = [some (.ref pt), some (.str z), some (.ref pl), o3, o4, o5]) ∧ H' pl = some (.lst (zp.map V.str)) ∧ Kp [] H H' ∧ (ps.take i).any (fun p => mtW p z) = false)
    ⟨⟨_, _, _, rfl⟩, upd_same, kp, rfl⟩ (fun i σ H' _ ⟨⟨_, _, _, _⟩, _, k, _⟩ => SqT.of (k.keep _ _ List.not_mem_nil ep)) (fun i x σ H' hx ⟨⟨o3, o4, o5, hσ⟩, el, k, ha⟩ => ?_) (fun σ H' ⟨⟨o3, o4, o5, hσ⟩, el, k, ha⟩ => ?_)
  · subst hσ
    rw [List.getElem?_map] at hx
    obtain ⟨p, hp, rfl⟩ := Option.map_eq_some_iff.mp hx
    have mp := List.mem_of_getElem? hp
    have tk : ps.take (i + 1) = ps.take i ++ [p] := by rw [List.take_add_one, hp]; rfl
    obtain ⟨plen, pn, pq⟩ := men_ok p (hps p mp)
    have hone := one_mt z hz p (hps p mp)
    unfold one33 at hone
    rw [hzp] at hone
    walk_at "wq"
    refine ⟨⟨_, rfl⟩, rfl, by omega, fun ml hml => ?_⟩
    generalize hpp : Txt.split p (Str.ofString "/") = pp at *
    have km : Kp [] H' (upd H' ml (.lst (pp.map V.str))) := Kp.new hml _
    have el1 := km.keep _ _ List.not_mem_nil el
    have no : mtW p z = false → (ps.take (i + 1)).any (fun p => mtW p z) = false := fun h => by
      rw [tk, List.any_append, ha]; simp [h]
    refine ⟨ml, rfl, _, .inl (SqL.of upd_same), _, .inl (SqL.of el1), ?_⟩
    rw [List.length_map, List.length_map]
    by_cases cl : pp.length = zp.length
    rotate_left
    · exact if_no (by omega) ⟨⟨_, rfl⟩, el1, k.trans km, no (by rw [← hone, decide_eq_false cl]; rfl)⟩
    refine if_yes (by omega) ⟨.ref pl, rfl, pl, rfl, _, .inl (SqL.of el1), _, rfl, by rw [List.length_map]; omega, by rw [List.length_map]; omega, fun D hD => ?_⟩
    rw [List.length_map, show ((zp.length : Nat) : Int).toNat = zp.length by omega]
    have nD0 : H' D = none := km.gone1 (fun b mb => absurd mb List.not_mem_nil) hD
    refine lc_range (lo := 0) (n := zp.length) (fun i G => G D = some (.lst ((List.range i).map fun k => V.bl (fitF (pp.getD k Str.empty).cps.toList (zp.getD k Str.empty).cps.toList))) ∧ G ml = some (.lst (pp.map V.str)) ∧ G pl = some (.lst (zp.map V.str)) ∧ Kp [] H' G)
      ⟨upd_same, by rw [upd_ne (ne_of_none upd_same hD)]; exact upd_same, by rw [upd_ne (ne_of_none el1 hD)]; exact el1, km.trans (Kp.new hD _)⟩ (fun i G hi ⟨e1, e2, e3, k1⟩ => ⟨rfl, ?_⟩) (fun G ⟨e1, e2, e3, k1⟩ => ?_)
    · walk_at "wq"
      simp only [tYes, if_true]
      have a1 : atI (pp.map V.str) (0 + (i : Int)) = some (.str (pp.getD i Str.empty)) := by
        rw [show (0 : Int) + (i : Nat) = ((i : Nat) : Int) by omega]
        refine atI_nat ?_
        rw [List.getElem?_map, List.getElem?_eq_getElem (by omega), List.getD_eq_getElem?_getD, List.getElem?_eq_getElem (by omega)]; rfl
      have a2 : atI (zp.map V.str) (0 + (i : Int)) = some (.str (zp.getD i Str.empty)) := by
        rw [show (0 : Int) + (i : Nat) = ((i : Nat) : Int) by omega]
        refine atI_nat ?_
        rw [List.getElem?_map, List.getElem?_eq_getElem hi, List.getD_eq_getElem?_getD, List.getElem?_eq_getElem hi]; rfl
      have l1 : (pp.getD i Str.empty).length ≤ 5 := pq _ (by rw [List.getD_eq_getElem?_getD, List.getElem?_eq_getElem (by omega)]; exact List.getElem_mem _)
      have l2 : (zp.getD i Str.empty).length ≤ 5 := zq _ (by rw [List.getD_eq_getElem?_getD, List.getElem?_eq_getElem hi]; exact List.getElem_mem _)
      refine ⟨_, rfl, _, rfl, ml, rfl, _, e2, _, rfl, _, a1, _, rfl, _, rfl, pl, rfl, _, e3, _, rfl, _, a2, pp.getD i Str.empty, zp.getD i Str.empty, rfl, by omega, by omega, by omega, fun G2 k2 => ?_⟩
      have f1 := k2.keep _ _ List.not_mem_nil e1
      refine ⟨_, f1, by rw [List.length_map, List.length_range]; omega, ?_, ?_, ?_, ?_⟩
      · rw [List.range_succ, List.map_append]; rfl
      · rw [upd_ne (ne_of_none (show upd H' ml (.lst (pp.map V.str)) ml = _ from upd_same) hD)]; exact k2.keep _ _ List.not_mem_nil e2
      · rw [upd_ne (ne_of_none el1 hD)]; exact k2.keep _ _ List.not_mem_nil e3
      · exact (k1.trans k2).upd nD0 f1
    · refine ⟨D, (List.range zp.length).map fun k => fitF (pp.getD k Str.empty).cps.toList (zp.getD k Str.empty).cps.toList, rfl, SqL.of (by rw [e1, List.map_map]; rfl), ?_⟩
      rw [List.all_map]
      refine ⟨_, rfl, ?_⟩
      have e4 : (List.range zp.length).all (id ∘ fun k => fitF (pp.getD k Str.empty).cps.toList (zp.getD k Str.empty).cps.toList) = mtW p z := by
        rw [← hone, decide_eq_true cl]; rfl
      rw [e4]
      cases hm : mtW p z with
      | false => exact if_no (by simp) ⟨⟨_, rfl⟩, e3, k.trans k1, no hm⟩
      | true =>
        refine if_yes rfl ?_
        have : ps.any (fun p => mtW p z) = true := List.any_eq_true.mpr ⟨p, mp, hm⟩
        have q := q G (k.trans k1)
        rw [this] at q
        exact q
  · subst hσ
    rw [List.length_map, List.take_length] at ha
    walk_at "wq"
    have := q H' k
    rw [ha] at this
    exact this
end
/-! k33: a list that the law draws -/
abbrev s_law_list : Stmt := top 59
abbrev N_law_list : List Str := ["name", "number", "key", "goods", "k", "grants", "rows", "other", "role", "path"]
theorem sc_law_list : FnScope N_law_list ["name", "number", "key"] (defScope s_law_list) := ⟨rfl, rfl, rfl, by decide +kernel, rfl, by decide +kernel, by decide +kernel⟩
def putA {α : Type} (l : List (Str × α)) (n : Str) (t : α) : List (Str × α) :=
  if (l.any fun p => decide (p.1 = n)) = true then l.map (fun p => if p.1 = n then (p.1, t) else p) else l ++ [(n, t)]
theorem KvD.put {H : Hp} {n : Str} {v : V} {d : PyData} (r : Rq H v d) : ∀ {kvs : List (Key × V)} {l : List (Str × PyData)}, KvD H kvs l → KvD H (putK kvs (Sum.inr n) v) (putA l n d) := by
  intro kvs l h
  have any : ∀ {kvs : List (Key × V)} {l : List (Str × PyData)}, KvD H kvs l → (kvs.any fun kv => decide (kv.1 = (Sum.inr n : Key))) = l.any fun p => decide (p.1 = n) := by
    intro kvs l h
    induction h with
    | nil => rfl
    | @cons m _ _ _ _ _ _ ih =>
      rw [List.any_cons, List.any_cons, ih]
      congr 1
      exact decide_eq_decide.mpr ⟨fun e => Sum.inr.inj e, fun e => congrArg Sum.inr e⟩
  have mp : ∀ {kvs : List (Key × V)} {l : List (Str × PyData)}, KvD H kvs l → KvD H (kvs.map fun kv => if kv.1 = (Sum.inr n : Key) then (kv.1, v) else kv) (l.map fun p => if p.1 = n then (p.1, d) else p) := by
    intro kvs l h
    induction h with
    | nil => exact .nil
    | @cons m _ _ _ _ a _ ih =>
      rw [List.map_cons, List.map_cons]
      by_cases e : m = n
      · subst e
        rw [if_pos rfl, if_pos rfl]
        exact .cons r ih
      · rw [if_neg (fun z => e (Sum.inr.inj z)), if_neg e]
        exact .cons a ih
  have ap : ∀ {kvs : List (Key × V)} {l : List (Str × PyData)}, KvD H kvs l → KvD H (kvs ++ [(Sum.inr n, v)]) (l ++ [(n, d)]) := by
    intro kvs l h
    induction h with
    | nil => exact .cons r .nil
    | cons a _ ih => exact .cons a ih
  unfold putK putA
  rw [any h]
  split
  · exact mp h
  · exact ap h
theorem putA_mem {α : Type} {l : List (Str × α)} {n : Str} {t : α} {p : Str × α} (h : p ∈ putA l n t) : p ∈ l ∨ p = (n, t) := by
  unfold putA at h
  split at h
  · obtain ⟨q, m, rfl⟩ := List.mem_map.mp h
    split
    · rename_i c; subst c; exact .inr rfl
    · exact .inl m
  · rcases List.mem_append.mp h with m | m
    · exact .inl m
    · exact .inr (List.mem_singleton.mp m)
theorem ky_num {n : Int} (h0 : 0 ≤ n) (h1 : n < 100000000000) : kyS (Str.ofString "k" ++ Str.ofString (toString n)) = true ∧ (Str.ofString (toString n)).length ≤ 11 ∧ n.natAbs.log2 < 1920 := by
  obtain ⟨m, rfl⟩ : ∃ m : Nat, n = (m : Nat) := ⟨n.toNat, by omega⟩
  have hm : m < 10 ^ 11 := by have : (10 : Nat) ^ 11 = 100000000000 := by decide
                              omega
  have dl : (dig m).length ≤ 11 := TL.numL_len (by decide) hm
  obtain ⟨a, r, e, _⟩ := dig_first m
  have e1 : TL.tl (Str.ofString (toString ((m : Nat) : Int))) = dig m := TL.tl_num m
  have e2 : TL.tl (Str.ofString "k" ++ Str.ofString (toString ((m : Nat) : Int))) = 107 :: dig m := by rw [TL.tl_append, e1]; rfl
  have l1 := TL.len_tl (Str.ofString (toString ((m : Nat) : Int)))
  have l2 := TL.len_tl (Str.ofString "k" ++ Str.ofString (toString ((m : Nat) : Int)))
  rw [e1] at l1
  rw [e2, List.length_cons] at l2
  have d1 : 1 ≤ (dig m).length := by rw [e]; simp
  refine ⟨?_, by omega, (intT h0 (by omega)).1⟩
  unfold kyS
  rw [decide_eq_true (by omega), decide_eq_true (by omega), Bool.true_and, Bool.true_and, Bool.and_eq_true]
  refine ⟨decide_eq_true ?_, ?_⟩
  · rw [show (Str.ofString "k" ++ Str.ofString (toString ((m : Nat) : Int))).cps.toList = 107 :: dig m from e2]; rfl
  · unfold inT
    have e3 : TL.tl (cutS (Str.ofString "k" ++ Str.ofString (toString ((m : Nat) : Int))) (some 1) none) = dig m := by
      have := cut_from (Str.ofString "k" ++ Str.ofString (toString ((m : Nat) : Int))) 1
      rw [e2] at this
      exact this
    rw [show (cutS (Str.ofString "k" ++ Str.ofString (toString ((m : Nat) : Int))) (some 1) none).cps.toList = dig m from e3]
    refine List.all_eq_true.mpr fun c hc => ?_
    have := dig_isD m c hc
    unfold isD at this
    rw [Bool.and_eq_true, decide_eq_true_eq, decide_eq_true_eq] at this
    exact (by decide +kernel : ∀ c < 58, 48 ≤ c → decide (c ∈ (Str.ofString "0123456789").cps.toList) = true) c (by omega) this.1
theorem kp_dk {S : List Addr} {H : Hp} {a : Addr} {kvs kvs' : List (Key × V)} (e : H a = some (.dK kvs)) (m : a ∈ S) : Kp S H (upd H a (.dK kvs')) :=
  ⟨fun b u nb h => by rw [upd_ne (fun e => nb (by rw [e]; exact m))]; exact h, fun b us h => by rw [upd_ne (ne_of h e (by intro e; cases e))]; exact h⟩
theorem kp_at {S : List Addr} {H : Hp} {a : Addr} {o o' : HO} (e : H a = some o) (no : ∀ us, HO.tup us ≠ o) (m : a ∈ S) : Kp S H (upd H a o') :=
  ⟨fun b u nb h => by rw [upd_ne (fun e => nb (by rw [e]; exact m))]; exact h, fun b us h => by rw [upd_ne (ne_of h e (no us))]; exact h⟩
theorem dig33 : ∀ i : Nat, i < 2 → (Str.ofString (toString ((0 : Int) + (i : Int)))).length = 1 ∧ isDig (.str (Str.ofString "00000000000000000" ++ Str.ofString (toString ((0 : Int) + (i : Int))))) = true := by decide +kernel
theorem rcat_q {K : PySem.W.Frag} {H : Hp} {a b : Addr} {xs ys : List V} {Q : VK} (ea : H a = some (.tup xs)) (eb : H b = some (.tup ys)) (n1 : xs ≠ []) (n2 : ys ≠ []) (l : xs.length + ys.length ≤ 1000) (q : ∀ z H', H z = none → H' z = some (.tup (xs ++ ys)) → Kp [] H H' → Q (.ref z) H') : rCatT K (.ref a) (.ref b) H Q :=
  ⟨a, b, xs, ys, rfl, rfl, SqT.of ea, SqT.of eb, n1, Nat.le_trans l (by rw [sizeLine_eq]; decide), fun h => absurd h n2, fun _ z hz => q z _ hz upd_same (Kp.new hz _)⟩
theorem rqa_of_strs {H : Hp} : ∀ ps : List Str, RqA H (ps.map V.str) (ps.map PyData.str)
  | [] => .nil
  | p :: ps => .cons (.str p) (rqa_of_strs ps)
theorem nms33_ok : nms33.Nodup ∧ (∀ z ∈ nms33, lnS z = true) ∧ ∀ z ∈ nms33.drop 1, z ≠ Str.ofString "list" := by decide +kernel
theorem men33_ok : ∀ q ∈ men33, hpS ptM q = true ∧ q.length ≤ 100 ∧ ∀ c ∈ q.cps.toList, c < 128 := by decide +kernel
theorem pth33_ok : ∀ q ∈ pth33, paD paM (.str q) = true ∧ q.length ≤ 100 ∧ ∀ c ∈ q.cps.toList, c < 128 := by decide +kernel
/-- a grant that the law draws -/
structure Gr33 (g : PyData) : Prop where
  ok : isGrant g = true
  inn : inD 4 g = true
  nm : ∃ z ∈ nms33, ixD g 0 = .str z
  ps : ∃ ps : List Str, (∀ q ∈ ps, q ∈ men33) ∧ ixD g 2 = .tuple (ps.map PyData.str)
def grD33 (z : Str) (ky : Str) (ps : List Str) (la : Int) : PyData := .tuple [.str z, .tuple [.int 1, .tuple [.str ky]], .tuple (ps.map PyData.str), .int la]
theorem gr33 {z : Str} {ky : Str} {ps : List Str} {la : Int} (h1 : z ∈ nms33.drop 1) (hk : kyS ky = true) (hp : ∀ q ∈ ps, q ∈ men33) (p1 : 1 ≤ ps.length) (p2 : ps.length ≤ 3) (l0 : 0 ≤ la) (l1 : la ≤ 1) : Gr33 (grD33 z ky ps la) := by
  have mz : z ∈ nms33 := List.mem_of_mem_drop h1
  have ln := nms33_ok.2.1 z mz
  have lw := ln_low ln
  have kl := ky_low hk
  have kn := ky_len hk
  refine ⟨?_, ?_, ⟨z, mz, rfl⟩, ⟨ps, hp, rfl⟩⟩
  · unfold isGrant grD33
    show (true && (lnS z && (!decide (z = Str.ofString "list") && (isRole (.tuple [.int 1, .tuple [.str ky]]) && ((decide (1 ≤ (ps.map PyData.str).length) && decide ((ps.map PyData.str).length ≤ 8)) && ((ps.map PyData.str).all (paD ptM) && (decide (0 ≤ la) && decide (la ≤ 1)))))))) = true
    have ro : isRole (.tuple [.int 1, .tuple [.str ky]]) = true := by
      show (true && (true && ((kyS ky && true) && (asc [ky] && (decide ((1 : Int) ≤ 1) && decide ((1 : Int) ≤ ((1 : Nat) : Int))))))) = true
      rw [hk]; rfl
    rw [ln, decide_eq_false (nms33_ok.2.2 z h1), ro, List.length_map, decide_eq_true p1, decide_eq_true (p := ps.length ≤ 8) (by omega), decide_eq_true l0, decide_eq_true l1, List.all_eq_true.mpr fun d m => by
      obtain ⟨q, mq, rfl⟩ := List.mem_map.mp m
      exact (men33_ok q (hp q mq)).1]
    rfl
  · refine inD_tup.mpr ⟨Nat.le_of_ble_eq_true rfl, fun d m => ?_⟩
    rcases List.mem_cons.mp m with rfl | m
    · exact inD_str.mpr ⟨by omega, lw.2⟩
    rcases List.mem_cons.mp m with rfl | m
    · refine inD_tup.mpr ⟨Nat.le_of_ble_eq_true rfl, fun d m => ?_⟩
      rcases List.mem_cons.mp m with rfl | m
      · exact inD_int.mpr ⟨by decide, by decide⟩
      · rw [List.mem_singleton.mp m]
        refine inD_tup.mpr ⟨Nat.le_of_ble_eq_true rfl, fun d m => ?_⟩
        rw [List.mem_singleton.mp m]
        exact inD_str.mpr ⟨by omega, kl⟩
    rcases List.mem_cons.mp m with rfl | m
    · refine inD_tup.mpr ⟨by rw [List.length_map]; omega, fun d m => ?_⟩
      obtain ⟨q, mq, rfl⟩ := List.mem_map.mp m
      exact inD_str.mpr ⟨(men33_ok q (hp q mq)).2.1, (men33_ok q (hp q mq)).2.2⟩
    · rw [List.mem_singleton.mp m]
      exact inD_int.mpr ⟨l0, by omega⟩
/-- a list that the law draws -/
structure L33 (z : Str) (d : PyData) : Prop where
  ok : isList d = true
  inn : inD 6 d = true
  nm : ixD d 1 = .str z
  t6 : tupB 6 6 d = true
  gr : ∀ g ∈ itD (ixD d 5), Gr33 g
def spLst33 : Sp := fun vs H Q _ => ∃ (nm : Str) (n ky : Int), vs = [.str nm, .int n, .int ky] ∧ nm ∈ nms33 ∧ 0 ≤ n ∧ 0 ≤ ky ∧ ky ≤ 100 ∧
  ∀ (r : Addr) (d : PyData) (H' : Hp), Rq H' (.ref r) d → L33 nm d → H r = none → Kp [] H H' → Q (.ref r) H'
theorem putA_map {n : Str} {d : PyData} (l : List (Str × PyData)) : (putA l n d).map (·.1) = if n ∈ l.map (·.1) then l.map (·.1) else l.map (·.1) ++ [n] := by
  unfold putA
  by_cases c : (l.any fun p => decide (p.1 = n)) = true
  · have m : n ∈ l.map (·.1) := by
      obtain ⟨p, mp, e⟩ := List.any_eq_true.mp c
      exact List.mem_map.mpr ⟨p, mp, of_decide_eq_true e⟩
    rw [if_pos c, if_pos m, List.map_map]
    refine List.map_congr_left fun p _ => ?_
    show (if p.1 = n then (p.1, d) else p).1 = p.1
    split <;> rfl
  · have m : n ∉ l.map (·.1) := fun m => by
      obtain ⟨p, mp, e⟩ := List.mem_map.mp m
      exact c (List.any_eq_true.mpr ⟨p, mp, decide_eq_true e⟩)
    rw [if_neg c, if_neg m, List.map_append]; rfl
theorem putA_nodup {n : Str} {d : PyData} {l : List (Str × PyData)} (h : (l.map (·.1)).Nodup) : ((putA l n d).map (·.1)).Nodup := by
  rw [putA_map]
  by_cases c : n ∈ l.map (·.1)
  · rw [if_pos c]; exact h
  · rw [if_neg c, List.nodup_append]
    exact ⟨h, List.nodup_cons.mpr ⟨List.not_mem_nil, List.nodup_nil⟩, fun a ma b mb e => c (by rw [← List.mem_singleton.mp mb, ← e]; exact ma)⟩
theorem mem_getA {ls : List (Str × PyData)} {n : Str} (h : n ∈ ls.map (·.1)) : ∃ d, getA ls n = some d := by
  unfold getA
  cases e : ls.find? (fun p => decide (p.1 = n)) with
  | some p => exact ⟨p.2, rfl⟩
  | none =>
    obtain ⟨p, mp, ep⟩ := List.mem_map.mp h
    have := List.find?_eq_none.mp e p mp
    simp [ep] at this
theorem KvD.len {H : Hp} : ∀ {kvs : List (Key × V)} {l : List (Str × PyData)}, KvD H kvs l → kvs.length = l.length
  | _, _, .nil => rfl
  | _, _, .cons _ b => by rw [List.length_cons, List.length_cons, b.len]
theorem KvD.keys {H : Hp} : ∀ {kvs : List (Key × V)} {l : List (Str × PyData)}, KvD H kvs l → kvs.map (·.1) = (l.map (·.1)).map Sum.inr
  | _, _, .nil => rfl
  | _, _, .cons _ b => by rw [List.map_cons, List.map_cons, List.map_cons, b.keys]
theorem KvD.at {H : Hp} : ∀ {kvs : List (Key × V)} {l : List (Str × PyData)} {i : Nat} {k : Key} {v : V}, KvD H kvs l → kvs[i]? = some (k, v) → ∃ n d, l[i]? = some (n, d) ∧ k = Sum.inr n ∧ Rq H v d
  | _, _, _, _, _, .nil, h => by cases h
  | _, _, 0, _, _, .cons a b, h => by cases h; exact ⟨_, _, rfl, rfl, a⟩
  | _, _, i + 1, _, _, .cons a b, h => b.at (i := i) h
theorem getA_ix : ∀ {l : List (Str × PyData)} {i : Nat} {p : Str × PyData}, (l.map (·.1)).Nodup → l[i]? = some p → getA l p.1 = some p.2
  | [], _, _, _, h => by cases h
  | q :: l, 0, p, _, h => by
    cases h
    simp [getA, List.find?_cons]
  | q :: l, i + 1, p, nd, h => by
    have nd2 := List.nodup_cons.mp nd
    have h : l[i]? = some p := h
    have ne : q.1 ≠ p.1 := fun e => nd2.1 (List.mem_map.mpr ⟨p, List.mem_of_getElem? h, e.symm⟩)
    have := getA_ix nd2.2 h
    simp only [getA, List.find?_cons, ne, decide_false]
    exact this
theorem wide33 {a : Int} {m : Int} (h0 : 0 < m) (h : m < 1000) : CDivW a m := two200 h0 (by
  have : (2 : Int) ^ 200 = ((2 ^ 200 : Nat) : Int) := by decide +kernel
  rw [this]
  have : (2 : Nat) ^ 200 ≥ 1000 := by decide +kernel
  omega)
/-- the files being drawn -/
structure Gd33 (gl : List (Str × PyData)) : Prop where
  nd : (gl.map (·.1)).Nodup
  ok : ∀ p ∈ gl, p.1 ∈ pth33 ∧ ∃ (a : Int) (dg : Str), p.2 = .tuple [.int a, .str dg] ∧ 0 ≤ a ∧ a ≤ 100 ∧ isDig (.str dg) = true
theorem Gd33.len {gl : List (Str × PyData)} (h : Gd33 gl) : gl.length ≤ 6 := by
  have := nodup_len h.nd (U := pth33) fun x m => by
    obtain ⟨p, mp, rfl⟩ := List.mem_map.mp m
    exact (h.ok p mp).1
  rw [List.length_map] at this; exact this
theorem Gd33.pur {gl : List (Str × PyData)} (h : Gd33 gl) : ∀ p ∈ gl, purD p.2 = true := fun p m => by
  obtain ⟨_, a, dg, e, _⟩ := h.ok p m
  rw [e]; rfl
def rowG (gl : List (Str × PyData)) (y : Str) : PyData := .tuple (.str y :: itD ((getA gl y).getD .none))
structure Gn33 (nm : Str) (el : List (Str × PyData)) : Prop where
  nd : (el.map (·.1)).Nodup
  ok : ∀ p ∈ el, p.1 ∈ nms33.drop 1 ∧ p.1 ≠ nm ∧ Gr33 p.2 ∧ ixD p.2 0 = .str p.1
theorem Gn33.len {nm : Str} {gl : List (Str × PyData)} (h : Gn33 nm gl) : gl.length ≤ 7 := by
  have := nodup_len h.nd (U := nms33.drop 1) fun x m => by
    obtain ⟨p, mp, rfl⟩ := List.mem_map.mp m
    exact (h.ok p mp).1
  rw [List.length_map] at this; exact this
theorem Gn33.pur {nm : Str} {gl : List (Str × PyData)} (h : Gn33 nm gl) : ∀ p ∈ gl, purD p.2 = true := fun p m => in_pur 4 _ (h.ok p m).2.2.1.inn
theorem goods33 {gl : List (Str × PyData)} (h : Gd33 gl) {ys : List Str} (hp : ys.Perm (gl.map (·.1))) (hs : PyProof.Rows.sortedS ys = true) : isGoods (.tuple (ys.map (rowG gl))) = true ∧ inD 5 (.tuple (ys.map (rowG gl))) = true := by
  have ly : ys.length ≤ 6 := by rw [hp.length_eq, List.length_map]; exact h.len
  have ndy : ys.Nodup := hp.nodup_iff.mpr h.nd
  have row : ∀ y ∈ ys, ∃ (a : Int) (dg : Str), rowG gl y = .tuple [.str y, .int a, .str dg] ∧ 0 ≤ a ∧ a ≤ 100 ∧ isDig (.str dg) = true ∧ y ∈ pth33 := fun y m => by
    obtain ⟨d, hd⟩ := mem_getA (ls := gl) (n := y) (hp.mem_iff.mp m)
    obtain ⟨b, a, dg, e, a0, a1, hdg⟩ := h.ok _ (getA_mem hd)
    refine ⟨a, dg, ?_, a0, a1, hdg, b⟩
    unfold rowG
    rw [hd, show d = _ from e]; rfl
  refine ⟨?_, ?_⟩
  · show ((decide (0 ≤ (ys.map (rowG gl)).length) && decide ((ys.map (rowG gl)).length ≤ 64)) && ((ys.map (rowG gl)).all isGood && asc ((ys.map (rowG gl)).map nmG))) = true
    have e1 : (ys.map (rowG gl)).map nmG = ys := by
      rw [List.map_map]
      exact (List.map_congr_left fun y _ => rfl).trans (List.map_id _)
    rw [e1, asc_of hs ndy, List.length_map, decide_eq_true (by omega), decide_eq_true (by omega), List.all_eq_true.mpr fun d m => by
      obtain ⟨y, my, rfl⟩ := List.mem_map.mp m
      obtain ⟨a, dg, e, a0, a1, hdg, py⟩ := row y my
      rw [e]
      show (true && (paD paM (.str y) && ((decide (0 ≤ a) && decide (a ≤ 1000000000000)) && isDig (.str dg)))) = true
      rw [(pth33_ok y py).1, hdg, decide_eq_true a0, decide_eq_true (p := a ≤ 1000000000000) (by omega)]; rfl]
    rfl
  · refine inD_tup.mpr ⟨by rw [List.length_map]; omega, fun d m => ?_⟩
    obtain ⟨y, my, rfl⟩ := List.mem_map.mp m
    obtain ⟨a, dg, e, a0, a1, hdg, py⟩ := row y my
    rw [e]
    refine inD_tup.mpr ⟨Nat.le_of_ble_eq_true rfl, fun d m => ?_⟩
    rcases List.mem_cons.mp m with rfl | m
    · exact inD_str.mpr ⟨(pth33_ok y py).2.1, (pth33_ok y py).2.2⟩
    rcases List.mem_cons.mp m with rfl | m
    · exact inD_int.mpr ⟨a0, by omega⟩
    · rw [List.mem_singleton.mp m]
      unfold isDig at hdg
      rw [Bool.and_eq_true, decide_eq_true_eq] at hdg
      exact inD_str.mpr ⟨by omega, hex_low hdg.2⟩
theorem l33 {nm : Str} {gd : PyData} {el : List (Str × PyData)} (hnm : nm ∈ nms33) (hg : isGoods gd = true) (ig : inD 5 gd = true) (he : Gn33 nm el) : L33 nm (.tuple [.str kL, .str nm, .int 1, .int 9, gd, .tuple (el.map (·.2))]) := by
  have ln := nms33_ok.2.1 nm hnm
  have lw := ln_low ln
  have le := he.len
  have en : (el.map (·.2)).map nmG = el.map (·.1) := by
    rw [List.map_map]
    refine List.map_congr_left fun p m => ?_
    show strD (ixD p.2 0) = p.1
    rw [(he.ok p m).2.2.2]; rfl
  have nn : (nm :: (el.map (·.2)).map nmG).Nodup := by
    rw [en]
    refine List.nodup_cons.mpr ⟨fun m => ?_, he.nd⟩
    obtain ⟨p, mp, e⟩ := List.mem_map.mp m
    exact (he.ok p mp).2.1 e
  have hgr : ∀ g ∈ el.map (·.2), Gr33 g := fun g m => by
    obtain ⟨p, mp, rfl⟩ := List.mem_map.mp m
    exact (he.ok p mp).2.2.1
  refine ⟨?_, ?_, rfl, rfl, hgr⟩
  · unfold isList
    rw [head_self kL _ (n := 6) rfl]
    show (true && (lnS nm && (true && (true && (isGoods gd && ((decide (0 ≤ (el.map (·.2)).length) && decide ((el.map (·.2)).length ≤ 32)) && ((el.map (·.2)).all isGrant && decide ((nm :: (el.map (·.2)).map nmG).Nodup)))))))) = true
    rw [ln, hg, decide_eq_true nn, List.length_map, decide_eq_true (p := 0 ≤ el.length) (by omega), decide_eq_true (p := el.length ≤ 32) (by omega), List.all_eq_true.mpr fun g m => (hgr g m).ok]
    rfl
  · refine inD_tup.mpr ⟨Nat.le_of_ble_eq_true rfl, fun d m => ?_⟩
    rcases List.mem_cons.mp m with rfl | m
    · exact by decide +kernel
    rcases List.mem_cons.mp m with rfl | m
    · exact inD_str.mpr ⟨by omega, lw.2⟩
    rcases List.mem_cons.mp m with rfl | m
    · exact inD_int.mpr ⟨by decide, by decide⟩
    rcases List.mem_cons.mp m with rfl | m
    · exact inD_int.mpr ⟨by decide, by decide⟩
    rcases List.mem_cons.mp m with rfl | m
    · exact ig
    · rw [List.mem_singleton.mp m]
      exact inD_tup.mpr ⟨by rw [List.length_map]; omega, fun g mg => (hgr g mg).inn⟩
section
variable {P : Program} {w : World} {K : PySem.W.Frag} {mg : Str → Option Value} {base : Heap} {f : Addr} {fd : FuncData} {C CB R : Addr} {Ts : List Addr}
theorem ok_llst33 (F : Fun K "_law_list" "_law_list" s_law_list f fd) (B : Blt mg) (hsorted : mg "sorted" = none) (c_law_names : Cal P w K mg base CX0 1 "_law_names" spNms33) (c_law_path : Cal P w K mg base CX0 1 "_law_path" spPth33) (c_law_patterns : Cal P w K mg base CX0 1 "_law_patterns" spPat33) :
    FnOk P w K mg base CX0 2 f fd ["name", "number", "key"] spLst33 := by
  refine F.ok sc_law_list (fun vs H Q E h => ?_) (fun cdv A outer s H vs Q E hr h => ?_)
  · obtain ⟨_, _, _, rfl, _⟩ := h; rfl
  obtain ⟨nm, n, ky, rfl, hnm, n0, k0, k1, q⟩ := h
  refine ⟨_, (C8.pss_cut (ps_set (i := 3) sc_law_list.nd rfl (Or.inr rfl) pe_dnewK)
    (C8.pss_cut (ps_for PassesOwn.never rfl (B.range1 (pa_cons (pe_op op_mod (pv 1) pe_int) pa_nil)) (pg_name (i := 4) sc_law_list.nd rfl (Or.inl rfl)) (pss_one (ps_dput (hu_of hr) (pv 3) (c_law_path.pe hr (pa_cons (pe_op op_fdivW (pv 1) (pe_op op_add pe_int (pe_op op_mul pe_int (pv 4)))) pa_nil)) (pe_tup (pa_cons (pe_op op_add (pe_op op_mod (pe_op op_fdivW (pv 1) pe_int) pe_int) (pv 4)) (pa_cons (pe_op op_add_str pe_str (B.str_i (pa_cons (pv 4) pa_nil))) pa_nil))) rfl)))
    (C8.pss_cut (ps_set (i := 5) sc_law_list.nd rfl (Or.inr rfl) pe_dnewK)
    (C8.pss_cut (ps_for PassesOwn.never rfl (B.range1 (pa_cons (pe_op op_mod (pe_op op_fdivW (pv 1) pe_int) pe_int) pa_nil)) (pg_name (i := 4) sc_law_list.nd rfl (Or.inl rfl)) (C8.pss_cut (ps_set (i := 7) sc_law_list.nd rfl (Or.inl rfl) (pe_ix ix_lM (c_law_names.pe0 hr) (pe_op op_add pe_int (pe_op op_mod (pe_op op_fdivW (pv 1) (pe_op op_add (pe_op op_mul pe_int (pv 4)) pe_int)) pe_int)) (fun _ _ => rfl)))
    (pss_one (ps_if (pt_cmpR op_ne (pv 7) (pv 0) (nomark _)) (C8.pss_cut (ps_set (i := 8) sc_law_list.nd rfl (Or.inl rfl) (pe_tup (pa_cons pe_int (pa_cons (pe_tup (pa_cons (pe_op op_add_str pe_str (B.str_i (pa_cons (pe_op op_add (pe_op op_add (pe_op op_mul (pv 2) pe_int) (pv 4)) pe_int) pa_nil))) pa_nil)) pa_nil))))
    (pss_one (ps_dput (hu_of hr) (pv 5) (pv 7) (pe_tup (pa_cons (pv 7) (pa_cons (pv 8) (pa_cons (c_law_patterns.pe hr (pa_cons (pe_op op_fdivW (pv 1) (pe_op op_add pe_int (pv 4))) pa_nil)) (pa_cons (B.int_b (pa_cons (pe_cmpR op_eq (pe_op op_mod (pe_op op_fdivW (pv 1) (pe_op op_add pe_int (pe_op op_mul pe_int (pv 4)))) pe_int) pe_int (nomark _)) pa_nil)) pa_nil))))) rfl))) pss_nil))))
    (C8.pss_cut (ps_set (i := 6) sc_law_list.nd rfl (Or.inl rfl) (B.tuple_l (pa_cons (pe_lc (own := [("path", 9)]) (g := gName 9) (tt := tYes) rfl sc_law_list.nd (pi_list (pe_callB (call_sortedD rfl) rfl hsorted (by decide +kernel) (pa_cons (pv 3) pa_nil))) (blkOk_by (own := [("path", 9)]) (N := N_law_list) (sc := defScope s_law_list) (by decide +kernel)) (fun _ _ _ _ _ => pg_name (i := 9) sc_law_list.nd rfl (Or.inl rfl)) (fun _ _ _ _ _ => pts_nil) (fun _ _ _ _ _ => (pe_op (show OpR _ _ (rCatT K) from op_catT) (pe_tup (pa_cons (pv 9) pa_nil)) (pe_dget (hu_of hr) (pv 3) (pv 9) (fun _ _ => rfl))))) pa_nil)))
    (pss_one (ps_ret (pe_tup (pa_cons pe_str (pa_cons (pv 0) (pa_cons pe_int (pa_cons pe_int (pa_cons (pv 6) (pa_cons (B.tuple_l (pa_cons (pe_lock (pe_lc (own := [("other", 7)]) (g := gName 7) (tt := tYes) rfl sc_law_list.nd (pi_keys (pv 5)) (blkOk_by (own := [("other", 7)]) (N := N_law_list) (sc := defScope s_law_list) (by decide +kernel)) (fun _ _ _ _ _ => pg_name (i := 7) sc_law_list.nd rfl (Or.inl rfl)) (fun _ _ _ _ _ => pts_nil) (fun _ _ _ _ _ => (pe_dget (hu_of hr) (pv 5) (pv 7) (fun _ _ => rfl))))) pa_nil)) pa_nil)))))))))))))), ?_⟩
  have lim : sizeLine = 16777216 := sizeLine_eq
  refine ⟨fun σ H' => ∃ gp : Addr, σ = [some (.str nm), some (.int n), some (.int ky), some (.ref gp), none, none, none, none, none, none] ∧ H gp = none ∧ H' gp = some (.dK []) ∧ Kp [] H H', ?_, fun σ H1 ⟨gp, hσ, ngp, egp, k1⟩ => ?_⟩
  · walk_at "wq"
    exact fun p hp => ⟨hp, Kp.new hp _⟩
  subst hσ
  have hm3 : 0 ≤ n % 3 ∧ n % 3 < 3 := ⟨Int.emod_nonneg n (by decide), Int.emod_lt_of_pos n (by decide)⟩
  refine ⟨fun σ H' => ∃ (o4 : Option V) (gk : List (Key × V)) (gl : List (Str × PyData)), σ = [some (.str nm), some (.int n), some (.int ky), some (.ref gp), o4, none, none, none, none, none] ∧ H' gp = some (.dK gk) ∧ KvD H' gk gl ∧ Gd33 gl ∧ Kp [] H H', ?_, fun σ H2 ⟨o4, gk, gl, hσ, egp, kg, hgl, k2⟩ => ?_⟩
  · refine ⟨.int n, rfl, n, 3, rfl, rfl, (show (0 : Int) < 3 by decide), n % 3, rfl, by omega, by omega, ?_⟩
    refine for_range (lo := 0) (n := (n % 3).toNat) (fun i σ H' => ∃ (o4 : Option V) (gk : List (Key × V)) (gl : List (Str × PyData)), σ = [some (.str nm), some (.int n), some (.int ky), some (.ref gp), o4, none, none, none, none, none] ∧ H' gp = some (.dK gk) ∧ KvD H' gk gl ∧ Gd33 gl ∧ Kp [] H H')
      ⟨_, [], [], rfl, egp, .nil, ⟨List.nodup_nil, fun p m => absurd m List.not_mem_nil⟩, k1⟩ (fun i σ H2 hi ⟨o4, gk, gl, hσ, egp, kg, hgl, k2⟩ => ?_) (fun σ H2 h => h)
    subst hσ
    walk_at "wq"
    obtain ⟨hd1, hd2⟩ := dig33 i (by omega)
    have h7 : 0 ≤ n / 7 % 9 ∧ n / 7 % 9 < 9 := ⟨Int.emod_nonneg _ (by decide), Int.emod_lt_of_pos _ (by decide)⟩
    refine ⟨wide33 (by decide) (by decide), by decide, (intT (by omega : (0 : Int) ≤ 0 + (i : Int)) (by omega)).1, by rw [hd1, show (Str.ofString "00000000000000000").length = 17 from rfl]; omega, by omega, fun p hp => ⟨by unfold CMul; omega, wide33 (by omega) (by omega), n / (5 + 3 * (0 + (i : Int))), rfl, fun z mz H3 k3 => ?_⟩⟩
    have q0 : Kp [] H2 (upd H2 p (.tup [.int (n / 7 % 9 + (0 + (i : Int))), .str (Str.ofString "00000000000000000" ++ Str.ofString (toString ((0 : Int) + (i : Int))))])) := Kp.new hp _
    have q3 := q0.trans k3
    have eg3 := q3.keep _ _ List.not_mem_nil egp
    have kg3 := kg.kp q3 hgl.pur
    have rp3 : Rq H3 (.ref p) (.tuple [.int (n / 7 % 9 + (0 + (i : Int))), .str (Str.ofString "00000000000000000" ++ Str.ofString (toString ((0 : Int) + (i : Int))))]) := .tup (k3.tup _ _ upd_same) (.cons (.int _) (.cons (.str _) .nil))
    have hg2 : Gd33 (putA gl z (.tuple [.int (n / 7 % 9 + (0 + (i : Int))), .str (Str.ofString "00000000000000000" ++ Str.ofString (toString ((0 : Int) + (i : Int))))])) := ⟨putA_nodup hgl.nd, fun q mq => by
      rcases putA_mem mq with mq | rfl
      · exact hgl.ok q mq
      · exact ⟨mz, _, _, rfl, by omega, by omega, hd2⟩⟩
    have ku : Kp [gp] H3 (upd H3 gp (.dK (putK gk (Sum.inr z) (.ref p)))) := kp_dk eg3 (List.mem_singleton.mpr rfl)
    exact ⟨_, DPut.k (k := Sum.inr z) eg3 (by rw [kg.len]; have := hgl.len; omega), _, upd_same, _, (KvD.put rp3 kg3).kp ku hg2.pur, hg2, Kp.drop ngp ((k2.trans q3).in0.trans ku)⟩
  subst hσ
  refine ⟨fun σ H' => ∃ ep : Addr, σ = [some (.str nm), some (.int n), some (.int ky), some (.ref gp), o4, some (.ref ep), none, none, none, none] ∧ H ep = none ∧ ep ≠ gp ∧ H' ep = some (.dK []) ∧ Kp [] H2 H', ?_, fun σ H3 ⟨ep, hσ, nep, npe, eep, k3⟩ => ?_⟩
  · walk_at "wq"
    exact fun p hp => ⟨k2.gone1 (fun b mb => absurd mb List.not_mem_nil) hp, (fun e => by rw [e, egp] at hp; cases hp), Kp.new hp _⟩
  subst hσ
  have hm5 : 0 ≤ n / 3 % 5 ∧ n / 3 % 5 < 5 := ⟨Int.emod_nonneg _ (by decide), Int.emod_lt_of_pos _ (by decide)⟩
  have K3 := k2.trans k3
  have egp3 := k3.keep _ _ List.not_mem_nil egp
  have kg3 := kg.kp k3 hgl.pur
  refine ⟨fun σ H' => ∃ (o4 o7 o8 : Option V) (ek : List (Key × V)) (el : List (Str × PyData)), σ = [some (.str nm), some (.int n), some (.int ky), some (.ref gp), o4, some (.ref ep), none, o7, o8, none] ∧ H' ep = some (.dK ek) ∧ KvD H' ek el ∧ Gn33 nm el ∧ H' gp = some (.dK gk) ∧ KvD H' gk gl ∧ Kp [] H H', ?_, fun σ H4 ⟨o4, o7, o8, ek, el, hσ, eep, ke, hel, egp, kg, k4⟩ => ?_⟩
  · refine ⟨.int n, rfl, n, 3, rfl, rfl, wide33 (by decide) (by decide), n / 3, 5, rfl, rfl, (show (0 : Int) < 5 by decide), n / 3 % 5, rfl, by omega, by omega, ?_⟩
    refine for_range (lo := 0) (n := (n / 3 % 5).toNat) (fun i σ H' => ∃ (o4 o7 o8 : Option V) (ek : List (Key × V)) (el : List (Str × PyData)), σ = [some (.str nm), some (.int n), some (.int ky), some (.ref gp), o4, some (.ref ep), none, o7, o8, none] ∧ H' ep = some (.dK ek) ∧ KvD H' ek el ∧ Gn33 nm el ∧ H' gp = some (.dK gk) ∧ KvD H' gk gl ∧ Kp [] H H')
      ⟨_, _, _, [], [], rfl, eep, .nil, ⟨List.nodup_nil, fun p m => absurd m List.not_mem_nil⟩, egp3, kg3, K3⟩ (fun i σ H4 hi ⟨o4, o7, o8, ek, el, hσ, eep, ke, hel, egp, kg, k4⟩ => ?_) (fun σ H2 h => h)
    subst hσ
    walk_at "wq"
    refine ⟨fun σ H' => ∃ z ∈ nms33.drop 1, σ = [some (.str nm), some (.int n), some (.int ky), some (.ref gp), some (.int (0 + (i : Int))), some (.ref ep), none, some (.str z), o8, none] ∧ Kp [] H4 H', ?_, fun σ H5 ⟨z, mz, hσ, k5⟩ => ?_⟩
    · walk_at "wq"
      refine ⟨rfl, fun a ha => ?_⟩
      have h7 : 0 ≤ n / (11 * (0 + (i : Int)) + 13) % 7 ∧ n / (11 * (0 + (i : Int)) + 13) % 7 < 7 := ⟨Int.emod_nonneg _ (by decide), Int.emod_lt_of_pos _ (by decide)⟩
      obtain ⟨t, ht⟩ : ∃ t : Nat, n / (11 * (0 + (i : Int)) + 13) % 7 = (t : Nat) := ⟨(n / (11 * (0 + (i : Int)) + 13) % 7).toNat, by omega⟩
      rw [ht] at h7
      obtain ⟨z, ez⟩ : ∃ z, nms33[1 + t]? = some z := ⟨_, List.getElem?_eq_getElem (by show 1 + t < 8; omega)⟩
      show CMul 11 (0 + (i : Int)) ∧ _
      refine ⟨by unfold CMul; omega, wide33 (by omega) (by omega), by decide, a, rfl, _, upd_same, .str z, ?_, z, List.mem_of_getElem? (i := t) (by rw [List.getElem?_drop]; exact ez), rfl, Kp.new ha _⟩
      rw [ht, show (1 : Int) + (t : Nat) = ((1 + t : Nat) : Int) by omega]
      refine atI_nat ?_
      rw [List.getElem?_map, ez]; rfl
    subst hσ
    have eep5 := k5.keep _ _ List.not_mem_nil eep
    have egp5 := k5.keep _ _ List.not_mem_nil egp
    have ke5 := ke.kp k5 hel.pur
    have kg5 := kg.kp k5 hgl.pur
    have K5 := k4.trans k5
    by_cases hz : z = nm
    · walk_at "wq"
      rw [if_neg (fun h => h hz)]
      exact ⟨ek, eep5, el, ke5, hel, egp5, kg5, K5⟩
    · walk_at "wq"
      rw [if_pos hz]
      have kn := ky_num (n := ky * 10 + (0 + (i : Int)) + 1) (by omega) (by omega)
      refine ⟨fun σ H' => ∃ rl : Addr, σ = [some (.str nm), some (.int n), some (.int ky), some (.ref gp), some (.int (0 + (i : Int))), some (.ref ep), none, some (.str z), some (.ref rl), none] ∧ Rq H' (.ref rl) (.tuple [.int 1, .tuple [.str (Str.ofString "k" ++ Str.ofString (toString (ky * 10 + (0 + (i : Int)) + 1)))]]) ∧ Kp [] H5 H', ?_, fun σ H6 ⟨rl, hσ, rrl, k6⟩ => ?_⟩
      · walk_at "wq"
        refine ⟨by unfold CMul; omega, kn.2.2, by have := kn.2.1; rw [show (Str.ofString "k").length = 1 from rfl]; omega, by omega, fun p0 w0 => ⟨by omega, fun p1 w1 => ?_⟩⟩
        have q0 : Kp [] H5 (upd H5 p0 (.tup [.str (Str.ofString "k" ++ Str.ofString (toString (ky * 10 + (0 + (i : Int)) + 1)))])) := Kp.new w0 _
        have q1 : Kp [] _ (upd (upd H5 p0 (.tup [.str (Str.ofString "k" ++ Str.ofString (toString (ky * 10 + (0 + (i : Int)) + 1)))])) p1 (.tup [.int 1, .ref p0])) := Kp.new w1 _
        exact ⟨.tup upd_same (.cons (.int _) (.cons (.tup (q1.keep _ _ List.not_mem_nil upd_same) (.cons (.str _) .nil)) .nil)), q0.trans q1⟩
      subst hσ
      walk_at "wq"
      have w17 : 0 ≤ n / (17 + (0 + (i : Int))) := Int.ediv_nonneg n0 (by omega)
      refine ⟨wide33 (by omega) (by omega), n / (17 + (0 + (i : Int))), rfl, w17, fun pp ps H7 mps p1 p3 npp epp k7 => ⟨by unfold CMul; omega, wide33 (by omega) (by omega), by decide, by omega, fun pr wr => ?_⟩⟩
      generalize hla : (if n / (19 + 5 * (0 + (i : Int))) % 6 = 0 then (1 : Int) else 0) = la
      have la0 : 0 ≤ la ∧ la ≤ 1 := by rw [← hla]; split <;> decide
      have kr : Kp [] H7 (upd H7 pr (.tup [.str z, .ref rl, .ref pp, .int la])) := Kp.new wr _
      have hg := gr33 (z := z) (ky := Str.ofString "k" ++ Str.ofString (toString (ky * 10 + (0 + (i : Int)) + 1))) (la := la) mz kn.1 mps p1 p3 la0.1 la0.2
      have rg : Rq (upd H7 pr (.tup [.str z, .ref rl, .ref pp, .int la])) (.ref pr) (grD33 z (Str.ofString "k" ++ Str.ofString (toString (ky * 10 + (0 + (i : Int)) + 1))) ps la) :=
        .tup upd_same (.cons (.str _) (.cons (rrl.kp0 (k7.trans kr)) (.cons (.tup (kr.tup _ _ epp) (rqa_of_strs ps)) (.cons (.int _) .nil))))
      have k57 := k6.trans (k7.trans kr)
      have eep7 := k57.keep _ _ List.not_mem_nil eep5
      have ke7 := ke5.kp k57 hel.pur
      have hn2 : Gn33 nm (putA el z (grD33 z (Str.ofString "k" ++ Str.ofString (toString (ky * 10 + (0 + (i : Int)) + 1))) ps la)) := ⟨putA_nodup hel.nd, fun q mq => by
        rcases putA_mem mq with mq | rfl
        · exact hel.ok q mq
        · exact ⟨mz, hz, hg, rfl⟩⟩
      have ku : Kp [ep] _ (upd (upd H7 pr (.tup [.str z, .ref rl, .ref pp, .int la])) ep (.dK (putK ek (Sum.inr z) (.ref pr)))) := kp_dk eep7 (List.mem_singleton.mpr rfl)
      exact ⟨_, DPut.k (k := Sum.inr z) eep7 (by rw [ke.len]; have := hel.len; omega), _, upd_same, _, (KvD.put rg ke7).kp ku hn2.pur, hn2, by rw [upd_ne npe.symm]; exact k57.keep _ _ List.not_mem_nil egp5, (kg5.kp k57 hgl.pur).kp ku hgl.pur, Kp.drop nep ((K5.trans k57).in0.trans ku)⟩
  subst hσ
  refine ⟨fun σ H' => ∃ (rp : Addr) (gd : PyData), σ = [some (.str nm), some (.int n), some (.int ky), some (.ref gp), o4, some (.ref ep), some (.ref rp), o7, o8, none] ∧ Rq H' (.ref rp) gd ∧ isGoods gd = true ∧ inD 5 gd = true ∧ H' ep = some (.dK ek) ∧ KvD H' ek el ∧ Kp [] H H', ?_, fun σ H5 ⟨rp, gd, hσ, rgd, hgd, igd, eep5, ke5, k5⟩ => ?_⟩
  · walk_at "wq"
    have lgl := hgl.len
    refine ⟨.ref gp, rfl, gp, rfl, gk, .inl egp, gl.map (·.1), kg.keys, by rw [List.length_map]; omega, fun ys p hperm hsort hp => ⟨p, rfl, ⟨_, SqL.of upd_same⟩, fun D hD => ?_⟩⟩
    have npD : p ≠ D := fun e => by rw [← e, upd_same] at hD; cases hD
    have kp0 : Kp [] H4 (upd H4 p (.lst (ys.map V.str))) := Kp.new hp _
    have lys : ys.length ≤ 6 := by rw [hperm.length_eq, List.length_map]; exact lgl
    refine lc_list (K := K) (a := p) (xs := ys.map V.str) (fun i H' => (∃ vs, H' D = some (.lst vs) ∧ RqA H' vs ((ys.take i).map (rowG gl))) ∧ H' p = some (.lst (ys.map V.str)) ∧ Kp [] H4 H')
      ⟨⟨[], upd_same, .nil⟩, by rw [upd_ne npD]; exact upd_same, kp0.trans (Kp.new hD _)⟩ (fun i H' _ ⟨_, e, _⟩ => SqL.of e) (fun i x H' hi ⟨⟨vs, eD, rD⟩, ep', k'⟩ => ?_) (fun H' ⟨⟨vs, eD, rD⟩, ep', k'⟩ => ?_)
    · rw [List.getElem?_map] at hi
      obtain ⟨y, hy, rfl⟩ := Option.map_eq_some_iff.mp hi
      walk_at "wq"
      refine ⟨rfl, ?_⟩
      simp only [tYes, if_true]
      have k5 := kp0.trans (Kp.new hD (.lst []) : Kp [] _ _)
      have e3 := k'.keep _ _ List.not_mem_nil egp
      have my : y ∈ gl.map (·.1) := hperm.mem_iff.mp (List.mem_of_getElem? hy)
      rcases (kg.kp k' hgl.pur).val (n := y) with ⟨v, d, hv, hd, rv⟩ | ⟨_, hd⟩
      · obtain ⟨_, a1, dg, ed, _⟩ := hgl.ok _ (getA_mem hd)
        have ed : d = .tuple [.int a1, .str dg] := ed
        rw [ed] at rv
        cases rv with
        | tup eb rb =>
          rename_i b xs
          have lb := rb.len
          refine ⟨.str y, rfl, by omega, fun p1 w1 => ⟨.ref gp, rfl, .str y, rfl, gp, rfl, .ref b, ?_, ?_⟩⟩
          · have := DGet.k (k := Sum.inr y) ((Kp.new w1 (.tup [.str y]) : Kp [] H' _).keep _ _ List.not_mem_nil e3)
            rw [hv] at this
            exact this
          · have kw : Kp [] H' (upd H' p1 (.tup [.str y])) := Kp.new w1 _
            refine rcat_q upd_same (kw.tup _ _ eb) (by simp) (fun e => by rw [e] at lb; cases lb) (by rw [lb]; show 1 + 2 ≤ 1000; omega) fun zz HZ _ ez kz => ?_
            have kA := kw.trans kz
            have eDZ := kA.keep _ _ List.not_mem_nil eD
            have nDH : H4 D = none := kp0.gone1 (fun b mb => absurd mb List.not_mem_nil) hD
            have lv := rD.len
            rw [List.length_map] at lv
            have l2 := List.length_take_le' i ys
            have kD : Kp [D] HZ (upd HZ D (.lst (vs ++ [.ref zz]))) := Kp.lst eDZ (List.mem_singleton.mpr rfl)
            have er : rowG gl y = .tuple (.str y :: [.int a1, .str dg]) := by unfold rowG; rw [hd, ed]; rfl
            refine ⟨vs, eDZ, by rw [lv]; omega, ?_, by rw [upd_ne npD]; exact kA.keep _ _ List.not_mem_nil ep', (k'.trans kA).upd nDH eDZ⟩
            rw [List.take_add_one, hy, List.map_append]
            have rDZ : RqA (upd HZ D (.lst (vs ++ [.ref zz]))) vs ((ys.take i).map (rowG gl)) := (rD.kp0 kA).pure kD (purDs_all.mpr fun x mx => by
              obtain ⟨w, mw, rfl⟩ := List.mem_map.mp mx
              obtain ⟨dw, hdw⟩ := mem_getA (ls := gl) (n := w) (hperm.mem_iff.mp (List.mem_of_mem_take mw))
              obtain ⟨_, aw, dgw, ew, _⟩ := hgl.ok _ (getA_mem hdw)
              have : rowG gl w = .tuple [.str w, .int aw, .str dgw] := by unfold rowG; rw [hdw, show dw = _ from ew]; rfl
              rw [this]; rfl)
            refine rDZ.app (.cons ?_ .nil)
            rw [er]
            exact .tup (kD.tup _ _ ez) (.cons (.str _) (((rb.kp0 kA).pure kD rfl)))
      · obtain ⟨d, hd2⟩ := mem_getA my
        rw [hd2] at hd; cases hd
    · refine ⟨D, rfl, vs, .inl ⟨SqL.of eD, fun l hl => ?_⟩⟩
      have e1 : (ys.map V.str).length = ys.length := List.length_map ..
      rw [e1, List.take_length] at rD
      have kl : Kp [] H' (upd H' l (.tup vs)) := Kp.new hl _
      have kk := k'.trans kl
      obtain ⟨g1, g2⟩ := goods33 hgl hperm hsort
      exact ⟨_, .tup upd_same (rD.kp0 kl), g1, g2, kk.keep _ _ List.not_mem_nil eep, ke.kp kk hel.pur, k4.trans kk⟩
  subst hσ
  walk_at "wq"
  refine ⟨ep, .dK ek, eep5, trivial, fun od => ?_⟩
  refine ⟨.ref ep, rfl, ep, od, rfl, .inl ⟨ek, upd_same, fun D hD => ?_⟩⟩
  have kf : Kp [ep] H5 (upd H5 ep (.frz od (.dK ek))) := kp_at eep5 (fun us e => by cases e) (List.mem_singleton.mpr rfl)
  have nDp : ep ≠ D := fun e => by rw [← e, upd_same] at hD; cases hD
  have lel := hel.len
  refine lc_it (walk_keys (o := od) (d := ep) (kvs := ek)) (fun i H' => (∃ vs, H' D = some (.lst vs) ∧ RqA H' vs ((el.take i).map (·.2))) ∧ H' ep = some (.frz od (.dK ek)) ∧ Kp [] (upd H5 ep (.frz od (.dK ek))) H')
    ⟨⟨[], upd_same, .nil⟩, by rw [upd_ne nDp]; exact upd_same, Kp.new hD _⟩ (fun i H' _ ⟨_, e, _⟩ => e) (fun i x H' H2' hi ⟨⟨vs, eD, rD⟩, ef, k'⟩ ⟨hHH, k, v, hk, hx⟩ => ?_) (fun H' ⟨⟨vs, eD, rD⟩, ef, k'⟩ => ?_)
  · subst hHH hx
    obtain ⟨z, d, hz, rfl, rvd⟩ := ke5.at hk
    have hz1 : getA el z = some d := getA_ix hel.nd hz
    rcases (ke5.kp (kf.trans k'.in0) hel.pur).val (n := z) with ⟨v', d', hv, hd, rv⟩ | ⟨_, hd⟩
    · rw [hz1] at hd
      cases hd
      walk_at "wq"
      refine ⟨rfl, ?_⟩
      simp only [tYes, if_true]
      have nDH : upd H5 ep (.frz od (.dK ek)) D = none := hD
      have lv := rD.len
      rw [List.length_map] at lv
      have l2 := List.length_take_le' i el
      have kD : Kp [D] H2' (upd H2' D (.lst (vs ++ [v']))) := Kp.lst eD (List.mem_singleton.mpr rfl)
      refine ⟨.ref ep, rfl, .str z, rfl, ep, rfl, v', .inl ⟨ek, Sum.inr z, .inr ⟨od, ef⟩, rfl, hv.symm⟩, vs, eD, by rw [lv]; omega, ?_, by rw [upd_ne nDp]; exact ef, k'.upd nDH eD⟩
      rw [List.take_add_one, hz, List.map_append]
      exact (rD.pure kD (purDs_all.mpr fun x mx => by
        obtain ⟨q, mq, rfl⟩ := List.mem_map.mp mx
        exact hel.pur q (List.mem_of_mem_take mq))).app (.cons (rv.pure kD (hel.pur _ (List.mem_of_getElem? hz))) .nil)
    · rw [hz1] at hd; cases hd
  · have lk := ke5.len
    rw [lk, List.take_length] at rD
    refine ⟨ef, D, rfl, vs, .inl ⟨SqL.of (by rw [upd_ne nDp.symm]; exact eD), fun l hl => ⟨by omega, fun p hp => ?_⟩⟩⟩
    have kb : Kp [ep] H' (upd H' ep (.dK ek)) := kp_at ef (fun us e => by cases e) (List.mem_singleton.mpr rfl)
    have kl : Kp [] _ (upd (upd H' ep (.dK ek)) l (.tup vs)) := Kp.new hl _
    have kp : Kp [] _ (upd (upd (upd H' ep (.dK ek)) l (.tup vs)) p (.tup [.str (Str.ofString "list"), .str nm, .int 1, .int 9, .ref rp, .ref l])) := Kp.new hp _
    have KA : Kp [] H (upd H' ep (.dK ek)) := Kp.drop nep (k5.in0.trans (kf.trans (k'.in0.trans kb)))
    have pg : purD gd = true := in_pur 5 gd igd
    have pe : purDs (el.map (·.2)) = true := purDs_all.mpr fun x mx => by
      obtain ⟨q, mq, rfl⟩ := List.mem_map.mp mx
      exact hel.pur q mq
    have rgp := (rgd.pure (kf.trans (k'.in0.trans kb)) pg).kp0 (kl.trans kp)
    have rel := ((rD.pure kb pe).kp0 kl).kp0 kp
    refine q p (.tuple [.str kL, .str nm, .int 1, .int 9, gd, .tuple (el.map (·.2))]) _ (.tup upd_same (.cons (.str _) (.cons (.str _) (.cons (.int _) (.cons (.int _) (.cons rgp (.cons (.tup (kp.tup _ _ upd_same) rel) .nil))))))) (l33 hnm hgd igd hel) ?_ (KA.trans (kl.trans kp))
    exact (KA.trans kl).gone1 (fun b mb => absurd mb List.not_mem_nil) hp
end
/-! k33: the law's walk -/
abbrev s_law_walk : Stmt := top 60
abbrev N_law_walk : List Str := ["role", "lists", "named", "path", "waiting", "read", "name", "wanted", "row", "added", "grant", "one"]
theorem sc_law_walk : FnScope N_law_walk ["role", "lists", "named", "path"] (defScope s_law_walk) := ⟨rfl, rfl, rfl, by decide +kernel, rfl, by decide +kernel, by decide +kernel⟩
/-- rows of names and roles -/
structure RwOk (names : List Str) (p : Str × PyData) : Prop where
  m : p.1 ∈ names
  o : okD 8 (rowW p) = true
  p : purD p.2 = true
theorem rqa_cons {H : Hp} {vs : List V} {d : PyData} {ds : List PyData} (h : RqA H vs (d :: ds)) : ∃ v vs', vs = v :: vs' ∧ Rq H v d ∧ RqA H vs' ds := by
  cases h with
  | cons a b => exact ⟨_, _, rfl, a, b⟩
theorem row_of {H : Hp} {v : V} {p : Str × PyData} (h : Rq H v (rowW p)) : ∃ a x, v = .ref a ∧ H a = some (.tup [.str p.1, x]) ∧ Rq H x p.2 := by
  cases h with
  | tup e r =>
    obtain ⟨v1, vs1, rfl, r1, r⟩ := rqa_cons r
    obtain ⟨v2, vs2, rfl, r2, r⟩ := rqa_cons r
    cases r
    cases r1
    exact ⟨_, _, rfl, e, r2⟩
theorem for_viaT {K : PySem.W.Frag} {tl : TE} {g : TG} {tb : TS} {D : Ends} {σ : L2.St} {H : Hp} (Pq : V → Hp → Prop) (h1 : ∀ R : VK, (∀ x H', Pq x H' → R x H') → tl σ H R) (h2 : ∀ x H', Pq x H' → tFor (iTup K (fun _ _ R => R x H')) g tb D σ H) : tFor (iTup K tl) g tb D σ H :=
  h1 _ fun x H' hp => h2 x H' hp
theorem folF_brk (sh : PyData) (s : Sst) (es : List PyData) : ∀ ds : List PyData, (folF sh s ds).2 = true → folF sh s (ds ++ es) = folF sh s ds
  | [], h => by cases h
  | g :: ds, h => by
    have e1 : folF sh s (g :: ds ++ es) = if leadsF sh s g = true then (if oneB (ixD g 3) = true then ([(strD (ixD g 0), ixD g 1)], true) else ((strD (ixD g 0), ixD g 1) :: (folF sh s (ds ++ es)).1, (folF sh s (ds ++ es)).2)) else folF sh s (ds ++ es) := rfl
    have e2 : folF sh s (g :: ds) = if leadsF sh s g = true then (if oneB (ixD g 3) = true then ([(strD (ixD g 0), ixD g 1)], true) else ((strD (ixD g 0), ixD g 1) :: (folF sh s ds).1, (folF sh s ds).2)) else folF sh s ds := rfl
    rw [e1, e2]
    rw [e2] at h
    by_cases c : leadsF sh s g = true
    · rw [if_pos c] at h ⊢
      rw [if_pos c]
      by_cases c1 : oneB (ixD g 3) = true
      · rw [if_pos c1, if_pos c1]
      · rw [if_neg c1] at h
        rw [if_neg c1, if_neg c1, folF_brk sh s es ds h]
    · rw [if_neg c] at h ⊢
      rw [if_neg c]
      exact folF_brk sh s es ds h
mutual
theorem okD_le : ∀ {n m : Nat} {d : PyData}, n ≤ m → okD n d = true → okD m d = true
  | _, _, .none, _, _ => rfl
  | _, _, .bool _, _, _ => rfl
  | _, _, .int _, _, h => h
  | _, _, .str _, _, h => h
  | n, m, .dict _, _, h => by cases n <;> cases h
  | 0, _, .list _, _, h => by cases h
  | 0, _, .tuple _, _, h => by cases h
  | n + 1, 0, .list _, q, _ => by omega
  | n + 1, 0, .tuple _, q, _ => by omega
  | n + 1, m + 1, .list ds, q, h => by
    have h : (decide (ds.length ≤ 200000) && okDs n ds) = true := h
    rw [Bool.and_eq_true] at h
    show (decide (ds.length ≤ 200000) && okDs m ds) = true
    rw [h.1, okDs_le (by omega) h.2]; rfl
  | n + 1, m + 1, .tuple ds, q, h => by
    have h : (decide (ds.length ≤ 200000) && okDs n ds) = true := h
    rw [Bool.and_eq_true] at h
    show (decide (ds.length ≤ 200000) && okDs m ds) = true
    rw [h.1, okDs_le (by omega) h.2]; rfl
theorem okDs_le : ∀ {n m : Nat} {ds : List PyData}, n ≤ m → okDs n ds = true → okDs m ds = true
  | _, _, [], _, _ => rfl
  | n, m, d :: ds, q, h => by
    have h : (okD n d && okDs n ds) = true := h
    rw [Bool.and_eq_true] at h
    show (okD m d && okDs m ds) = true
    rw [okD_le q h.1, okDs_le q h.2]; rfl
end
theorem flat_strs : ∀ ks : List Str, (ks.map V.str).all flatV = true
  | [] => rfl
  | _ :: r => flat_strs r
theorem inV_strs (k : Str) : ∀ ks : List Str, L2.inV (V.str k) (ks.map V.str) = decide (k ∈ ks)
  | [] => rfl
  | y :: r => by
    show (eqV (.str y) (.str k) || L2.inV (V.str k) (r.map V.str)) = _
    rw [inV_strs k r, Bool.eq_iff_iff, Bool.or_eq_true, decide_eq_true_eq, decide_eq_true_eq, List.mem_cons, show eqV (V.str y) (.str k) = (y == k) from rfl, beq_iff_eq]
    exact or_congr_left eq_comm
theorem rows_pur {names : List Str} {w : List (Str × PyData)} (h : ∀ q ∈ w, RwOk names q) : purDs (w.map rowW) = true := purDs_all.mpr fun x mx => by
  obtain ⟨q, mq, rfl⟩ := List.mem_map.mp mx
  exact purD_tup.mpr fun y my => by
    rcases List.mem_cons.mp my with rfl | my
    · rfl
    · rw [List.mem_singleton.mp my]; exact (h q mq).p
/-- the walk: what it is given, what it tells -/
def spWalk33 : Sp := fun vs H Q _ => ∃ (rv : V) (role : PyData) (dl na : Addr) (kvs : List (Key × V)) (ls : List (Str × PyData)) (names : List Str) (z : Str) (sh : PyData) (doc : Str → PyData), (∀ n d, getA ls n = some d → doc n = d) ∧ vs = [rv, .ref dl, .ref na, .str z] ∧ Rq H rv role ∧ purD role = true ∧ okD 7 role = true ∧
  H dl = some (.dK kvs) ∧ KvD H kvs ls ∧ H na = some (.lst (names.map V.str)) ∧ ls.map (·.1) = nms33 ∧ names.Nodup ∧ (∀ x ∈ names, x ∈ nms33) ∧ Str.ofString "list" ∈ names ∧ z ∈ pth33 ∧
  (∀ p ∈ ls, L33 p.1 p.2) ∧ (∀ n, noneB (rowD n (itD (ixD sh 3))) = !decide (n ∈ names)) ∧
  ∀ (r pr pa : Addr) (vs : List V) (H' : Hp), H' r = some (.tup [.ref pr, .ref pa]) → H' pr = some (.lst vs) → RqA H' vs ((walkF sh z doc 1200 [(Str.ofString "list", role)] []).1.map rowW) →
    Rq H' (.ref pa) (walkF sh z doc 1200 [(Str.ofString "list", role)] []).2 → Kp [] H H' → Q (.ref r) H'
/-- the walk's lists -/
structure W33 (wl rd : Addr) (names : List Str) (w r : List (Str × PyData)) (H H' : Hp) : Prop where
  ew : ∃ vs, H' wl = some (.lst vs) ∧ RqA H' vs (w.map rowW)
  er : ∃ vs, H' rd = some (.lst vs) ∧ RqA H' vs (r.map rowW)
  kp : Kp [] H H'
  nn : H wl = none ∧ H rd = none
  dd : wl ≠ rd
  okk : (∀ p ∈ w, RwOk names p) ∧ ∀ p ∈ r, RwOk names p
  ndp : (r.map (·.1)).Nodup ∧ ∀ x ∈ r.map (·.1), x ∈ names
theorem W33.go {wl rd : Addr} {names : List Str} {w r : List (Str × PyData)} {H H1 H2 : Hp} (W : W33 wl rd names w r H H1) (k : Kp [] H1 H2) : W33 wl rd names w r H H2 :=
  let ⟨vw, ew, rw⟩ := W.ew
  let ⟨vr, er, rr⟩ := W.er
  ⟨⟨vw, k.keep _ _ List.not_mem_nil ew, rw.kp0 k⟩, ⟨vr, k.keep _ _ List.not_mem_nil er, rr.kp0 k⟩, W.kp.trans k, W.nn, W.dd, W.okk, W.ndp⟩
def mW (w r : List (Str × PyData)) : Nat := w.length + 33 * (8 - r.length)
def J33 (rv : V) (dl na : Addr) (z : Str) (rd : Addr) (names : List Str) (sh : PyData) (doc : Str → PyData) (du : List (Str × PyData) × PyData) (H : Hp) (m : Nat) (σ : L2.St) (H' : Hp) : Prop :=
  ∃ (wl' : Addr) (w r : List (Str × PyData)) (o6 o7 o8 o9 o10 : Option V) (n : Nat), σ = [some rv, some (.ref dl), some (.ref na), some (.str z), some (.ref wl'), some (.ref rd), o6, o7, o8, o9, o10, none] ∧ W33 wl' rd names w r H H' ∧ m = mW w r ∧ m ≤ 265 ∧ m ≤ n ∧
        du = (r ++ (walkF sh z doc n w (r.map (·.1))).1, (walkF sh z doc n w (r.map (·.1))).2)
theorem good_rq {H : Hp} {v : V} {d : PyData} (r : Rq H v d) (h : isGood d = true) : ∃ (p : Addr) (y : Str) (a : Int) (dg : Str), v = .ref p ∧ H p = some (.tup [.str y, .int a, .str dg]) ∧ d = .tuple [.str y, .int a, .str dg] := by
  unfold isGood at h
  rw [Bool.and_eq_true, Bool.and_eq_true, Bool.and_eq_true] at h
  obtain ⟨h1, h2, h3, h4⟩ := h
  obtain ⟨p, xs, ds, rfl, e, rfl, rr, l1, l2⟩ := tupB_of r h1
  match ds, l1, l2, rr, h2, h3, h4 with
  | [a, b, c], _, _, rr, h2, h3, h4 =>
    obtain ⟨n, rfl⟩ := num_int (show numB 0 1000000000000 b = true from h3)
    obtain ⟨t, rfl⟩ := dig_str (show isDig c = true from h4)
    have h2 : paD paM a = true := h2
    cases a with
    | str y =>
      obtain ⟨_, _, rfl, r1, rr⟩ := rqa_cons rr
      obtain ⟨_, _, rfl, r2, rr⟩ := rqa_cons rr
      obtain ⟨_, _, rfl, r3, rr⟩ := rqa_cons rr
      cases rr; cases r1; cases r2; cases r3
      exact ⟨p, y, n, t, rfl, e, rfl⟩
    | _ => cases h2
  | [], l, _, _, _, _, _ => exact absurd l (by decide)
  | [_], l, _, _, _, _, _ => exact absurd l (by simp)
  | [_, _], l, _, _, _, _, _ => exact absurd l (by simp)
  | _ :: _ :: _ :: _ :: _, _, l, _, _, _, _ => exact absurd l (by simp)
/-- the names of what was read -/
theorem names_lc {K : PySem.W.Frag} {op : R2} {a0 a1 a2 a3 a4 a6 a7 a8 a9 a10 a11 : Option V} {rd : Addr} {vs : List V} {r : List (Str × PyData)} {H : Hp} {R : VK}
    (hop : ∀ a xs v H Q, H a = some (.tup xs) → atI xs 0 = some v → Q v H → op (.ref a) (.int 0) H Q) (er : H rd = some (.lst vs)) (rr : RqA H vs (r.map rowW)) (lr : r.length ≤ 1000)
    (q : ∀ p H', H p = none → H' p = some (.lst ((r.map (·.1)).map V.str)) → Kp [] H H' → R (.ref p) H') :
    tLc (iList K (tVar 5)) (gName 11) tYes (tOp op (tVar 11) (tC (.int 0))) [11] [a0, a1, a2, a3, a4, some (.ref rd), a6, a7, a8, a9, a10, a11] H R := by
  have lim : sizeLine = 16777216 := sizeLine_eq
  refine ⟨.ref rd, rfl, rd, rfl, ⟨vs, SqL.of er⟩, fun D hD => ?_⟩
  have ndr : rd ≠ D := fun e => by rw [← e, er] at hD; cases hD
  have kD : Kp [] H (upd H D (.lst [])) := Kp.new hD _
  have lv := rr.len
  rw [List.length_map] at lv
  refine lc_list (K := K) (a := rd) (xs := vs) (fun i H' => H' D = some (.lst (((r.take i).map (·.1)).map V.str)) ∧ H' rd = some (.lst vs) ∧ Kp [] H H')
    ⟨upd_same, by rw [upd_ne ndr]; exact er, kD⟩ (fun i H' _ ⟨_, e, _⟩ => SqL.of e) (fun i x H' hi ⟨eD, e, k⟩ => ?_) (fun H' ⟨eD, e, k⟩ => ?_)
  · obtain ⟨d, hd, rx⟩ := rr.get hi
    rw [List.getElem?_map] at hd
    obtain ⟨p, hp, rfl⟩ := Option.map_eq_some_iff.mp hd
    obtain ⟨a, y, rfl, ea, _⟩ := row_of rx
    walk_at "wq"
    refine ⟨rfl, ?_⟩
    simp only [tYes, if_true]
    have nDH : H D = none := hD
    refine ⟨.ref a, rfl, hop a _ _ H' _ (k.keep _ _ List.not_mem_nil ea) at0 ⟨_, eD, ?_, ?_, by rw [upd_ne ndr]; exact e, k.upd nDH eD⟩⟩
    · have := List.length_take_le' i r
      rw [List.length_map, List.length_map]; omega
    · rw [List.take_add_one, hp, List.map_append, List.map_append]; rfl
  · rw [lv, List.take_length] at eD
    exact q D H' hD eD k
section
variable {P : Program} {w : World} {K : PySem.W.Frag} {mg : Str → Option Value} {base : Heap} {f : Addr} {fd : FuncData} {C CB R : Addr} {Ts : List Addr}
theorem ok_lwalk33 (F : Fun K "_law_walk" "_law_walk" s_law_walk f fd) (B : Blt mg) (c_law_covers : Cal P w K mg base CX0 9 "_law_covers" spCov33) :
    FnOk P w K mg base CX0 10 f fd ["role", "lists", "named", "path"] spWalk33 := by
  refine F.ok sc_law_walk (fun vs H Q E h => ?_) (fun cdv A outer s H vs Q E hr h => ?_)
  · obtain ⟨_, _, _, _, _, _, _, _, _, _, _, rfl, _⟩ := h; rfl
  obtain ⟨rv, role, dl, na, kvs, ls, names, z, sh, doc, hdc, rfl, rrl, prl, orl, edl, kd, ena, enm, nd, nsub, hl, hz, hls, hsh, q⟩ := h
  refine ⟨_, (C8.pss_cut (ps_set (i := 4) sc_law_walk.nd rfl (Or.inl rfl) (pe_lst (pa_cons (pe_tup (pa_cons pe_str (pa_cons (pv 0) pa_nil))) pa_nil)))
    (C8.pss_cut (ps_set (i := 5) sc_law_walk.nd rfl (Or.inl rfl) (pe_lst pa_nil))
    (C8.pss_cut (ps_while PassesOwn.never (pt_cmpR op_gt (B.len_q (pa_cons (pv 4) pa_nil)) pe_int (nomark _)) (C8.pss_cut (ps_set (i := 6) sc_law_walk.nd rfl (Or.inl rfl) (pe_ix ix_tM (pe_ix ix_lM (pv 4) pe_int (fun _ _ => rfl)) pe_int (fun _ _ => rfl)))
    (C8.pss_cut (ps_set (i := 7) sc_law_walk.nd rfl (Or.inl rfl) (pe_ix ix_lM (pv 4) pe_int (fun _ _ => rfl)))
    (C8.pss_cut (ps_set (i := 4) sc_law_walk.nd rfl (Or.inl rfl) (pe_slice sl_list (pv 4) (po_some pe_int) po_none))
    (C8.pss_cut (ps_if (pt_cmpR (show OpR _ _ (rIn K false) from op_in_seq) (pv 6) (pe_lc (own := [("one", 11)]) (g := gName 11) (tt := tYes) rfl sc_law_walk.nd (pi_list (pv 5)) (blkOk_by (own := [("one", 11)]) (N := N_law_walk) (sc := defScope s_law_walk) (by decide +kernel)) (fun _ _ _ _ _ => pg_name (i := 11) sc_law_walk.nd rfl (Or.inl rfl)) (fun _ _ _ _ _ => pts_nil) (fun _ _ _ _ _ => (pe_ix ix_tM (pv 11) pe_int (fun _ _ => rfl)))) (by rfl)) (pss_one ps_continue) pss_nil)
    (C8.pss_cut (ps_expr (pe_bm PySem.F.plainAttrs_list PySem.F.slot_list_append PySem.F.type_list_append mt_append (pv 5) (pa_cons (pv 7) pa_nil)))
    (C8.pss_cut (ps_for PassesOwn.never rfl (pi_tup (pe_ix ix_tM (pe_dget (hu_of hr) (pv 1) (pv 6) (fun _ _ => rfl)) pe_int (fun _ _ => rfl))) (pg_name (i := 8) sc_law_walk.nd rfl (Or.inl rfl)) (pss_one (ps_if (pt_cmpR op_eq (pe_ix ix_tM (pv 8) pe_int (fun _ _ => rfl)) (pv 3) (nomark _)) (pss_one (ps_ret (pe_tup (pa_cons (pv 5) (pa_cons (pe_tup (pa_cons pe_str (pa_cons (pv 6) (pa_cons (pe_ix ix_tM (pv 8) pe_int (fun _ _ => rfl)) (pa_cons (pe_ix ix_tM (pv 8) pe_int (fun _ _ => rfl)) pa_nil))))) pa_nil))))) pss_nil)))
    (C8.pss_cut (ps_set (i := 9) sc_law_walk.nd rfl (Or.inl rfl) (pe_lst pa_nil))
    (C8.pss_cut (ps_for PassesOwn.never rfl (pi_tup (pe_ix ix_tM (pe_dget (hu_of hr) (pv 1) (pv 6) (fun _ _ => rfl)) pe_int (fun _ _ => rfl))) (pg_name (i := 10) sc_law_walk.nd rfl (Or.inl rfl)) (pss_one (ps_if (PW.pt (pw_and (pt_val (c_law_covers.pe hr (pa_cons (pe_ix ix_tM (pv 10) pe_int (fun _ _ => rfl)) (pa_cons (pv 3) pa_nil)))) (pw_and (pt_cmpR (show OpR _ _ (rIn K false) from op_in_seq) (pe_ix ix_tM (pv 10) pe_int (fun _ _ => rfl)) (pv 2) (by rfl)) (pw_and1 (pt_cmpR (show OpR _ _ (rIn K true) from op_notIn_seq) (pe_ix ix_tM (pv 10) pe_int (fun _ _ => rfl)) (pe_lc (own := [("one", 11)]) (g := gName 11) (tt := tYes) rfl sc_law_walk.nd (pi_list (pv 5)) (blkOk_by (own := [("one", 11)]) (N := N_law_walk) (sc := defScope s_law_walk) (by decide +kernel)) (fun _ _ _ _ _ => pg_name (i := 11) sc_law_walk.nd rfl (Or.inl rfl)) (fun _ _ _ _ _ => pts_nil) (fun _ _ _ _ _ => (pe_ix ix_tM (pv 11) pe_int (fun _ _ => rfl)))) (by rfl)))))) (pss_cons (ps_expr (pe_bm PySem.F.plainAttrs_list PySem.F.slot_list_append PySem.F.type_list_append mt_append (pv 9) (pa_cons (pe_tup (pa_cons (pe_ix ix_tM (pv 10) pe_int (fun _ _ => rfl)) (pa_cons (pe_ix ix_tM (pv 10) pe_int (fun _ _ => rfl)) pa_nil))) pa_nil)))
    (pss_one (ps_if (pt_cmpR op_eq (pe_ix ix_tM (pv 10) pe_int (fun _ _ => rfl)) pe_int (nomark _)) (C8.pss_cut (ps_set (i := 4) sc_law_walk.nd rfl (Or.inl rfl) (pe_lst pa_nil))
    (pss_one ps_break)) pss_nil))) pss_nil)))
    (pss_one (ps_set (i := 4) sc_law_walk.nd rfl (Or.inl rfl) (pe_op op_cat (pv 9) (pv 4)))))))))))))
    (pss_one (ps_ret (pe_tup (pa_cons (pv 5) (pa_cons (pe_tup (pa_cons pe_str pa_nil)) pa_nil)))))))), ?_⟩
  have lim : sizeLine = 16777216 := sizeLine_eq
  have hpur : ∀ p ∈ ls, purD p.2 = true := fun p m => in_pur 6 _ (hls p m).inn
  have lnn : names.length ≤ 8 := nodup_len nd nsub
  obtain ⟨du, hdu⟩ : ∃ du, du = walkF sh z doc 1200 [(Str.ofString "list", role)] [] := ⟨_, rfl⟩
  rw [← hdu] at q
  refine ⟨fun σ H' => ∃ p : Addr, σ = [some rv, some (.ref dl), some (.ref na), some (.str z), some (.ref p), none, none, none, none, none, none, none] ∧ (∃ vs, H' p = some (.lst vs) ∧ RqA H' vs [rowW (Str.ofString "list", role)]) ∧ H p = none ∧ Kp [] H H', ?_, fun σ H1 ⟨wl, hσ, ewl, nwl, k1⟩ => ?_⟩
  · walk_at "wq"
    refine ⟨by omega, fun p0 w0 => ⟨by omega, fun p1 w1 => ?_⟩⟩
    have q0 : Kp [] H (upd H p0 (.tup [.str (Str.ofString "list"), rv])) := Kp.new w0 _
    have q1 : Kp [] _ (upd (upd H p0 (.tup [.str (Str.ofString "list"), rv])) p1 (.lst [.ref p0])) := Kp.new w1 _
    exact ⟨.cons (.tup (q1.keep _ _ List.not_mem_nil upd_same) (.cons (.str _) (.cons ((rrl.kp0 q0).kp0 q1) .nil))) .nil, q0.gone1 (fun b mb => absurd mb List.not_mem_nil) w1, q0.trans q1⟩
  subst hσ
  obtain ⟨vs0, ewl, rvs0⟩ := ewl
  refine ⟨fun σ H' => ∃ p : Addr, σ = [some rv, some (.ref dl), some (.ref na), some (.str z), some (.ref wl), some (.ref p), none, none, none, none, none, none] ∧ H' p = some (.lst []) ∧ H1 p = none ∧ Kp [] H1 H', ?_, fun σ H2 ⟨rd, hσ, erd, nrd, k2⟩ => ?_⟩
  · walk_at "wq"
    exact ⟨by omega, fun p0 w0 => ⟨w0, Kp.new w0 _⟩⟩
  subst hσ
  refine ⟨fun σ H' => ∃ (wl' : Addr) (w : List (Str × PyData)) (o6 o7 o8 o9 o10 : Option V), σ = [some rv, some (.ref dl), some (.ref na), some (.str z), some (.ref wl'), some (.ref rd), o6, o7, o8, o9, o10, none] ∧ W33 wl' rd names w du.1 H H' ∧ du.2 = noneT, ?_, fun σ H4 ⟨wl4, w4, o6, o7, o8, o9, o10, hσ, W, e2⟩ => ?_⟩
  · have gone : ∀ {G : Hp} {b : Addr}, Kp [] H G → G b = none → H b = none := fun k h => k.gone1 (fun b mb => absurd mb List.not_mem_nil) h
    have nd1 : wl ≠ rd := fun e => by rw [e, nrd] at ewl; cases ewl
    have ro0 : RwOk names (Str.ofString "list", role) := ⟨hl, okD_tup.mpr ⟨by show 2 ≤ 200000; decide, fun d m => by
      rcases List.mem_cons.mp m with rfl | m
      · exact (by decide +kernel : okD 7 (.str (Str.ofString "list")) = true)
      · rw [List.mem_singleton.mp m]; exact orl⟩, prl⟩
    refine ⟨J33 rv dl na z rd names sh doc du H,
      ⟨265, wl, [(Str.ofString "list", role)], [], none, none, none, none, none, 1200, rfl, ⟨⟨_, k2.keep _ _ List.not_mem_nil ewl, rvs0.kp0 k2⟩, ⟨[], erd, .nil⟩, k1.trans k2, ⟨nwl, gone k1 nrd⟩, nd1, ⟨fun p m => by rw [List.mem_singleton.mp m]; exact ro0, fun p m => absurd m List.not_mem_nil⟩, ⟨List.nodup_nil, fun x m => absurd m List.not_mem_nil⟩⟩, rfl, by decide, by decide, hdu⟩,
      fun m σ H4 ⟨wl4, w, r, o6, o7, o8, o9, o10, n, hσ, W, hm, hm1, hm2, hd⟩ => ?_⟩
    subst hσ
    obtain ⟨vw, ew, rww⟩ := W.ew
    have lwv := rww.len
    rw [List.length_map] at lwv
    walk_at "wq"
    cases w with
    | nil =>
      obtain rfl : vw = [] := by cases vw with | nil => rfl | cons a b => cases lwv
      refine ⟨[], .inl (SqL.of ew), ?_⟩
      rw [if_neg (by decide)]
      have hw : walkF sh z doc n [] (r.map (·.1)) = ([], noneT) := by cases n <;> (unfold walkF; rfl)
      rw [hw, List.append_nil] at hd
      rw [hd]
      exact ⟨[], W, rfl⟩
    | cons p w =>
    obtain ⟨v0, vw2, rfl, r0, rww2⟩ := rqa_cons rww
    obtain ⟨a0, vr, rfl, ea, rvr⟩ := row_of r0
    refine ⟨_, .inl (SqL.of ew), ?_⟩
    rw [if_pos (by rw [List.length_cons]; omega)]
    refine ⟨fun σ' H' => ∃ m', m' < m ∧ J33 rv dl na z rd names sh doc du H m' σ' H', fun _ _ h => h, ?_⟩
    have lrn : r.length ≤ 8 := by
      have := nodup_len W.ndp.1 W.ndp.2
      rw [List.length_map] at this; omega
    have hmw : mW (p :: w) r = w.length + 1 + 33 * (8 - r.length) := by unfold mW; rw [List.length_cons]
    obtain ⟨n, rfl⟩ : ∃ k, n = k + 1 := ⟨n - 1, by omega⟩
    refine ⟨fun σ H' => σ = [some rv, some (.ref dl), some (.ref na), some (.str z), some (.ref wl4), some (.ref rd), some (.str p.1), o7, o8, o9, o10, none] ∧ H' = H4, ?_, fun σ H5 ⟨hσ, e5⟩ => ?_⟩
    · walk_at "wq"
      exact ⟨_, ew, _, at0, _, rfl, _, ea, at0⟩
    subst hσ
    subst e5
    refine ⟨fun σ H' => σ = [some rv, some (.ref dl), some (.ref na), some (.str z), some (.ref wl4), some (.ref rd), some (.str p.1), some (.ref a0), o8, o9, o10, none] ∧ H' = H5, ?_, fun σ H6 ⟨hσ, e6⟩ => ?_⟩
    · walk_at "wq"
      exact ⟨_, ew, at0⟩
    subst hσ
    subst e6
    refine ⟨fun σ H' => ∃ wl5 : Addr, σ = [some rv, some (.ref dl), some (.ref na), some (.str z), some (.ref wl5), some (.ref rd), some (.str p.1), some (.ref a0), o8, o9, o10, none] ∧ H6 wl5 = none ∧ H' wl5 = some (.lst vw2) ∧ Kp [] H6 H', ?_, fun σ H7 ⟨wl5, hσ, nw5, ew5, k7⟩ => ?_⟩
    · walk_at "wq"
      refine ⟨wl4, _, rfl, SqL.of ew, fun l hl => ?_⟩
      rw [show cutV (V.ref a0 :: vw2) (some 1) none = vw2 from cutV_from (V.ref a0 :: vw2) 1]
      exact ⟨l, rfl, hl, upd_same, Kp.new hl _⟩
    subst hσ
    refine ⟨fun σ H' => Kp [] H7 H' ∧ p.1 ∉ r.map (·.1) ∧ σ = [some rv, some (.ref dl), some (.ref na), some (.str z), some (.ref wl5), some (.ref rd), some (.str p.1), some (.ref a0), o8, o9, o10, none], ?_, fun σ H8 ⟨k8, hnew, hσ⟩ => ?_⟩
    · walk_at "wq"
      obtain ⟨vr7, er7, rr7⟩ := (W.go k7).er
      refine names_lc (fun a xs v H Q h1 h2 h3 => ?_) er7 rr7 (by omega) fun pq Hq nq eq kq => ?_
      · exact ⟨a, rfl, xs, h1, 0, rfl, v, h2, h3⟩
      refine ⟨pq, _, rfl, .inl (SqL.of eq), rfl, flat_strs _, _, rfl, ?_⟩
      rw [inV_strs]
      simp only [Bool.false_eq_true, if_false]
      by_cases c : p.1 ∈ r.map (·.1)
      · rw [decide_eq_true c]
        refine if_yes rfl ⟨mW w r, by rw [hm, hmw]; unfold mW; omega, wl5, w, r, _, _, _, _, _, n, rfl, ?_, rfl, by rw [hm, hmw] at hm1; unfold mW; omega, by rw [hm, hmw] at hm2; unfold mW; omega, ?_⟩
        · obtain ⟨n1, n2⟩ := W.nn
          have W7 := W.go (k7.trans kq)
          have n5 : H wl5 = none := W.kp.gone1 (fun b mb => absurd mb List.not_mem_nil) nw5
          refine ⟨⟨_, kq.keep _ _ List.not_mem_nil ew5, rww2.kp0 (k7.trans kq)⟩, W7.er, W7.kp, ⟨n5, n2⟩, fun e => ?_, ⟨fun q mq => W.okk.1 q (List.mem_cons_of_mem _ mq), W.okk.2⟩, W.ndp⟩
          obtain ⟨_, er, _⟩ := W.er
          rw [e, er] at nw5; cases nw5
        · rw [hd]
          rw [walkF, if_pos c]
      · rw [decide_eq_false c]
        exact if_no (by simp) ⟨kq, c⟩
    subst hσ
    have W8 := W.go (k7.trans k8)
    have k78 := k7.trans k8
    have ew8 := k8.keep _ _ List.not_mem_nil ew5
    obtain ⟨vr8, er8, rr8⟩ := W8.er
    have lr8 := rr8.len
    rw [List.length_map] at lr8
    have ea8 := k78.keep _ _ List.not_mem_nil ea
    refine ⟨fun σ H' => σ = [some rv, some (.ref dl), some (.ref na), some (.str z), some (.ref wl5), some (.ref rd), some (.str p.1), some (.ref a0), o8, o9, o10, none] ∧ H' = upd H8 rd (.lst (vr8 ++ [.ref a0])), ?_, fun σ H9 ⟨hσ, e9⟩ => ?_⟩
    · walk_at "wq"
      exact ⟨.inl ⟨rfl, _, SqL.of er8⟩, vr8, er8, by omega, rfl⟩
    subst hσ
    have po := W.okk.1 p List.mem_cons_self
    have k9 : Kp [rd] H8 H9 := by rw [e9]; exact Kp.lst er8 (List.mem_singleton.mpr rfl)
    have W10 : W33 wl5 rd names w (r ++ [p]) H H9 := by
      obtain ⟨n1, n2⟩ := W.nn
      have n5 : H wl5 = none := W.kp.gone1 (fun b mb => absurd mb List.not_mem_nil) nw5
      have nwr : wl5 ≠ rd := fun e => by obtain ⟨_, er, _⟩ := W.er; rw [e, er] at nw5; cases nw5
      refine ⟨⟨vw2, k9.keep _ _ (by simpa using nwr) ew8, (rww2.kp0 k78).pure k9 (rows_pur fun q mq => W.okk.1 q (List.mem_cons_of_mem _ mq))⟩, ⟨vr8 ++ [.ref a0], by rw [e9]; exact upd_same, ?_⟩, ?_, ⟨n5, n2⟩, nwr, ⟨fun q mq => W.okk.1 q (List.mem_cons_of_mem _ mq), fun q mq => ?_⟩, ⟨?_, fun x mx => ?_⟩⟩
      · rw [List.map_append]
        exact rqa_app (rr8.pure k9 (rows_pur W.okk.2)) (.cons (.tup (k9.tup _ _ ea8) (.cons (.str _) (.cons ((rvr.kp0 k78).pure k9 po.p) .nil))) .nil)
      · rw [e9]; exact W8.kp.upd n2 er8
      · rcases List.mem_append.mp mq with mq | mq
        · exact W.okk.2 q mq
        · rw [List.mem_singleton.mp mq]; exact po
      · rw [List.map_append, List.nodup_append]
        exact ⟨W.ndp.1, List.nodup_cons.mpr ⟨List.not_mem_nil, List.nodup_nil⟩, fun a ma b mb e => hnew (by rw [show p.1 = b from (List.mem_singleton.mp mb).symm, ← e]; exact ma)⟩
      · rw [List.map_append] at mx
        rcases List.mem_append.mp mx with mx | mx
        · exact W.ndp.2 x mx
        · rw [show x = p.1 from List.mem_singleton.mp mx]; exact po.m
    obtain ⟨d, gd⟩ := mem_getA (ls := ls) (n := p.1) (by rw [enm]; exact nsub _ po.m)
    have hdoc : doc p.1 = d := hdc _ _ gd
    have L : L33 p.1 d := hls _ (getA_mem gd)
    have pud : purD d = true := in_pur 6 d L.inn
    rw [walkF, if_neg hnew] at hd
    rw [hdoc] at hd
    have hrp : r.map (·.1) ++ [p.1] = (r ++ [p]).map (·.1) := by rw [List.map_append]; rfl
    rw [hrp] at hd
    have edl9 := W10.kp.keep _ _ List.not_mem_nil edl
    have kd9 := kd.kp W10.kp hpur
    obtain ⟨vd, hvd, rvd⟩ : ∃ vd, valV kvs (Sum.inr p.1) = some vd ∧ Rq H9 vd d := by
      rcases kd9.val (n := p.1) with ⟨v, d', h1, h2, h3⟩ | ⟨h1, h2⟩
      · rw [gd] at h2
        cases h2
        exact ⟨v, h1, h3⟩
      · rw [gd] at h2; cases h2
    obtain ⟨zz, LS⟩ := lsP L.ok
    obtain ⟨p6, xs6, rfl, e6, _, rr6, x4, hx4, rx4⟩ := rvd.part L.t6 (i := 4) (by omega)
    obtain ⟨p5, xs5, ds5, rfl, e5, ed5, rr5, _, l5⟩ := tupB_of rx4 LS.g1
    have hds5 : itD (ixD d 4) = ds5 := by rw [ed5]; rfl
    have g2 := LS.g2
    rw [hds5] at g2
    refine ⟨fun σ H' => ∃ o8' : Option V, σ = [some rv, some (.ref dl), some (.ref na), some (.str z), some (.ref wl5), some (.ref rd), some (.str p.1), some (.ref a0), o8', o9, o10, none] ∧ rowD z (itD (ixD d 4)) = .none ∧ H' = H9, ?_, fun σ H10 ⟨o8', hσ, hrow, e10⟩ => ?_⟩
    · refine for_viaT (fun x H' => x = .ref p5 ∧ H' = H9) (fun R hR => ?_) (fun x H' ⟨ex, eH⟩ => ?_)
      · walk_at "wq"
        have := DGet.k (k := Sum.inr p.1) edl9
        rw [hvd] at this
        exact ⟨_, this, p6, rfl, _, e6, _, hx4, hR _ _ ⟨rfl, rfl⟩⟩
      subst ex
      rw [eH]
      refine ⟨p5, rfl, ⟨_, SqT.of e5⟩, ?_⟩
      refine for_tup (K := K) (a := p5) (xs := xs5) (fun i2 σ H' => ∃ o8' : Option V, σ = [some rv, some (.ref dl), some (.ref na), some (.str z), some (.ref wl5), some (.ref rd), some (.str p.1), some (.ref a0), o8', o9, o10, none] ∧ rowD z ds5 = rowD z (ds5.drop i2) ∧ H' = H9)
        ⟨_, rfl, rfl, rfl⟩ (fun i2 σ H' _ ⟨_, _, _, k⟩ => by rw [k]; exact SqT.of e5) (fun i2 x σ H' hx ⟨o8', hσ, hr2, k⟩ => ?_) (fun σ H' ⟨o8', hσ, hr2, k⟩ => ?_)
      · subst hσ
        subst k
        obtain ⟨g, hg, rg⟩ := rr5.get hx
        obtain ⟨pg, y, a, dg, rfl, eg, rfl⟩ := good_rq rg (List.all_eq_true.mp g2 g (List.mem_of_getElem? hg))
        have hdr : ds5.drop i2 = .tuple [.str y, .int a, .str dg] :: ds5.drop (i2 + 1) := by
          rw [List.drop_eq_getElem_cons (List.getElem?_eq_some_iff.mp hg).1, (List.getElem?_eq_some_iff.mp hg).2]
        rw [hdr] at hr2
        have hr3 : rowD z (.tuple [.str y, .int a, .str dg] :: ds5.drop (i2 + 1)) = if y = z then .tuple [.int a, .str dg] else rowD z (ds5.drop (i2 + 1)) := rfl
        rw [hr3] at hr2
        walk_at "wq"
        refine ⟨_, eg, _, at0, rfl, ?_⟩
        by_cases c : y = z
        · rw [if_pos c] at hr2
          rw [if_pos (by rw [c])]
          refine ⟨_, eg, _, at1, _, eg, .str dg, rfl, by omega, fun p1 w1 => ⟨by omega, fun p2 w2 => ?_⟩⟩
          have q1 : Kp [] H' (upd H' p1 (.tup [.str (Str.ofString "found"), .str p.1, .int a, .str dg])) := Kp.new w1 _
          have q2 : Kp [] _ (upd (upd H' p1 (.tup [.str (Str.ofString "found"), .str p.1, .int a, .str dg])) p2 (.tup [.ref rd, .ref p1])) := Kp.new w2 _
          have W2 := (W10.go q1).go q2
          obtain ⟨vs', er, rr⟩ := W2.er
          rw [hds5, hr2, if_neg (by intro h; cases h)] at hd
          rw [hd] at q
          exact q p2 rd p1 vs' _ upd_same er rr (.tup (q2.keep _ _ List.not_mem_nil upd_same) (.cons (.str _) (.cons (.str _) (.cons (.int _) (.cons (.str _) .nil))))) W2.kp
        · rw [if_neg c] at hr2
          rw [if_neg (fun h => c (V.str.inj h))]
          exact hr2
      · refine ⟨o8', hσ, ?_, k⟩
        rw [hds5, hr2, rr5.len, List.drop_length]; rfl
    subst hσ
    subst e10
    rw [hrow, if_pos (show noneB .none = true from rfl)] at hd
    refine ⟨fun σ H' => ∃ la : Addr, σ = [some rv, some (.ref dl), some (.ref na), some (.str z), some (.ref wl5), some (.ref rd), some (.str p.1), some (.ref a0), o8', some (.ref la), o10, none] ∧ H10 la = none ∧ H' la = some (.lst []) ∧ Kp [] H10 H', ?_, fun σ H13 ⟨la, hσ, nla, ela, k13⟩ => ?_⟩
    · walk_at "wq"
      exact ⟨by omega, fun l hl => ⟨hl, Kp.new hl _⟩⟩
    subst hσ
    generalize hs0 : (⟨z, [], (r ++ [p]).map (·.1), .none⟩ : Sst) = s0
    rw [hs0] at hd
    generalize hgs : itD (ixD d 5) = gs
    rw [hgs] at hd
    refine ⟨fun σ H' => ∃ (wl6 : Addr) (o10 : Option V) (vs va : List V), σ = [some rv, some (.ref dl), some (.ref na), some (.str z), some (.ref wl6), some (.ref rd), some (.str p.1), some (.ref a0), o8', some (.ref la), o10, none] ∧ H' wl6 = some (.lst vs) ∧ RqA H' vs ((if (folF sh s0 gs).2 = true then [] else w).map rowW) ∧ H' la = some (.lst va) ∧ RqA H' va ((folF sh s0 gs).1.map rowW) ∧ (∀ q ∈ (folF sh s0 gs).1, RwOk names q) ∧ Kp [la] H10 H', ?_, fun σ H14 ⟨wl6, o10, vs, va, hσ, ew6, rw6, ela6, ra6, hok, k14⟩ => ?_⟩
    · obtain ⟨x5, hx5, rx5⟩ : ∃ x5, atI xs6 5 = some x5 ∧ Rq H10 x5 (ixD d 5) := by
        obtain ⟨p6', xs6', e6v, e6', _, rr6', x5, hx5, rx5⟩ := rvd.part L.t6 (i := 5) (by omega)
        cases e6v
        rw [e6] at e6'
        cases e6'
        exact ⟨x5, hx5, rx5⟩
      refine for_viaT (fun x H' => x = x5 ∧ H' = H13) (fun R hR => ?_) (fun x H' ⟨ex, eH⟩ => ?_)
      · walk_at "wq"
        have := DGet.k (k := Sum.inr p.1) (k13.keep _ _ List.not_mem_nil edl9)
        rw [hvd] at this
        exact ⟨_, this, p6, rfl, _, k13.keep _ _ List.not_mem_nil e6, _, hx5, hR _ _ ⟨rfl, rfl⟩⟩
      subst ex
      subst eH
      obtain ⟨p7, xs7, ds7, rfl, e7, ed7, rr7, _, l7⟩ := tupB_of rx5 LS.r1
      have egs : gs = ds7 := by rw [← hgs, ed7]; rfl
      refine ⟨p7, rfl, ⟨_, SqT.of (k13.keep _ _ List.not_mem_nil e7)⟩, ?_⟩
      have rr13 := rr7.kp0 k13
      have nlw : la ≠ wl5 := fun e => by
        obtain ⟨_, ew, _⟩ := W10.ew
        rw [← e, nla] at ew; cases ew
      refine for_tup (K := K) (a := p7) (xs := xs7) (fun i2 σ H' => ∃ (o10 : Option V) (va : List V), σ = [some rv, some (.ref dl), some (.ref na), some (.str z), some (.ref wl5), some (.ref rd), some (.str p.1), some (.ref a0), o8', some (.ref la), o10, none] ∧ H' la = some (.lst va) ∧ RqA H' va ((folF sh s0 (gs.take i2)).1.map rowW) ∧ (folF sh s0 (gs.take i2)).2 = false ∧ (∀ q ∈ (folF sh s0 (gs.take i2)).1, RwOk names q) ∧ Kp [la] H10 H')
        ⟨_, [], rfl, ela, .nil, rfl, fun q m => absurd m List.not_mem_nil, k13.in0⟩ (fun i2 σ H' _ ⟨_, _, _, _, _, _, _, k⟩ => SqT.of (k.tup _ _ e7)) (fun i2 x σ H' hx ⟨o10, va, hσ, eva, rva, hb, hq, kk⟩ => ?_) (fun σ H' ⟨o10, va, hσ, eva, rva, hb, hq, kk⟩ => ?_)
      · subst hσ
        obtain ⟨g, hg, rg⟩ := rr7.get hx
        rw [← egs] at hg
        have mg := List.mem_of_getElem? hg
        have G3 := L.gr g (by rw [hgs]; exact mg)
        have pg : purD g = true := in_pur 4 g G3.inn
        have rg14 := (rg.pure kk pg)
        obtain ⟨pgr, pt, nm, x1, d1, ps, laz, rfl, eg, rfl, rx1, ept, lps, lnm, ir⟩ := grant4 rg14 G3.ok
        obtain ⟨ps', mps, eps⟩ := G3.ps
        have eps : PyData.tuple (ps.map PyData.str) = .tuple (ps'.map PyData.str) := eps
        have eps2 : ps = ps' := by
          have := congrArg (fun d => (itD d).map strD) eps
          have : (ps.map PyData.str).map strD = (ps'.map PyData.str).map strD := this
          rwa [map_strD, map_strD] at this
        subst eps2
        have lead : leadsF sh s0 (.tuple [.str nm, d1, .tuple (ps.map PyData.str), .int laz]) = (!decide (nm ∈ (r ++ [p]).map (·.1)) && (decide (nm ∈ names) && ps.any fun q => mtW q z)) := by
          rw [← hs0]
          unfold leadsF
          have e1 : patsD (.tuple [.str nm, d1, .tuple (ps.map PyData.str), .int laz]) = ps := map_strD ps
          have e2 : strD (ixD (.tuple [.str nm, d1, .tuple (ps.map PyData.str), .int laz]) 0) = nm := rfl
          rw [e1, e2, hsh, Bool.not_not]
        have tk : gs.take (i2 + 1) = gs.take i2 ++ [.tuple [.str nm, d1, .tuple (ps.map PyData.str), .int laz]] := by rw [List.take_add_one, hg]; rfl
        have fa := folF_app sh s0 [.tuple [.str nm, d1, .tuple (ps.map PyData.str), .int laz]] (gs.take i2) hb
        have f1 : folF sh s0 [.tuple [.str nm, d1, .tuple (ps.map PyData.str), .int laz]] = if leadsF sh s0 (.tuple [.str nm, d1, .tuple (ps.map PyData.str), .int laz]) = true then (if decide (laz = 1) = true then ([(nm, d1)], true) else ([(nm, d1)], false)) else ([], false) := rfl
        have skip : leadsF sh s0 (.tuple [.str nm, d1, .tuple (ps.map PyData.str), .int laz]) = false → ∀ {G : Hp}, Kp [] H' G → ∃ va, G la = some (.lst va) ∧ RqA G va (List.map rowW (folF sh s0 (gs.take (i2 + 1))).1) ∧ (folF sh s0 (gs.take (i2 + 1))).2 = false ∧ (∀ q ∈ (folF sh s0 (gs.take (i2 + 1))).1, RwOk names q) ∧ Kp [la] H10 G := fun h {G} kg => by
          rw [tk, fa, f1, if_neg (by rw [h]; simp), List.append_nil]
          exact ⟨va, kg.keep _ _ List.not_mem_nil eva, rva.kp0 kg, rfl, hq, kk.trans kg.in0⟩
        have ena' : H' na = some (.lst (names.map V.str)) := by
          have e0 : H10 na = some (.lst (names.map V.str)) := W10.kp.keep _ _ List.not_mem_nil ena
          exact kk.keep _ _ (fun m => by rw [List.mem_singleton.mp m, nla] at e0; cases e0) e0
        obtain ⟨vr', er', rr'⟩ : ∃ vs, H' rd = some (.lst vs) ∧ RqA H' vs ((r ++ [p]).map rowW) := by
          obtain ⟨vr', er', rr'⟩ := W10.er
          exact ⟨vr', kk.keep _ _ (fun m => by rw [List.mem_singleton.mp m, nla] at er'; cases er') er', rr'.pure kk (rows_pur W10.okk.2)⟩
        walk_at "wq"
        refine ⟨_, eg, .ref pt, rfl, pt, ps, z, rfl, ept, mps, hz, fun G kG => ?_⟩
        have egG := kG.keep _ _ List.not_mem_nil eg
        refine ⟨_, rfl, ?_⟩
        cases hc : ps.any fun q => mtW q z with
        | false => exact if_no (by simp) (skip (by rw [lead, hc, Bool.and_false, Bool.and_false]) kG)
        | true =>
        refine if_yes rfl ⟨_, egG, _, at0, na, _, rfl, .inl (SqL.of (kG.keep _ _ List.not_mem_nil ena')), rfl, flat_strs names, _, rfl, ?_⟩
        rw [inV_strs]
        simp only [Bool.false_eq_true, if_false]
        by_cases cn : nm ∈ names
        rotate_left
        · rw [decide_eq_false cn]
          exact if_no (by simp) (skip (by rw [lead, decide_eq_false cn, Bool.false_and, Bool.and_false]) kG)
        rw [decide_eq_true cn]
        have lrp : (r ++ [p]).length ≤ 9 := by rw [List.length_append, List.length_singleton]; omega
        refine if_yes rfl ⟨_, egG, _, at0, ?_⟩
        refine names_lc (fun a xs v H Q h1 h2 h3 => ⟨a, rfl, xs, h1, 0, rfl, v, h2, h3⟩) (kG.keep _ _ List.not_mem_nil er') (rr'.kp0 kG) (by omega) fun pq G2 nq eq kq => ?_
        refine ⟨pq, _, rfl, .inl (SqL.of eq), rfl, flat_strs _, _, rfl, ?_⟩
        rw [inV_strs]
        simp only [if_true]
        have k2 := kG.trans kq
        by_cases cs : nm ∈ (r ++ [p]).map (·.1)
        · rw [decide_eq_true cs]
          exact if_no (by simp) (skip (by rw [lead, decide_eq_true cs]; rfl) k2)
        rw [decide_eq_false cs]
        have ldt : leadsF sh s0 (.tuple [.str nm, d1, .tuple (ps.map PyData.str), .int laz]) = true := by rw [lead, decide_eq_false cs, decide_eq_true cn, hc]; rfl
        have pd1 : purD d1 = true := (purD_tup.mp pg) d1 (by simp)
        have ro : RwOk names (nm, d1) := by
          refine ⟨cn, ?_, pd1⟩
          have i4 := inD_tup.mp G3.inn
          have h1 := i4.2 _ List.mem_cons_self
          have h2 := i4.2 d1 (by simp)
          exact okD_le (by decide) (in_ok 4 _ (inD_tup.mpr ⟨Nat.le_of_ble_eq_true rfl, fun d m => by
            rcases List.mem_cons.mp m with rfl | m
            · exact h1
            · rw [List.mem_singleton.mp m]; exact h2⟩))
        have eva2 := k2.keep _ _ List.not_mem_nil eva
        have eg2 := k2.keep _ _ List.not_mem_nil eg
        refine if_yes rfl ⟨.inl ⟨rfl, _, SqL.of eva2⟩, _, eg2, _, at0, _, eg2, _, at1, by omega, fun pr wr => ?_⟩
        have kr : Kp [] G2 (upd G2 pr (.tup [.str nm, x1])) := Kp.new wr _
        have eva1 := kr.keep _ _ List.not_mem_nil eva2
        have kl : Kp [la] _ (upd (upd G2 pr (.tup [.str nm, x1])) la (.lst (va ++ [.ref pr]))) := Kp.lst eva1 (List.mem_singleton.mpr rfl)
        have l1 := rva.len
        rw [List.length_map] at l1
        have l2 := folF_len sh s0 (gs.take i2)
        have l3 := List.length_take_le' i2 gs
        have lgs : gs.length ≤ 32 := by rw [← hgs]; exact (tupB_len LS.r1).2
        have rva2 : RqA (upd (upd G2 pr (.tup [.str nm, x1])) la (.lst (va ++ [.ref pr]))) (va ++ [.ref pr]) (((folF sh s0 (gs.take i2)).1 ++ [(nm, d1)]).map rowW) := by
          rw [List.map_append]
          exact rqa_app ((rva.kp0 (k2.trans kr)).pure kl (rows_pur hq)) (.cons (.tup (kl.tup _ _ upd_same) (.cons (.str _) (.cons ((rx1.kp0 (k2.trans kr)).pure kl pd1) .nil))) .nil)
        have hq2 : ∀ q ∈ (folF sh s0 (gs.take i2)).1 ++ [(nm, d1)], RwOk names q := fun q mq => by
          rcases List.mem_append.mp mq with mq | mq
          · exact hq q mq
          · rw [List.mem_singleton.mp mq]; exact ro
        have kk2 := kk.trans ((k2.trans kr).in0.trans kl)
        refine ⟨va, eva1, by omega, _, kl.tup _ _ (kr.tup _ _ eg2), .int laz, rfl, rfl, ?_⟩
        by_cases c1 : laz = 1
        · subst c1
          refine if_yes rfl ?_
          have fb : folF sh s0 (gs.take (i2 + 1)) = ((folF sh s0 (gs.take i2)).1 ++ [(nm, d1)], true) := by
            rw [tk, fa, f1, if_pos ldt]; rfl
          have fw : folF sh s0 gs = ((folF sh s0 (gs.take i2)).1 ++ [(nm, d1)], true) := by
            have := folF_brk sh s0 (gs.drop (i2 + 1)) (gs.take (i2 + 1)) (by rw [fb])
            rw [List.take_append_drop] at this
            rw [this, fb]
          refine ⟨fun σ H2 => ∃ wl6 : Addr, σ = [some rv, some (.ref dl), some (.ref na), some (.str z), some (.ref wl6), some (.ref rd), some (.str p.1), some (.ref a0), o8', some (.ref la), some (.ref pgr), none] ∧ H2 wl6 = some (.lst []) ∧ Kp [] (upd (upd G2 pr (.tup [.str nm, x1])) la (.lst (va ++ [.ref pr]))) H2, ?_, fun σ H2 ⟨wl6, hσ, e6', k6⟩ => ?_⟩
          · walk_at "wq"
            exact ⟨by omega, fun l hl => Kp.new hl _⟩
          subst hσ
          refine ⟨wl6, _, rfl, [], e6', ?_, va ++ [.ref pr], k6.keep la (.lst (va ++ [.ref pr])) List.not_mem_nil upd_same, ?_, ?_, kk2.trans k6.in0⟩
          · rw [fw]; exact .nil
          · rw [fw]; exact rva2.kp0 k6
          · rw [fw]; exact hq2
        · have fb : folF sh s0 (gs.take (i2 + 1)) = ((folF sh s0 (gs.take i2)).1 ++ [(nm, d1)], false) := by
            rw [tk, fa, f1, if_pos ldt, if_neg (by simpa using c1)]
          refine if_no (by simpa using c1) ⟨?_, ?_, ?_, kk2⟩
          · rw [fb]; exact rva2
          · rw [fb]
          · rw [fb]; exact hq2
      · have el : xs7.length = gs.length := by rw [egs]; exact rr7.len
        rw [el, List.take_length] at rva hb hq
        obtain ⟨vw, ew, rw'⟩ := W10.ew
        refine ⟨wl5, o10, vw, va, hσ, kk.keep _ _ (by simpa using nlw.symm) ew, ?_, eva, rva, hq, kk⟩
        rw [if_neg (by rw [hb]; simp)]
        exact rw'.pure kk (rows_pur W10.okk.1)
    subst hσ
    have fl := folF_len sh s0 gs
    have lgs : gs.length ≤ 32 := by rw [← hgs]; exact (tupB_len LS.r1).2
    walk_at "wq"
    have l1 := ra6.len
    have l2 := rw6.len
    rw [List.length_map] at l1 l2
    have l3 : (if (folF sh s0 gs).2 = true then ([] : List (Str × PyData)) else w).length ≤ w.length := by
      split
      · exact Nat.zero_le _
      · exact Nat.le_refl _
    have lrp : (r ++ [p]).length ≤ 8 := by
      have := nodup_len W10.ndp.1 W10.ndp.2
      rw [List.length_map] at this; omega
    have hlw : w.length ≤ 264 := by omega
    refine ⟨la, wl6, va, vs, rfl, rfl, ela6, ew6, by omega, fun wl7 w7 => ?_⟩
    have lrp2 : r.length + 1 ≤ 8 := by rw [List.length_append, List.length_singleton] at lrp; exact lrp
    have hmm : mW ((folF sh s0 gs).1 ++ (if (folF sh s0 gs).2 = true then [] else w)) (r ++ [p]) < m := by
      rw [hm, hmw]
      unfold mW
      rw [List.length_append, List.length_append, List.length_singleton]
      omega
    refine ⟨_, hmm, wl7, _, r ++ [p], _, _, _, _, _, n, rfl, ?_, rfl, by omega, by omega, ?_⟩
    · obtain ⟨n1, n2⟩ := W10.nn
      have kl : Kp [] H14 (upd H14 wl7 (.lst (va ++ vs))) := Kp.new w7 _
      obtain ⟨vs', er12, rr12⟩ := W10.er
      have nlr : rd ∉ [la] := fun m => by rw [List.mem_singleton.mp m, nla] at er12; cases er12
      have er14 := k14.keep _ _ nlr er12
      have K14 : Kp [] H H14 := Kp.drop (W10.kp.gone1 (fun b mb => absurd mb List.not_mem_nil) nla) (W10.kp.in0.trans k14)
      refine ⟨⟨_, upd_same, ?_⟩, ⟨vs', kl.keep _ _ List.not_mem_nil er14, (rr12.pure k14 (rows_pur W10.okk.2)).kp0 kl⟩, K14.trans kl, ⟨K14.gone1 (fun b mb => absurd mb List.not_mem_nil) w7, n2⟩, fun e => ?_, ⟨fun q mq => ?_, W10.okk.2⟩, W10.ndp⟩
      · rw [List.map_append]; exact rqa_app (ra6.kp0 kl) (rw6.kp0 kl)
      · rw [e, er14] at w7; cases w7
      · rcases List.mem_append.mp mq with mq | mq
        · exact hok q mq
        · split at mq
          · exact absurd mq List.not_mem_nil
          · exact W10.okk.1 q mq
    · rw [hd, List.append_assoc]
      rfl
  subst hσ
  walk_at "wq"
  refine ⟨by omega, fun p0 w0 => ⟨by omega, fun p1 w1 => ?_⟩⟩
  have q0 : Kp [] H4 (upd H4 p0 (.tup [.str (Str.ofString "none")])) := Kp.new w0 _
  have q1 : Kp [] _ (upd (upd H4 p0 (.tup [.str (Str.ofString "none")])) p1 (.tup [.ref rd, .ref p0])) := Kp.new w1 _
  have W2 := (W.go q0).go q1
  obtain ⟨vs, er, rr⟩ := W2.er
  exact q p1 rd p0 vs _ upd_same er rr (by rw [e2]; exact .tup (q1.keep _ _ List.not_mem_nil upd_same) (.cons (.str _) .nil)) W2.kp
end
/-! k33: what is refused; the rows of the walk -/
abbrev s_law_refused : Stmt := top 61
abbrev N_law_refused : List Str := ["search", "document"]
theorem sc_law_refused : FnScope N_law_refused ["search", "document"] (defScope s_law_refused) := ⟨rfl, rfl, rfl, by decide +kernel, rfl, by decide +kernel, by decide +kernel⟩
def spRef33 (C : Addr) (Ts : List Addr) : Sp := fun vs H Q _ => ∃ (o wl sd : Addr) (sv : V) (sh : PyData) (s : Sst) (v : V) (d : PyData), vs = [.ref o, v] ∧ Srs C o wl sd sv sh s H ∧ s.Inv ∧ Rq H v d ∧ okD 12 d = true ∧ (isList d = true → purD d = true) ∧ Tabs Ts H ∧ ¬ (s.res = .none ∧ isList d = true ∧ ixD d 1 = .str s.hd.1) ∧ ∀ H', Kp Ts H H' → Tabs Ts H' → Q (.bl true) H'
/-- rows of the walk -/
structure RwX (names : List Str) (p : Str × PyData) : Prop where
  m : p.1 ∈ names
  l : lnS p.1 = true
  o : okD 8 p.2 = true
  p : purD p.2 = true
theorem okD_ln {z : Str} (h : lnS z = true) {n : Nat} : okD n (.str z) = true := by
  have lnp := ln_low h
  have : okD n (.str z) = (decide (z.length ≤ 200000) && PyData.strOk z) := by cases n <;> rfl
  rw [this, decide_eq_true (by omega), Bool.true_and]
  exact strOk_of fun c hc => Nat.lt_trans (lnp.2 c hc) (by decide)
theorem RwX.ok {names : List Str} {p : Str × PyData} (h : RwX names p) : okD 9 (rowW p) = true := okD_tup.mpr ⟨by show 2 ≤ 200000; decide, fun d m => by
  rcases List.mem_cons.mp m with rfl | m
  · exact okD_ln h.l
  · rw [List.mem_singleton.mp m]; exact h.o⟩
theorem RwX.pr {names : List Str} {p : Str × PyData} (h : RwX names p) : purD (rowW p) = true := purD_tup.mpr fun d m => by
  rcases List.mem_cons.mp m with rfl | m
  · rfl
  · rw [List.mem_singleton.mp m]; exact h.p
/-- what the walk finds is plain -/
structure ResX (d : PyData) : Prop where
  o : okD 9 d = true
  p : purD d = true
  t : ∃ ds, d = .tuple ds
theorem noneT_okX : ResX noneT := ⟨by decide +kernel, rfl, ⟨_, rfl⟩⟩
theorem okD_eqv {n : Nat} {d : PyData} (h : okD n d = true) : PyData.eqv d d = true := SeqAt.eqv_refl d (ok_lay n d h).1
theorem rowD_okX {z : Str} : ∀ {gs : List PyData}, (∀ g ∈ gs, okD 8 g = true ∧ purD g = true ∧ (itD g).length ≤ 1000) → noneB (rowD z gs) = false → ∃ es, rowD z gs = .tuple es ∧ es.length ≤ 1000 ∧ (∀ x ∈ es, okD 7 x = true ∧ purD x = true)
  | [], _, h => by cases h
  | g :: gs, hg, hn => by
    have e : rowD z (g :: gs) = if strD (ixD g 0) = z then .tuple ((itD g).drop 1) else rowD z gs := rfl
    rw [e] at hn ⊢
    by_cases c : strD (ixD g 0) = z
    · rw [if_pos c]
      obtain ⟨o, p, l⟩ := hg g List.mem_cons_self
      refine ⟨_, rfl, ?_, fun x m => ?_⟩
      · rw [List.length_drop]; omega
      · cases g with
        | tuple es => exact ⟨(okD_tup.mp o).2 x (List.mem_of_mem_drop m), purD_tup.mp p x (List.mem_of_mem_drop m)⟩
        | _ => exact absurd m List.not_mem_nil
    · rw [if_neg c] at hn ⊢
      exact rowD_okX (fun g m => hg g (List.mem_cons_of_mem _ m)) hn
theorem foundT_okX {p : Str × PyData} {z : Str} {gs : List PyData} (hp : lnS p.1 = true) (hg : ∀ g ∈ gs, okD 8 g = true ∧ purD g = true ∧ (itD g).length ≤ 1000) (h : noneB (rowD z gs) = false) : ResX (foundT p (rowD z gs)) := by
  obtain ⟨es, e, le, he⟩ := rowD_okX hg h
  rw [e]
  refine ⟨okD_tup.mpr ⟨by show es.length + 1 + 1 ≤ 200000; omega, fun x m => ?_⟩, purD_tup.mpr fun x m => ?_, ⟨_, rfl⟩⟩
  · rcases List.mem_cons.mp m with rfl | m
    · decide +kernel
    rcases List.mem_cons.mp m with rfl | m
    · exact okD_ln hp
    · exact okD_le (by decide) (he x m).1
  · rcases List.mem_cons.mp m with rfl | m
    · rfl
    rcases List.mem_cons.mp m with rfl | m
    · rfl
    · exact (he x m).2
theorem fol_rowsX {sh : PyData} {s : Sst} : ∀ gs : List PyData, (∀ g ∈ gs, isGrant g = true ∧ purD g = true ∧ okD 5 g = true) → ∀ q ∈ (folF sh s gs).1, okD 8 q.2 = true ∧ purD q.2 = true ∧ lnS q.1 = true
  | [], _, q, m => absurd m List.not_mem_nil
  | g :: gs, h, q, m => by
    have one : okD 8 (ixD g 1) = true ∧ purD (ixD g 1) = true ∧ lnS (strD (ixD g 0)) = true := by
      obtain ⟨h1, h2, h3⟩ := h g List.mem_cons_self
      have h1' := h1
      unfold isGrant at h1
      simp only [Bool.and_eq_true] at h1
      obtain ⟨a, b, _, r, _⟩ := h1
      refine ⟨okD_le (by decide) (ok_ix (n := 4) h3 a (by omega)), pur_ix h2 a (by omega), ?_⟩
      generalize ixD g 0 = x at b
      cases x <;> first | exact b | cases b
    unfold folF at m
    by_cases c : leadsF sh s g = true
    · rw [if_pos c] at m
      by_cases c1 : oneB (ixD g 3) = true
      · rw [if_pos c1] at m
        rw [List.mem_singleton.mp m]; exact one
      · rw [if_neg c1] at m
        rcases List.mem_cons.mp m with rfl | m
        · exact one
        · exact fol_rowsX gs (fun g m => h g (List.mem_cons_of_mem _ m)) q m
    · rw [if_neg c] at m
      exact fol_rowsX gs (fun g m => h g (List.mem_cons_of_mem _ m)) q m
theorem gsX {d : PyData} (il : isList d = true) (pu : purD d = true) (ou : okD 7 d = true) : ∀ g ∈ itD (ixD d 4), okD 8 g = true ∧ purD g = true ∧ (itD g).length ≤ 1000 := fun g m => by
  obtain ⟨zz, LS⟩ := lsP il
  have ig := List.all_eq_true.mp LS.g2 g m
  have h4 := ok_ix (n := 6) ou LS.t6 (i := 4) (by omega)
  have p4 := pur_ix pu LS.t6 (i := 4) (by omega)
  refine ⟨?_, ?_, ?_⟩
  · generalize ixD d 4 = x at h4 m
    cases x with
    | tuple ds => exact okD_le (by decide) ((okD_tup.mp h4).2 g m)
    | _ => cases m
  · generalize ixD d 4 = x at p4 m
    cases x with
    | tuple ds => exact purD_tup.mp p4 g m
    | _ => cases m
  · unfold isGood at ig
    rw [Bool.and_eq_true] at ig
    have := (tupB_len ig.1).2
    omega
theorem walk_rowsX {sh : PyData} {z : Str} {doc : Str → PyData} {names : List Str} (hd : ∀ x ∈ names, isList (doc x) = true ∧ purD (doc x) = true ∧ okD 7 (doc x) = true) (hn : ∀ s g, leadsF sh s g = true → strD (ixD g 0) ∈ names) :
    ∀ {n : Nat} {w : List (Str × PyData)} {sn : List Str}, (∀ p ∈ w, RwX names p) → (∀ p ∈ (walkF sh z doc n w sn).1, RwX names p) ∧ ResX (walkF sh z doc n w sn).2
  | 0, _, _, _ => ⟨fun p m => by unfold walkF at m; exact absurd m List.not_mem_nil, by unfold walkF; exact noneT_okX⟩
  | _ + 1, [], _, _ => ⟨fun p m => by unfold walkF at m; exact absurd m List.not_mem_nil, by unfold walkF; exact noneT_okX⟩
  | n + 1, p :: w, sn, h => by
    have hp := h p List.mem_cons_self
    have hw : ∀ q ∈ w, RwX names q := fun q m => h q (List.mem_cons_of_mem _ m)
    unfold walkF
    by_cases c : p.1 ∈ sn
    · rw [if_pos c]
      exact walk_rowsX hd hn hw
    rw [if_neg c]
    obtain ⟨il, pu, ou⟩ := hd _ hp.m
    by_cases c1 : noneB (rowD z (itD (ixD (doc p.1) 4))) = true
    · rw [if_pos c1]
      obtain ⟨zz, LS⟩ := lsP il
      have pgs : ∀ g ∈ itD (ixD (doc p.1) 5), isGrant g = true ∧ purD g = true ∧ okD 5 g = true := fun g m => by
        refine ⟨List.all_eq_true.mp LS.r2 g m, ?_, ?_⟩
        · have h4 := pur_ix pu LS.t6 (i := 5) (by omega)
          generalize ixD (doc p.1) 5 = x at h4 m
          cases x with
          | tuple ds => exact purD_tup.mp h4 g m
          | _ => cases m
        · have h4 := ok_ix (n := 6) ou LS.t6 (i := 5) (by omega)
          generalize ixD (doc p.1) 5 = x at h4 m
          cases x with
          | tuple ds => exact (okD_tup.mp h4).2 g m
          | _ => cases m
      have fr := fol_rowsX (sh := sh) (s := ⟨z, [], sn ++ [p.1], .none⟩) _ pgs
      have fn := fol_named (sh := sh) (s := ⟨z, [], sn ++ [p.1], .none⟩) (hn _) (itD (ixD (doc p.1) 5))
      generalize folF sh ⟨z, [], sn ++ [p.1], .none⟩ (itD (ixD (doc p.1) 5)) = fo at fr fn
      obtain ⟨r1, r2⟩ := walk_rowsX hd hn (n := n) (w := fo.1 ++ if fo.2 = true then [] else w) (sn := sn ++ [p.1]) fun q m => by
        rcases List.mem_append.mp m with m | m
        · obtain ⟨a, b, cc⟩ := fr q m
          exact ⟨fn q m, cc, a, b⟩
        · split at m
          · exact absurd m List.not_mem_nil
          · exact hw q m
      exact ⟨fun q m => by
        rcases List.mem_cons.mp m with rfl | m
        · exact hp
        · exact r1 q m, r2⟩
    · rw [if_neg c1]
      exact ⟨fun q m => by rw [List.mem_singleton.mp m]; exact hp, foundT_okX hp.l (gsX il pu ou) (by simpa using c1)⟩
section
variable {P : Program} {w : World} {K : PySem.W.Frag} {mg : Str → Option Value} {base : Heap} {f : Addr} {fd : FuncData} {C CB R : Addr} {Ts : List Addr}
theorem ok_ref33 (F : Fun K "_law_refused" "_law_refused" s_law_refused f fd) (B : Blt mg) (T : SrC K mg C CB) (m_Search_give : CalM P w K mg base (L2.CX P w) 16 C "give" (spSGive C CB Ts)) : FnOk P w K mg base CX0 17 f fd ["search", "document"] (spRef33 C Ts) := by
  refine F.ok sc_law_refused (fun vs H Q E h => ?_) (fun cdv A outer s H vs Q E hr h => ?_)
  · obtain ⟨o, wl, sd, sv, sh, st, v, d, rfl, _⟩ := h; rfl
  obtain ⟨o, wl, sd, sv, sh, st, v, d, rfl, hS, hI, hR, od, pd, hG, hno, q⟩ := h
  refine ⟨_, (pss_cons (ps_try_mix (i := 0) (n := "search") (out := fun _ _ _ _ => False) rfl rfl sc_law_refused.nd rfl rfl takes0 (fun V held ex tk _ => by_given (pss_one (ps_expr (m_Search_give.peV hr tk (pv 0) (pa_cons (pv 1) pa_nil)))) rfl) (.bare (k := (_, _)) ⟨rfl, by decide, .inl T.BadState.g⟩ (fun a oe cls d pn hz hf => (by_given (pss_one (ps_ret pe_bl)) rfl)) .none))
    (pss_one (ps_ret pe_bl))), ?_⟩
  obtain ⟨dx, rv, ho, hrv⟩ := hS.ob
  walk_at "wq"
  refine ⟨dx, _, ho, rfl, o, wl, sd, sv, sh, st, v, d, rfl, hS, fun er => ?_, hR, od, pd, hG, fun a b c => absurd ⟨a, b, c⟩ hno, fun _ H' k g => ?_⟩
  · obtain ⟨i1, i2, i3⟩ := hI.go er
    exact ⟨i1, i3 _ (hd_mem i1), by have := hI.wl; omega, by omega⟩
  · exact ⟨true, T.BadState.em, if_yes rfl fun e he => q H' k g⟩
end
/-! the draws of a script -/
abbrev s_law_draws : Stmt := top 53
abbrev N_law_draws : List Str := ["script", "start", "most", "draws", "cell", "number", "mixed", "k"]
theorem sc_law_draws : FnScope N_law_draws ["script", "start", "most"] (defScope s_law_draws) := ⟨rfl, rfl, rfl, by decide +kernel, rfl, by decide +kernel, by decide +kernel⟩
def spDraws (K : PySem.W.Frag) : Sp := fun vs H Q _ => ∃ (a : Addr) (ns : List Int) (st mo : Nat), vs = [.ref a, .int st, .int mo] ∧ SqL K H a (ns.map V.int) ∧ ns.length ≤ 63 ∧
  ∀ (ds : List Int) (p : Addr) (H' : Hp), H p = none → H' p = some (.lst (ds.map V.int)) → (∀ d ∈ ds, 0 ≤ d ∧ d < 10 ^ 18) → ds.length ≤ mo → Kp [] H H' → Q (.ref p) H'
section
variable {P : Program} {w : World} {K : PySem.W.Frag} {mg : Str → Option Value} {base : Heap} {f : Addr} {fd : FuncData}
theorem ok_draws (F : Fun K "_law_draws" "_law_draws" s_law_draws f fd) (B : Blt mg) (habs : mg "abs" = none) : FnOk P w K mg base CX0 1 f fd ["script", "start", "most"] (spDraws K) := by
  refine F.ok sc_law_draws (fun vs H Q E h => ?_) (fun cdv A outer s H vs Q E hr h => ?_)
  · obtain ⟨a, ns, st, mo, rfl, _⟩ := h; rfl
  obtain ⟨a, ns, st, mo, rfl, hS, hl, q⟩ := h
  refine ⟨_, (pss_cons (ps_set (i := 3) sc_law_draws.nd rfl (Or.inl rfl) (pe_lst pa_nil))
    (pss_cons (ps_for PassesOwn.never rfl (pi_list (pe_slice sl_list (pv 0) (po_some (pv 1)) po_none)) (pg_name (i := 4) sc_law_draws.nd rfl (Or.inl rfl)) (pss_cons (ps_set (i := 5) sc_law_draws.nd rfl (Or.inl rfl) (pe_callB call_abs rfl habs (by decide +kernel) (pa_cons (B.int_i (pa_cons (pv 4) pa_nil)) pa_nil)))
    (pss_one (ps_if (pt_cmpR op_lt (pv 5) (pe_op op_pow pe_int pe_int) (nomark _)) (pss_cons (ps_set (i := 6) sc_law_draws.nd rfl (Or.inl rfl) (pe_op op_mod (B.int_i (pa_cons (pe_op op_add (pe_op op_mul (pv 5) pe_int) pe_int) pa_nil)) pe_int))
    (pss_cons (ps_expr (pe_bm PySem.F.plainAttrs_list PySem.F.slot_list_append PySem.F.type_list_append mt_append (pv 3) (pa_cons (pv 5) pa_nil)))
    (pss_cons (ps_expr (pe_bm PySem.F.plainAttrs_list PySem.F.slot_list_append PySem.F.type_list_append mt_append (pv 3) (pa_cons (pe_op op_fdivW (pe_op op_mod (B.int_i (pa_cons (pe_op op_add (pe_op op_add (pe_op op_mul (pv 6) pe_int) (pe_op op_fdivW (pv 5) pe_int)) pe_int) pa_nil)) pe_int) pe_int) pa_nil)))
    (pss_one (ps_expr (pe_bm PySem.F.plainAttrs_list PySem.F.slot_list_append PySem.F.type_list_append mt_append (pv 3) (pa_cons (pe_op op_fdivW (pe_op op_mod (B.int_i (pa_cons (pe_op op_add (pe_op op_add (pe_op op_mul (pv 6) pe_int) (pe_op op_fdivW (pv 5) pe_int)) pe_int) pa_nil)) pe_int) pe_int) pa_nil))))))) (pss_one (ps_for PassesOwn.never rfl (B.range1 (pa_cons pe_int pa_nil)) (pg_name (i := 7) sc_law_draws.nd rfl (Or.inl rfl)) (pss_cons (ps_if (pt_cmpR op_gt (pv 5) pe_int (nomark _)) (pss_one (ps_expr (pe_bm PySem.F.plainAttrs_list PySem.F.slot_list_append PySem.F.type_list_append mt_append (pv 3) (pa_cons (pe_op op_mod (B.int_i (pa_cons (pv 5) pa_nil)) pe_int) pa_nil)))) pss_nil)
    (pss_one (ps_set (i := 5) sc_law_draws.nd rfl (Or.inl rfl) (pe_op op_fdivW (pv 5) pe_int))))))))))
    (pss_one (ps_ret (pe_slice sl_list (pv 3) po_none (po_some (pv 2))))))), ?_⟩
  walk_at "wp"
  refine ⟨by decide, fun D hD => ?_⟩
  have em : cutV (ns.map V.int) (some (st : Int)) none = (ns.drop st).map V.int := by rw [cutV_from, List.map_drop]
  have lm : (ns.drop st).length ≤ ns.length := by rw [List.length_drop]; omega
  generalize ns.drop st = ms at em lm
  have nw := (Kp.new hD (.lst []) : Kp [] _ _)
  refine ⟨_, rfl, _, rfl, st, rfl, a, _, rfl, nw.seqL List.not_mem_nil hS, fun L hL => ⟨L, rfl, ⟨_, SqL.of upd_same⟩, ?_⟩⟩
  have nDL : D ≠ L := ne_of_none upd_same hL
  have nw2 := nw.trans (Kp.new hL (.lst (cutV (ns.map V.int) (some (st : Int)) none)))
  have hL0 : H L = none := by rw [upd_ne nDL.symm] at hL; exact hL
  refine for_list (K := K) (a := L) (xs := ms.map V.int) (fun i σ H' => ∃ (ds : List Int) (o4 o5 o6 o7 : Option V), σ = [some (.ref a), some (.int st), some (.int mo), some (.ref D), o4, o5, o6, o7] ∧ H' D = some (.lst (ds.map V.int)) ∧ H' L = some (.lst (ms.map V.int)) ∧ (∀ d ∈ ds, 0 ≤ d ∧ d < 10 ^ 18) ∧ ds.length ≤ 24 * i ∧ Kp [] H H')
    ⟨[], _, _, _, _, rfl, (by rw [upd_ne nDL]; exact upd_same), (by rw [upd_same, em]), (fun d m => absurd m List.not_mem_nil), Nat.le_refl _, nw2⟩ (fun i σ H' _ ⟨_, _, _, _, _, _, _, e, _⟩ => SqL.of e) (fun i x σ H' hi ⟨ds, o4, o5, o6, o7, hσ, eD, eL, hok, hlen, k⟩ => ?_) (fun σ H' ⟨ds, o4, o5, o6, o7, hσ, eD, eL, hok, hlen, k⟩ => ?_)
  · subst hσ
    rw [List.getElem?_map] at hi
    obtain ⟨z, hz, rfl⟩ := Option.map_eq_some_iff.mp hi
    have li : i < ms.length := (List.getElem?_eq_some_iff.mp hz).1
    walk_at "wp"
    have z0 : 0 ≤ (if z < 0 then -z else z) := by split <;> omega
    generalize (if z < 0 then -z else z) = n at z0
    have lim : sizeLine = 16777216 := sizeLine_eq
    have lit : ∀ {j i : Int}, 0 < j → j < 2 ^ 200 → CDivW i j := fun h0 h1 => two200 h0 h1
    refine ⟨⟨by decide, by decide, by decide⟩, ?_⟩
    have big : (10 : Int) ^ Int.toNat 18 = 1000000000000000000 := by decide
    rw [big]
    split
    · rename_i hb
      have a0 := Int.emod_nonneg (n * 39373 + 23) (show (2147483647 : Int) ≠ 0 by decide)
      have a1 := Int.emod_lt_of_pos (n * 39373 + 23) (show (0 : Int) < 2147483647 by decide)
      generalize (n * 39373 + 23) % 2147483647 = m at a0 a1
      have b0 := Int.emod_nonneg (m * 16807 + n / 6 + 3) (show (2147483399 : Int) ≠ 0 by decide)
      have b1 := Int.emod_lt_of_pos (m * 16807 + n / 6 + 3) (show (0 : Int) < 2147483399 by decide)
      generalize (m * 16807 + n / 6 + 3) % 2147483399 = u at b0 b1
      have c0 := Int.emod_nonneg (m * 69621 + n / 11 + 8) (show (2147483629 : Int) ≠ 0 by decide)
      have c1 := Int.emod_lt_of_pos (m * 69621 + n / 11 + 8) (show (0 : Int) < 2147483629 by decide)
      generalize (m * 69621 + n / 11 + 8) % 2147483629 = v at c0 c1
      have l0 : (ds.map V.int).length ≤ 1512 := by rw [List.length_map]; omega
      have e1 : (upd H' D (.lst (ds.map V.int ++ [V.int n]))) D = some (.lst (ds.map V.int ++ [V.int n])) := upd_same
      refine ⟨.inr ⟨by decide, by decide⟩, by decide, .inl ⟨rfl, _, SqL.of eD⟩, _, eD, by omega, .inl ⟨rfl, _, SqL.of upd_same⟩, .inr ⟨by decide, by decide⟩, lit (by decide) (by decide), by decide, lit (by decide) (by decide), by rw [List.length_append, List.length_singleton]; omega, .inl ⟨rfl, _, SqL.of upd_same⟩, .inr ⟨by decide, by decide⟩, lit (by decide) (by decide), by decide, lit (by decide) (by decide), by rw [List.length_append, List.length_append, List.length_singleton, List.length_singleton]; omega, ds ++ [n, u / 3, v / 7], ?_, ?_, ?_, ?_, ?_⟩
      · simp [List.map_append]
      · rw [upd_ne nDL.symm, upd_ne nDL.symm, upd_ne nDL.symm]; exact eL
      · intro d hd
        rcases List.mem_append.mp hd with hd | hd
        · exact hok d hd
        · simp only [List.mem_cons, List.not_mem_nil, or_false] at hd
          rcases hd with rfl | rfl | rfl <;> omega
      · rw [List.length_append]; simp only [List.length_cons, List.length_nil]; omega
      · exact ((k.upd hD eD).upd hD upd_same).upd hD upd_same
    · refine ⟨24, rfl, by decide, by decide, ?_⟩
      refine for_range (lo := 0) (n := 24) (fun j σ H' => ∃ (ds : List Int) (m : Int) (o4 o6 o7 : Option V), σ = [some (.ref a), some (.int st), some (.int mo), some (.ref D), o4, some (.int m), o6, o7] ∧ 0 ≤ m ∧ H' D = some (.lst (ds.map V.int)) ∧ H' L = some (.lst (ms.map V.int)) ∧ (∀ d ∈ ds, 0 ≤ d ∧ d < 10 ^ 18) ∧ ds.length ≤ 24 * i + j ∧ Kp [] H H')
        ⟨ds, _, _, _, _, rfl, z0, eD, eL, hok, hlen, k⟩ (fun j σ H2 hj ⟨ds, m, o4, o6, o7, hσ, m0, eD, eL, hok, hlen, k⟩ => ?_) (fun σ H2 ⟨ds, m, o4, o6, o7, hσ, m0, eD, eL, hok, hlen, k⟩ => ?_)
      · subst hσ
        walk_at "wp"
        have n0 := Int.emod_nonneg m (show (1000000 : Int) ≠ 0 by decide)
        have n1 := Int.emod_lt_of_pos m (show (0 : Int) < 1000000 by decide)
        have l0 : (ds.map V.int).length ≤ 1512 := by rw [List.length_map]; omega
        split
        · refine ⟨.inl ⟨rfl, _, SqL.of eD⟩, by decide, _, eD, by omega, lit (by decide) (by decide), by omega, ds ++ [m % 1000000], by rw [List.map_append]; rfl, ?_, ?_, ?_, ?_⟩
          · rw [upd_ne nDL.symm]; exact eL
          · intro d hd
            rcases List.mem_append.mp hd with hd | hd
            · exact hok d hd
            · rw [List.mem_singleton.mp hd]; omega
          · rw [List.length_append, List.length_singleton]; omega
          · exact k.upd hD eD
        · exact ⟨lit (by decide) (by decide), by omega, ds, eD, eL, hok, by omega, k⟩
      · subst hσ
        exact ⟨ds, _, _, _, _, rfl, eD, eL, hok, by omega, k⟩
  · subst hσ
    walk_at "wp"
    refine ⟨D, _, rfl, SqL.of eD, fun p hp => ?_⟩
    rw [cutV_to, ← List.map_take]
    have kn := Kp.new (S := []) hp (.lst ((ds.take mo).map V.int))
    refine q (ds.take mo) p _ ?_ upd_same (fun d m => hok d (List.mem_of_mem_take m)) (by rw [List.length_take]; omega) (k.trans kn)
    cases e : H p with
    | none => rfl
    | some u => rw [k.keep p u List.not_mem_nil e] at hp; cases hp
end
/-! law k33 -/
abbrev s_law : Stmt := top 62
abbrev N_law : List Str := ["script", "cell", "draws", "lists", "named", "k", "rows", "roles", "charter", "shelf", "path", "read", "due", "search", "wanted", "out", "fewer", "name", "number", "strange", "document"]
theorem sc_law : FnScope N_law ["script"] (defScope s_law) := ⟨rfl, rfl, rfl, by decide +kernel, rfl, by decide +kernel, by decide +kernel⟩
def spLaw33 (K : PySem.W.Frag) (Ts : List Addr) : Sp := fun vs H Q _ => ∃ (a : Addr) (ns : List Int), vs = [.ref a] ∧ SqL K H a (ns.map V.int) ∧ Tabs Ts H ∧ ns.length ≤ 63 ∧ ∀ H', Q (.bl true) H'
theorem KvD.snoc {H : Hp} {n : Str} {v : V} {d : PyData} (r : Rq H v d) : ∀ {kvs : List (Key × V)} {l : List (Str × PyData)}, KvD H kvs l → KvD H (kvs ++ [(Sum.inr n, v)]) (l ++ [(n, d)])
  | _, _, .nil => .cons r .nil
  | _, _, .cons a b => .cons a (KvD.snoc r b)
theorem getA_none {l : List (Str × PyData)} {n : Str} (h : n ∉ l.map (·.1)) : getA l n = none := by
  unfold getA
  rw [List.find?_eq_none.mpr fun p mp e => h (List.mem_map.mpr ⟨p, mp, of_decide_eq_true e⟩)]; rfl
theorem KvD.newK {H : Hp} {n : Str} {v : V} {d : PyData} {kvs : List (Key × V)} {l : List (Str × PyData)} (k : KvD H kvs l) (r : Rq H v d) (h : n ∉ l.map (·.1)) : KvD H (putK kvs (Sum.inr n) v) (l ++ [(n, d)]) := by
  have e : valV kvs (Sum.inr n) = none := by
    rcases k.val (n := n) with ⟨v, d, a, b, c⟩ | ⟨a, b⟩
    · rw [getA_none h] at b; cases b
    · exact a
  rw [putK_new v e]
  exact k.snoc r
def z18 : Str := Str.ofString "000000000000000000"
def entD33 (n : Str) : PyData := .tuple [.str n, .int 1, .int 0, .str z18]
def shD33 (ys : List Str) : PyData := .tuple [.str kF, .int 1, .int 9, .tuple (ys.map entD33)]
def rlsD33 : PyData := .tuple [.tuple [.int 1, .tuple [.str "k1"]], .tuple [.int 1, .tuple [.str "k2"]], .tuple [.int 1, .tuple [.str "k3"]], .tuple [.int 1, .tuple [.str "k4"]]]
def chD33 : PyData := .tuple [.str kC, .int 1, .int 9, rlsD33]
theorem chD_ok : isCharter chD33 = true ∧ okD 12 chD33 = true ∧ purD chD33 = true ∧ rlD chD33 3 = .tuple [.int 1, .tuple [.str "k4"]] ∧ isRole (rlD chD33 3) = true ∧ okD 7 (rlD chD33 3) = true ∧ purD (rlD chD33 3) = true := by
  refine ⟨by decide +kernel, by decide +kernel, by decide +kernel, rfl, by decide +kernel, by decide +kernel, by decide +kernel⟩
theorem shR33 {ys : List Str} (l : ys.length ≤ 32) : ShR (shD33 ys) := by
  refine ⟨?_, rfl, ?_, ?_⟩
  · refine purD_tup.mpr fun d m => ?_
    rcases List.mem_cons.mp m with rfl | m
    · rfl
    rcases List.mem_cons.mp m with rfl | m
    · rfl
    rcases List.mem_cons.mp m with rfl | m
    · rfl
    rw [List.mem_singleton.mp m]
    refine purD_tup.mpr fun d m => ?_
    obtain ⟨n, _, rfl⟩ := List.mem_map.mp m
    rfl
  · show (decide (0 ≤ (ys.map entD33).length) && decide ((ys.map entD33).length ≤ 100000)) = true
    rw [List.length_map, decide_eq_true (by omega), decide_eq_true (by omega)]; rfl
  · refine List.all_eq_true.mpr fun d m => ?_
    obtain ⟨n, _, rfl⟩ := List.mem_map.mp m
    rfl
theorem sh_row (n : Str) : ∀ ys : List Str, noneB (rowD n (itD (ixD (shD33 ys) 3))) = !decide (n ∈ ys)
  | [] => rfl
  | y :: ys => by
    have e1 : itD (ixD (shD33 (y :: ys)) 3) = entD33 y :: itD (ixD (shD33 ys) 3) := rfl
    rw [e1]
    show noneB (if y = n then _ else _) = _
    by_cases c : y = n
    · rw [if_pos c, decide_eq_true (by rw [c]; exact List.mem_cons_self)]; rfl
    · rw [if_neg c, sh_row n ys]
      congr 1
      exact decide_eq_decide.mpr ⟨fun h => List.mem_cons_of_mem _ h, fun h => (List.mem_cons.mp h).resolve_left fun e => c e.symm⟩
theorem getA_filter {n m : Str} (h : n ≠ m) : ∀ {l : List (Str × PyData)}, getA (l.filter fun p => !decide (p.1 = m)) n = getA l n
  | [] => rfl
  | p :: l => by
    rw [List.filter_cons]
    by_cases c : p.1 = m
    · rw [if_neg (by simp [c]), getA_filter h]
      have : p.1 ≠ n := fun e => h (e.symm.trans c)
      simp [getA, List.find?_cons, this]
    · rw [if_pos (by simp [c])]
      by_cases e : p.1 = n
      · simp [getA, List.find?_cons, e]
      · have := getA_filter h (l := l)
        simp only [getA, List.find?_cons, e, decide_false] at this ⊢
        exact this
theorem getA_gone (n : Str) : ∀ l : List (Str × PyData), getA (l.filter fun p => !decide (p.1 = n)) n = none := fun l => getA_none fun m => by
  obtain ⟨p, mp, e⟩ := List.mem_map.mp m
  have := (List.mem_filter.mp mp).2
  simp [e] at this
theorem KvD.filter {H : Hp} {n : Str} : ∀ {kvs : List (Key × V)} {l : List (Str × PyData)}, KvD H kvs l → KvD H (kvs.filter fun p => !decide (p.1 = (Sum.inr n : Key))) (l.filter fun p => !decide (p.1 = n))
  | _, _, .nil => .nil
  | _, _, .cons (n := m) (v := v) (d := d) h r => by
    rw [List.filter_cons, List.filter_cons]
    by_cases c : m = n
    · rw [if_neg (by simp [c]), if_neg (by simp [c])]
      exact r.filter
    · rw [if_pos (by simp [c]), if_pos (by simp [c])]
      exact .cons h r.filter
theorem for_viaL {K : PySem.W.Frag} {tl : TE} {g : TG} {tb : TS} {D : Ends} {σ : L2.St} {H : Hp} (Pq : V → Hp → Prop) (h1 : ∀ R : VK, (∀ x H', Pq x H' → R x H') → tl σ H R) (h2 : ∀ x H', Pq x H' → tFor (iList K (fun _ _ R => R x H')) g tb D σ H) : tFor (iList K tl) g tb D σ H :=
  h1 _ fun x H' hp => h2 x H' hp
/-- the lists being drawn -/
structure P33 (H : Hp) (dp dl na : Addr) (ds : List Int) (i : Nat) (kvs : List (Key × V)) (ls : List (Str × PyData)) (names : List Str) (H' : Hp) : Prop where
  edp : H' dp = some (.lst (ds.map V.int))
  ed : H' dl = some (.dK kvs)
  kd : KvD H' kvs ls
  nm : ls.map (·.1) = nms33.take i
  dc : ∀ p ∈ ls, L33 p.1 p.2
  en : H' na = some (.lst (names.map V.str))
  nd : names.Nodup
  sub : ∀ x ∈ names, x ∈ nms33
  inl : Str.ofString "list" ∈ names
  n0 : H dl = none ∧ H na = none
  k : Kp [] H H'
  nda : na ≠ dp
theorem P33.pur {H H' : Hp} {dp dl na : Addr} {ds : List Int} {i : Nat} {kvs : List (Key × V)} {ls : List (Str × PyData)} {names : List Str} (P : P33 H dp dl na ds i kvs ls names H') : ∀ p ∈ ls, purD p.2 = true := fun p m => in_pur 6 _ (P.dc p m).inn
theorem P33.go {H H1 H2 : Hp} {dp dl na : Addr} {ds : List Int} {i : Nat} {kvs : List (Key × V)} {ls : List (Str × PyData)} {names : List Str} (P : P33 H dp dl na ds i kvs ls names H1) (k : Kp [] H1 H2) : P33 H dp dl na ds i kvs ls names H2 :=
  ⟨k.keep _ _ List.not_mem_nil P.edp, k.keep _ _ List.not_mem_nil P.ed, P.kd.kp k P.pur, P.nm, P.dc, k.keep _ _ List.not_mem_nil P.en, P.nd, P.sub, P.inl, P.n0, P.k.trans k, P.nda⟩
/-- what the law keeps while the search runs -/
structure E33 (Ts : List Addr) (dl rd pa cv sv : Addr) (kvs : List (Key × V)) (ls : List (Str × PyData)) (ys : List Str) (du : List (Str × PyData) × PyData) (vs : List V) (H : Hp) : Prop where
  ed : H dl = some (.dK kvs)
  kd : KvD H kvs ls
  epr : H rd = some (.lst vs)
  rpr : RqA H vs (du.1.map rowW)
  rpa : Rq H (.ref pa) du.2
  rch : Rq H (.ref cv) chD33
  rsh : Rq H (.ref sv) (shD33 ys)
  g : Tabs Ts H
theorem E33.go2 {Ts : List Addr} {dl rd pa cv sv : Addr} {kvs : List (Key × V)} {ls : List (Str × PyData)} {names ys : List Str} {du : List (Str × PyData) × PyData} {vs : List V} {H H' : Hp} {S : List Addr} (e : E33 Ts dl rd pa cv sv kvs ls ys du vs H) (hl : ∀ p ∈ ls, purD p.2 = true) (hd : ∀ p ∈ du.1, RwX names p) (hr : ResX du.2) (hy : ys.length ≤ 32)
    (k : Kp S H H') (g : Tabs Ts H') (ed : H' dl = some (.dK kvs)) (n : ∀ x ∈ S, ∀ us, H x ≠ some (.lst us)) : E33 Ts dl rd pa cv sv kvs ls ys du vs H' :=
  have pd : purDs (du.1.map rowW) = true := purDs_all.mpr fun d m => by
    obtain ⟨q, mq, rfl⟩ := List.mem_map.mp m
    exact (hd q mq).pr
  ⟨ed, e.kd.kp k hl, k.keep _ _ (fun m => (n _ m) _ e.epr) e.epr, e.rpr.pure k pd, e.rpa.pure k hr.p, e.rch.pure k chD_ok.2.2.1, e.rsh.pure k (shR33 hy).pur, g⟩
theorem E33.go {Ts : List Addr} {dl rd pa cv sv : Addr} {kvs : List (Key × V)} {ls : List (Str × PyData)} {names ys : List Str} {du : List (Str × PyData) × PyData} {vs : List V} {H H' : Hp} {S : List Addr} (e : E33 Ts dl rd pa cv sv kvs ls ys du vs H) (hl : ∀ p ∈ ls, purD p.2 = true) (hd : ∀ p ∈ du.1, RwX names p) (hr : ResX du.2) (hy : ys.length ≤ 32)
    (k : Kp S H H') (g : Tabs Ts H') (n : ∀ x ∈ S, x ≠ dl ∧ ∀ us, H x ≠ some (.lst us)) : E33 Ts dl rd pa cv sv kvs ls ys du vs H' :=
  e.go2 hl hd hr hy k g (k.keep _ _ (fun m => (n _ m).1 rfl) e.ed) fun x m => (n x m).2
section
variable {P : Program} {w : World} {K : PySem.W.Frag} {mg : Str → Option Value} {base : Heap} {f : Addr} {fd : FuncData} {C CB R : Addr} {Ts : List Addr}
theorem ok_law33 (F : Fun K "law" "law" s_law f fd) (B : Blt mg) (hsorted : mg "sorted" = none) (T : SrC K mg C CB) (c_law_cell : Cal P w K mg base CX0 1 "_law_cell" (spCellA K)) (c_law_draws : Cal P w K mg base CX0 1 "_law_draws" (spDraws K))
    (c_law_names : Cal P w K mg base CX0 1 "_law_names" spNms33) (c_law_path : Cal P w K mg base CX0 1 "_law_path" spPth33) (c_law_list : Cal P w K mg base CX0 2 "_law_list" spLst33) (c_law_walk : Cal P w K mg base CX0 10 "_law_walk" spWalk33) (c_law_refused : Cal P w K mg base CX0 17 "_law_refused" (spRef33 C Ts))
    (k_Search : CalK P w K mg base CX0 2 C "Search" (spSInit C)) (m_Search_wanted : CalM P w K mg base CX0 1 C "wanted" (spSWant C)) (m_Search_result : CalM P w K mg base CX0 1 C "result" (spSRes C)) (m_Search_give : CalM P w K mg base (L2.CX P w) 16 C "give" (spSGive C CB Ts)) (c_lookup : Cal P w K mg base CX0 17 "lookup" (spLook Ts)) :
    FnOk P w K mg base CX0 18 f fd ["script"] (spLaw33 K Ts) := by
  refine F.ok sc_law (fun vs H Q E h => ?_) (fun cdv A outer s H vs Q E hr h => ?_)
  · obtain ⟨a, ns, rfl, _⟩ := h; rfl
  obtain ⟨a, ns, rfl, hS, hG, lns, q⟩ := h
  refine ⟨_, (C8.pss_cut (ps_set (i := 1) sc_law.nd rfl (Or.inl rfl) (c_law_cell.pe hr (pa_cons (pv 0) (pa_cons pe_int pa_nil))))
    (C8.pss_cut (ps_set (i := 2) sc_law.nd rfl (Or.inl rfl) (c_law_draws.pe hr (pa_cons (pv 0) (pa_cons pe_int (pa_cons pe_int pa_nil)))))
    (C8.pss_cut (ps_set (i := 3) sc_law.nd rfl (Or.inl rfl) pe_dnewK)
    (C8.pss_cut (ps_set (i := 4) sc_law.nd rfl (Or.inl rfl) (pe_lst (pa_cons pe_str pa_nil)))
    (C8.pss_cut (ps_for PassesOwn.never rfl (B.range1 (pa_cons pe_int pa_nil)) (pg_name (i := 5) sc_law.nd rfl (Or.inl rfl)) (C8.pss_cut (ps_set (i := 17) sc_law.nd rfl (Or.inl rfl) (pe_ix ix_lM (c_law_names.pe0 hr) (pv 5) (fun _ _ => rfl)))
    (C8.pss_cut (ps_set (i := 18) sc_law.nd rfl (Or.inl rfl) (pe_op op_fdivW (pv 1) (pe_op op_add (pv 5) pe_int)))
    (C8.pss_cut (ps_if (pt_cmpR op_lt (pv 5) (B.len_q (pa_cons (pv 2) pa_nil)) (nomark _)) (pss_one (ps_set (i := 18) sc_law.nd rfl (Or.inl rfl) (pe_ix ix_lM (pv 2) (pv 5) (fun _ _ => rfl)))) pss_nil)
    (C8.pss_cut (ps_dput (hu_of hr) (pv 3) (pv 17) (c_law_list.pe hr (pa_cons (pv 17) (pa_cons (pv 18) (pa_cons (pv 5) pa_nil)))) rfl)
    (pss_one (ps_if (PW.pt (pw_and (pt_cmpR (show OpR _ _ (rIn K true) from op_notIn_seq) (pv 17) (pv 4) (by rfl)) (pw_and1 (pt_cmpR op_gt (pe_op op_mod (pe_op op_fdivW (pv 18) pe_int) pe_int) pe_int (nomark _))))) (pss_one (ps_expr (pe_bm PySem.F.plainAttrs_list PySem.F.slot_list_append PySem.F.type_list_append mt_append (pv 4) (pa_cons (pv 17) pa_nil)))) pss_nil)))))))
    (C8.pss_cut (ps_set (i := 6) sc_law.nd rfl (Or.inl rfl) (B.tuple_l (pa_cons (pe_lc (own := [("name", 17)]) (g := gName 17) (tt := tYes) rfl sc_law.nd (pi_list (pe_callB cr_sortedA rfl hsorted (by decide +kernel) (pa_cons (pv 4) pa_nil))) (blkOk_by (own := [("name", 17)]) (N := N_law) (sc := defScope s_law) (by decide +kernel)) (fun _ _ _ _ _ => pg_name (i := 17) sc_law.nd rfl (Or.inl rfl)) (fun _ _ _ _ _ => pts_nil) (fun _ _ _ _ _ => (pe_tup (pa_cons (pv 17) (pa_cons pe_int (pa_cons pe_int (pa_cons pe_str pa_nil))))))) pa_nil)))
    (C8.pss_cut (ps_set (i := 7) sc_law.nd rfl (Or.inl rfl) (pe_tup (pa_cons (pe_tup (pa_cons pe_int (pa_cons (pe_tup (pa_cons pe_str pa_nil)) pa_nil))) (pa_cons (pe_tup (pa_cons pe_int (pa_cons (pe_tup (pa_cons pe_str pa_nil)) pa_nil))) (pa_cons (pe_tup (pa_cons pe_int (pa_cons (pe_tup (pa_cons pe_str pa_nil)) pa_nil))) (pa_cons (pe_tup (pa_cons pe_int (pa_cons (pe_tup (pa_cons pe_str pa_nil)) pa_nil))) pa_nil))))))
    (C8.pss_cut (ps_set (i := 8) sc_law.nd rfl (Or.inl rfl) (pe_tup (pa_cons pe_str (pa_cons pe_int (pa_cons pe_int (pa_cons (pv 7) pa_nil))))))
    (C8.pss_cut (ps_set (i := 9) sc_law.nd rfl (Or.inl rfl) (pe_tup (pa_cons pe_str (pa_cons pe_int (pa_cons pe_int (pa_cons (pv 6) pa_nil))))))
    (C8.pss_cut (ps_set (i := 10) sc_law.nd rfl (Or.inl rfl) (c_law_path.pe hr (pa_cons (pv 1) pa_nil)))
    (C8.pss_cut (ps_asg (c_law_walk.pe hr (pa_cons (pe_ix ix_tM (pv 7) pe_int (fun _ _ => rfl)) (pa_cons (pv 3) (pa_cons (pv 4) (pa_cons (pv 10) pa_nil))))) (pg_tup rfl (pgs_cons (pg_name (i := 11) sc_law.nd rfl (Or.inl rfl)) (pgs_cons (pg_name (i := 12) sc_law.nd rfl (Or.inl rfl)) pgs_nil))))
    (C8.pss_cut (ps_set (i := 13) sc_law.nd rfl (Or.inl rfl) (k_Search.pex hr pass0 (pa_cons (pv 8) (pa_cons (pv 9) (pa_cons (pv 10) pa_nil)))))
    (C8.pss_cut (ps_for PassesOwn.never rfl (pi_list (pv 11)) (pg_name (i := 14) sc_law.nd rfl (Or.inl rfl)) (C8.pss_cut (ps_if (PW.pt (pw_or (pt_cmpR (op_neD hr.units) (m_Search_wanted.pe0 hr (pv 13)) (pv 14) (nomark _)) (pw_or1 (pt_cmpR op_notN (m_Search_result.pe0 hr (pv 13)) pe_non (nomark _))))) (pss_one (ps_ret pe_bl)) pss_nil)
    (C8.pss_cut (ps_set (i := 19) sc_law.nd rfl (Or.inl rfl) (pe_lst (pa_cons pe_non (pa_cons (pe_dget (hu_of hr) (pv 3) pe_str (fun _ _ => rfl)) (pa_cons (pe_dget (hu_of hr) (pv 3) pe_str (fun _ _ => rfl)) (pa_cons (pe_tup (pa_cons pe_str pa_nil)) (pa_cons (pv 8) pa_nil)))))))
    (C8.pss_cut (ps_for PassesOwn.never rfl (pi_list (pv 19)) (pg_name (i := 20) sc_law.nd rfl (Or.inl rfl)) (pss_one (ps_if (PW.pt (pw_or (pt_not (pt_val (B.isT (pv 20) B.v_tuple))) (pw_or (pt_cmpR op_lt (B.len_q (pa_cons (pv 20) pa_nil)) pe_int (nomark _)) (pw_or1 (pt_cmpR op_ne (pe_ix ix_tM (pv 20) pe_int (fun _ _ => rfl)) (pe_ix ix_tM (pv 14) pe_int (fun _ _ => rfl)) (nomark _)))))) (pss_one (ps_if (PW.pt (pw_or (pt_not (pt_val (c_law_refused.pe hr (pa_cons (pv 13) (pa_cons (pv 20) pa_nil))))) (pw_or1 (pt_cmpR (op_neD hr.units) (m_Search_wanted.pe0 hr (pv 13)) (pv 14) (nomark _))))) (pss_one (ps_ret pe_bl)) pss_nil)) pss_nil)))
    (pss_one (ps_if (pt_cmpR op_notN (m_Search_give.peL hr (pv 13) (pa_cons (pe_dget (hu_of hr) (pv 3) (pe_ix ix_tM (pv 14) pe_int (fun _ _ => rfl)) (fun _ _ => rfl)) pa_nil)) pe_non (nomark _)) (pss_one (ps_ret pe_bl)) pss_nil))))))
    (C8.pss_cut (ps_if (PW.pt (pw_or (pt_cmpR op_notN (m_Search_wanted.pe0 hr (pv 13)) pe_non (nomark _)) (pw_or (pt_cmpR (op_neD hr.units) (m_Search_result.pe0 hr (pv 13)) (pv 12) (nomark _)) (pw_or1 (pt_not (pt_val (c_law_refused.pe hr (pa_cons (pv 13) (pa_cons (pe_dget (hu_of hr) (pv 3) pe_str (fun _ _ => rfl)) pa_nil))))))))) (pss_one (ps_ret pe_bl)) pss_nil)
    (C8.pss_cut (ps_if (PW.pt (pw_or (pt_cmpR (op_neD hr.units) (m_Search_result.pe0 hr (pv 13)) (pv 12) (nomark _)) (pw_or1 (pt_cmpR (op_neD hr.units) (c_lookup.pe hr (pa_cons (pv 8) (pa_cons (pv 9) (pa_cons (pv 3) (pa_cons (pv 10) pa_nil))))) (pv 12) (nomark _))))) (pss_one (ps_ret pe_bl)) pss_nil)
    (C8.pss_cut (ps_set (i := 15) sc_law.nd rfl (Or.inl rfl) (pe_ix ix_tM (pe_ix ix_lM (pv 11) (pe_op op_mod (pe_op op_fdivW (pv 1) pe_int) (B.len_q (pa_cons (pv 11) pa_nil))) (fun _ _ => rfl)) pe_int (fun _ _ => rfl)))
    (C8.pss_cut (ps_set (i := 16) sc_law.nd rfl (Or.inl rfl) pe_dnewK)
    (C8.pss_cut (ps_lock (ps_for PassesOwn.never rfl (pi_keys (pv 3)) (pg_name (i := 17) sc_law.nd rfl (Or.inl rfl)) (pss_one (ps_if (pt_cmpR op_ne (pv 17) (pv 15) (nomark _)) (pss_one (ps_dput (hu_of hr) (pv 16) (pv 17) (pe_dget (hu_of hr) (pv 3) (pv 17) (fun _ _ => rfl)) rfl)) pss_nil))))
    (pss_one (ps_ret (pe_cmpR (op_eqD hr.units) (c_lookup.pe hr (pa_cons (pv 8) (pa_cons (pv 9) (pa_cons (pv 16) (pa_cons (pv 10) pa_nil))))) (pe_tup (pa_cons pe_str (pa_cons (pv 15) pa_nil))) (nomark _)))))))))))))))))))))), ?_⟩
  have lim : sizeLine = 16777216 := sizeLine_eq
  refine ⟨fun σ H' => ∃ c : Int, σ = [some (V.ref a), some (.int c), none, none, none, none, none, none, none, none, none, none, none, none, none, none, none, none, none, none, none] ∧ 0 ≤ c ∧ H' = H, ?_, fun σ H1 ⟨c, hσ, c0, e1⟩ => ?_⟩
  · walk_at "wq"
    exact ⟨a, ns, 0, rfl, hS, fun z hz => ⟨z, rfl, hz, rfl⟩⟩
  subst hσ
  subst e1
  refine ⟨fun σ H' => ∃ (dp : Addr) (ds : List Int), σ = [some (V.ref a), some (.int c), some (.ref dp), none, none, none, none, none, none, none, none, none, none, none, none, none, none, none, none, none, none] ∧ H' dp = some (.lst (ds.map V.int)) ∧ (∀ d ∈ ds, 0 ≤ d ∧ d < 10 ^ 18) ∧ Kp [] H1 H', ?_, fun σ H2 ⟨dp, ds, hσ, edp, hds, k2⟩ => ?_⟩
  · walk_at "wq"
    exact ⟨a, ns, 1, 8, rfl, hS, lns, fun ds p H' np ep hds lds k => ⟨p, rfl, ds, ep, hds, k⟩⟩
  subst hσ
  refine ⟨fun σ H' => ∃ (dl : Addr), σ = [some (V.ref a), some (.int c), some (.ref dp), some (.ref dl), none, none, none, none, none, none, none, none, none, none, none, none, none, none, none, none, none] ∧ H' dl = some (.dK []) ∧ H1 dl = none ∧ Kp [] H2 H', ?_, fun σ H3 ⟨dl, hσ, edl, ndl, k3⟩ => ?_⟩
  · walk_at "wq"
    exact fun p hp => ⟨k2.gone1 (fun b mb => absurd mb List.not_mem_nil) hp, Kp.new hp _⟩
  subst hσ
  have k13 := k2.trans k3
  refine ⟨fun σ H' => ∃ (na : Addr), σ = [some (V.ref a), some (.int c), some (.ref dp), some (.ref dl), some (.ref na), none, none, none, none, none, none, none, none, none, none, none, none, none, none, none, none] ∧ P33 H1 dp dl na ds 0 [] [] [Str.ofString "list"] H', ?_, fun σ H4 ⟨na, hσ, P4⟩ => ?_⟩
  · walk_at "wq"
    refine ⟨by omega, fun p hp => ?_⟩
    have kn : Kp [] H3 (upd H3 p (.lst [.str (Str.ofString "list")])) := Kp.new hp _
    exact ⟨(k3.trans kn).keep _ _ List.not_mem_nil edp, kn.keep _ _ List.not_mem_nil edl, .nil, rfl, fun p m => absurd m List.not_mem_nil, upd_same, by decide +kernel, by decide +kernel, by decide +kernel, ⟨ndl, k13.gone1 (fun b mb => absurd mb List.not_mem_nil) hp⟩, k13.trans kn, fun e => by rw [e, k3.keep _ _ List.not_mem_nil edp] at hp; cases hp⟩
  subst hσ
  refine ⟨fun σ H' => ∃ (o5 o17 o18 : Option V) (kvs : List (Key × V)) (ls : List (Str × PyData)) (names : List Str), σ = [some (V.ref a), some (.int c), some (.ref dp), some (.ref dl), some (.ref na), o5, none, none, none, none, none, none, none, none, none, none, none, o17, o18, none, none] ∧ P33 H1 dp dl na ds 8 kvs ls names H', ?_, fun σ H5 ⟨o5, o17, o18, kvs, ls, names, hσ, P5⟩ => ?_⟩
  · refine ⟨8, rfl, by decide, by decide, ?_⟩
    refine for_range (lo := 0) (n := 8) (fun i σ H' => ∃ (o5 o17 o18 : Option V) (kvs : List (Key × V)) (ls : List (Str × PyData)) (names : List Str), σ = [some (V.ref a), some (.int c), some (.ref dp), some (.ref dl), some (.ref na), o5, none, none, none, none, none, none, none, none, none, none, none, o17, o18, none, none] ∧ P33 H1 dp dl na ds i kvs ls names H')
      ⟨_, _, _, [], [], _, rfl, P4⟩ (fun i σ H5 hi ⟨o5, o17, o18, kvs, ls, names, hσ, P5⟩ => ?_) (fun σ H5 h => h)
    subst hσ
    obtain ⟨z, ez⟩ : ∃ z, nms33[i]? = some z := ⟨_, List.getElem?_eq_getElem (by show i < 8; omega)⟩
    refine ⟨fun σ H' => σ = [some (V.ref a), some (.int c), some (.ref dp), some (.ref dl), some (.ref na), some (V.int (0 + (i : Int))), none, none, none, none, none, none, none, none, none, none, none, some (.str z), o18, none, none] ∧ P33 H1 dp dl na ds i kvs ls names H', ?_, fun σ H6 ⟨hσ, P6⟩ => ?_⟩
    · walk_at "wq"
      refine ⟨rfl, fun p hp => ⟨p, rfl, _, upd_same, .str z, ?_, rfl, P5.go (Kp.new hp _)⟩⟩
      rw [show (0 : Int) + (i : Nat) = ((i : Nat) : Int) by omega]
      refine atI_nat ?_
      rw [List.getElem?_map, ez]; rfl
    subst hσ
    refine ⟨fun σ H' => ∃ n : Int, σ = [some (V.ref a), some (.int c), some (.ref dp), some (.ref dl), some (.ref na), some (V.int (0 + (i : Int))), none, none, none, none, none, none, none, none, none, none, none, some (.str z), some (.int n), none, none] ∧ 0 ≤ n ∧ H' = H6, ?_, fun σ H7 ⟨n, hσ, n0, e7⟩ => ?_⟩
    · walk_at "wq"
      exact ⟨wide33 (by omega) (by omega), Int.ediv_nonneg c0 (by omega)⟩
    subst hσ
    subst e7
    refine ⟨fun σ H' => ∃ n : Int, σ = [some (V.ref a), some (.int c), some (.ref dp), some (.ref dl), some (.ref na), some (V.int (0 + (i : Int))), none, none, none, none, none, none, none, none, none, none, none, some (.str z), some (.int n), none, none] ∧ 0 ≤ n ∧ H' = H7, ?_, fun σ H8 ⟨n, hσ, n0, e8⟩ => ?_⟩
    · walk_at "wq"
      refine ⟨_, .inl (SqL.of P6.edp), ?_⟩
      rw [List.length_map]
      by_cases cl : 0 + (i : Int) < (ds.length : Int)
      · have li : i < ds.length := by omega
        refine if_yes cl ⟨_, P6.edp, .int ds[i], ?_, _, rfl, (hds _ (List.getElem_mem li)).1⟩
        rw [show (0 : Int) + (i : Nat) = ((i : Nat) : Int) by omega]
        exact atI_nat (by rw [List.getElem?_map, List.getElem?_eq_getElem li]; rfl)
      · exact if_no cl n0
    subst hσ
    subst e8
    have mz : z ∈ nms33 := List.mem_of_getElem? ez
    refine ⟨fun σ H' => ∃ (kvs : List (Key × V)) (ls : List (Str × PyData)), σ = [some (V.ref a), some (.int c), some (.ref dp), some (.ref dl), some (.ref na), some (V.int (0 + (i : Int))), none, none, none, none, none, none, none, none, none, none, none, some (.str z), some (.int n), none, none] ∧ P33 H1 dp dl na ds (i + 1) kvs ls names H', ?_, fun σ H9 ⟨kvs, ls, hσ, P9⟩ => ?_⟩
    · walk_at "wq"
      refine ⟨z, n, 0 + (i : Int), rfl, mz, n0, by omega, by omega, fun r d G rd hL nr kG => ?_⟩
      have P7 := P6.go kG
      have lk := P7.kd.len
      have ll : ls.length = i := by
        have := congrArg List.length P7.nm
        rw [List.length_map, List.length_take] at this
        rw [this]
        exact Nat.min_eq_left (by show i ≤ 8; omega)
      have nin : z ∉ ls.map (·.1) := fun m => by
        rw [P7.nm] at m
        obtain ⟨j, hj, ej⟩ := List.getElem_of_mem m
        rw [List.length_take] at hj
        have hj' : j < i := by omega
        rw [List.getElem_take] at ej
        have q1 : nms33[j]? = some z := by rw [← ej]; exact List.getElem?_eq_getElem _
        have := (List.getElem?_inj (by show j < 8; omega) nms33_ok.1).mp (q1.trans ez.symm)
        omega
      have pd : purD d = true := in_pur 6 _ hL.inn
      have ku : Kp [dl] G (upd G dl (.dK (putK kvs (Sum.inr z) (.ref r)))) := kp_dk P7.ed (List.mem_singleton.mpr rfl)
      have ndp : dp ≠ dl := ne_of P7.edp P7.ed (by intro e; cases e)
      have nna : na ≠ dl := ne_of P7.en P7.ed (by intro e; cases e)
      refine ⟨_, DPut.k (k := Sum.inr z) P7.ed (by omega), _, ls ++ [(z, d)], ⟨by rw [upd_ne ndp]; exact P7.edp, upd_same, ?_, ?_, ?_, by rw [upd_ne nna]; exact P7.en, P7.nd, P7.sub, P7.inl, P7.n0, Kp.drop P7.n0.1 (P7.k.in0.trans ku), P7.nda⟩⟩
      · exact (P7.kd.newK rd nin).kp ku fun q m => by
          rcases List.mem_append.mp m with m | m
          · exact P7.pur q m
          · rw [List.mem_singleton.mp m]; exact pd
      · rw [List.map_append, P7.nm, List.take_add_one, ez]; rfl
      · intro q m
        rcases List.mem_append.mp m with m | m
        · exact P7.dc q m
        · rw [List.mem_singleton.mp m]; exact hL
    subst hσ
    walk_at "wq"
    refine ⟨na, _, rfl, .inl (SqL.of P9.en), rfl, flat_strs names, _, rfl, ?_⟩
    rw [inV_strs]
    by_cases mn : z ∈ names
    · rw [decide_eq_true mn]
      exact if_no (by simp) ⟨_, _, _, P9⟩
    · rw [decide_eq_false mn]
      refine if_yes (by simp) ⟨wide33 (by decide) (by decide), by decide, ?_⟩
      by_cases cn : 0 < n / 23 % 5
      · have ln := nodup_len P9.nd P9.sub
        have ln : names.length ≤ 8 := ln
        refine if_yes cn ⟨.inl ⟨rfl, _, SqL.of P9.en⟩, _, P9.en, by rw [List.length_map]; omega, kvs, ls, names ++ [z], ?_⟩
        have ndp : dp ≠ na := P9.nda.symm
        have ndl2 : dl ≠ na := ne_of P9.ed P9.en (by intro e; cases e)
        have kl : Kp [na] H9 (upd H9 na (.lst (names.map V.str ++ [.str z]))) := Kp.lst P9.en (List.mem_singleton.mpr rfl)
        refine ⟨by rw [upd_ne ndp]; exact P9.edp, by rw [upd_ne ndl2]; exact P9.ed, P9.kd.kp kl P9.pur, P9.nm, P9.dc, by rw [upd_same, List.map_append]; rfl, ?_, ?_, List.mem_append_left _ P9.inl, P9.n0, P9.k.upd P9.n0.2 P9.en, P9.nda⟩
        · rw [List.nodup_append]
          exact ⟨P9.nd, List.nodup_cons.mpr ⟨List.not_mem_nil, List.nodup_nil⟩, fun a ma b mb e => mn (by rw [← List.mem_singleton.mp mb, ← e]; exact ma)⟩
        · intro x mx
          rcases List.mem_append.mp mx with mx | mx
          · exact P9.sub x mx
          · rw [List.mem_singleton.mp mx]; exact mz
      · exact if_no cn ⟨_, _, _, P9⟩
  subst hσ
  have ln8 : names.length ≤ 8 := nodup_len P5.nd P5.sub
  refine ⟨fun σ H' => ∃ (rp : Addr) (ys : List Str) (o17 : Option V), σ = [some (V.ref a), some (.int c), some (.ref dp), some (.ref dl), some (.ref na), o5, some (.ref rp), none, none, none, none, none, none, none, none, none, none, o17, o18, none, none] ∧ Rq H' (.ref rp) (.tuple (ys.map entD33)) ∧ ys.Perm names ∧ Kp [] H5 H', ?_, fun σ H10 ⟨rp, ys, o17, hσ, rrp, hys, k10⟩ => ?_⟩
  · walk_at "wq"
    refine ⟨_, rfl, na, names, rfl, SqL.of P5.en, fun ys p hp hs np => ⟨p, rfl, ⟨_, SqL.of upd_same⟩, fun D hD => ?_⟩⟩
    have kp : Kp [] H5 (upd H5 p (.lst (ys.map V.str))) := Kp.new np _
    have npD : p ≠ D := fun e => by rw [← e, upd_same] at hD; cases hD
    have ly : ys.length ≤ 32 := by rw [hp.length_eq]; omega
    refine lc_list (K := K) (a := p) (xs := ys.map V.str) (fun i H' => (∃ vs, H' D = some (.lst vs) ∧ RqA H' vs ((ys.take i).map entD33)) ∧ H' p = some (.lst (ys.map V.str)) ∧ Kp [] H5 H')
      ⟨⟨[], upd_same, .nil⟩, by rw [upd_ne npD]; exact upd_same, kp.trans (Kp.new hD _)⟩ (fun i G _ ⟨_, e, _⟩ => SqL.of e) (fun i x G hx ⟨⟨vs, ev, rv⟩, e, k⟩ => ⟨rfl, ?_⟩) (fun G ⟨⟨vs, ev, rv⟩, e, k⟩ => ?_)
    · rw [List.getElem?_map] at hx
      obtain ⟨y, hy, rfl⟩ := Option.map_eq_some_iff.mp hx
      have li := (List.getElem?_eq_some_iff.mp hy).1
      walk_at "wq"
      simp only [tYes, if_true]
      refine ⟨_, rfl, by omega, fun pe we => ?_⟩
      have ke : Kp [] G (upd G pe (.tup [.str y, .int 1, .int 0, .str z18])) := Kp.new we _
      have ev1 := ke.keep _ _ List.not_mem_nil ev
      have lv := rv.len
      rw [List.length_map] at lv
      have l2 := List.length_take_le' i ys
      have nDp : D ≠ p := npD.symm
      have kl : Kp [D] _ (upd (upd G pe (.tup [.str y, .int 1, .int 0, .str z18])) D (.lst (vs ++ [.ref pe]))) := Kp.lst ev1 (List.mem_singleton.mpr rfl)
      have tk : ys.take (i + 1) = ys.take i ++ [y] := by rw [List.take_add_one, hy]; rfl
      have pur : purDs ((ys.take i).map entD33) = true := purDs_all.mpr fun d m => by
        obtain ⟨q, _, rfl⟩ := List.mem_map.mp m
        rfl
      refine ⟨vs, ev1, by omega, ?_, ?_, ?_⟩
      · rw [tk, List.map_append]
        exact rqa_app ((rv.kp0 ke).pure kl pur) (.cons (.tup (kl.tup _ _ upd_same) (.cons (.str _) (.cons (.int _) (.cons (.int _) (.cons (.str _) .nil))))) .nil)
      · rw [upd_ne npD]; exact ke.keep _ _ List.not_mem_nil e
      · have nD9 : H5 D = none := kp.gone1 (fun b mb => absurd mb List.not_mem_nil) hD
        exact (k.trans ke).upd nD9 ev1
    · rw [List.length_map, List.take_length] at rv
      exact ⟨D, rfl, vs, .inl ⟨SqL.of ev, fun l hl => ⟨ys, .tup upd_same (rv.kp0 (Kp.new hl _)), hp, k.trans (Kp.new hl _)⟩⟩⟩
  subst hσ
  refine ⟨fun σ H' => ∃ (rv : Addr), σ = [some (V.ref a), some (.int c), some (.ref dp), some (.ref dl), some (.ref na), o5, some (.ref rp), some (.ref rv), none, none, none, none, none, none, none, none, none, o17, o18, none, none] ∧ Rq H' (.ref rv) rlsD33 ∧ Kp [] H10 H', ?_, fun σ H11 ⟨rv, hσ, rrv, k11⟩ => ?_⟩
  · walk_at "wq"
    refine ⟨by omega, fun p0 w0 => ⟨by omega, fun p1 w1 => ⟨by omega, fun p2 w2 => ⟨by omega, fun p3 w3 => ⟨by omega, fun p4 w4 => ⟨by omega, fun p5 w5 => ⟨by omega, fun p6 w6 => ⟨by omega, fun p7 w7 => ⟨by omega, fun p8 w8 => ?_⟩⟩⟩⟩⟩⟩⟩⟩⟩
    have q0 : Kp [] H10 (upd H10 p0 (.tup [.str "k1"])) := Kp.new w0 _
    have q1 := Kp.new (S := []) w1 (.tup [.int 1, .ref p0])
    have q2 := Kp.new (S := []) w2 (.tup [.str "k2"])
    have q3 := Kp.new (S := []) w3 (.tup [.int 1, .ref p2])
    have q4 := Kp.new (S := []) w4 (.tup [.str "k3"])
    have q5 := Kp.new (S := []) w5 (.tup [.int 1, .ref p4])
    have q6 := Kp.new (S := []) w6 (.tup [.str "k4"])
    have q7 := Kp.new (S := []) w7 (.tup [.int 1, .ref p6])
    have q8 := Kp.new (S := []) w8 (.tup [.ref p1, .ref p3, .ref p5, .ref p7])
    have r67 := q7.trans q8
    have r57 := q6.trans r67
    have r47 := q5.trans r57
    have r37 := q4.trans r47
    have r27 := q3.trans r37
    have r17 := q2.trans r27
    have r07 := q1.trans r17
    refine ⟨.tup upd_same (.cons (.tup (r17.keep _ _ List.not_mem_nil upd_same) (.cons (.int _) (.cons (.tup (r07.keep _ _ List.not_mem_nil upd_same) (.cons (.str _) .nil)) .nil))) (.cons (.tup (r37.keep _ _ List.not_mem_nil upd_same) (.cons (.int _) (.cons (.tup (r27.keep _ _ List.not_mem_nil upd_same) (.cons (.str _) .nil)) .nil))) (.cons (.tup (r57.keep _ _ List.not_mem_nil upd_same) (.cons (.int _) (.cons (.tup (r47.keep _ _ List.not_mem_nil upd_same) (.cons (.str _) .nil)) .nil))) (.cons (.tup (q8.keep _ _ List.not_mem_nil upd_same) (.cons (.int _) (.cons (.tup (r67.keep _ _ List.not_mem_nil upd_same) (.cons (.str _) .nil)) .nil))) .nil)))), q0.trans r07⟩
  subst hσ
  refine ⟨fun σ H' => ∃ (cv : Addr), σ = [some (V.ref a), some (.int c), some (.ref dp), some (.ref dl), some (.ref na), o5, some (.ref rp), some (.ref rv), some (.ref cv), none, none, none, none, none, none, none, none, o17, o18, none, none] ∧ Rq H' (.ref cv) chD33 ∧ Kp [] H11 H', ?_, fun σ H12 ⟨cv, hσ, rcv, k12⟩ => ?_⟩
  · walk_at "wq"
    refine ⟨by omega, fun p hp => ?_⟩
    have kn := Kp.new (S := []) hp (.tup [V.str (Str.ofString "charter"), V.int 1, V.int 9, V.ref rv])
    exact ⟨.tup upd_same (.cons (.str _) (.cons (.int _) (.cons (.int _) (.cons (rrv.kp0 kn) .nil)))), kn⟩
  subst hσ
  have rrp12 := rrp.kp0 (k11.trans k12)
  refine ⟨fun σ H' => ∃ (sv : Addr), σ = [some (V.ref a), some (.int c), some (.ref dp), some (.ref dl), some (.ref na), o5, some (.ref rp), some (.ref rv), some (.ref cv), some (.ref sv), none, none, none, none, none, none, none, o17, o18, none, none] ∧ Rq H' (.ref sv) (shD33 ys) ∧ Kp [] H12 H', ?_, fun σ H13 ⟨sv, hσ, rsh, k13⟩ => ?_⟩
  · walk_at "wq"
    refine ⟨by omega, fun p hp => ?_⟩
    have kn := Kp.new (S := []) hp (.tup [V.str (Str.ofString "shelf"), V.int 1, V.int 9, V.ref rp])
    exact ⟨.tup upd_same (.cons (.str _) (.cons (.int _) (.cons (.int _) (.cons (rrp12.kp0 kn) .nil)))), kn⟩
  subst hσ
  refine ⟨fun σ H' => ∃ (z : Str), σ = [some (V.ref a), some (.int c), some (.ref dp), some (.ref dl), some (.ref na), o5, some (.ref rp), some (.ref rv), some (.ref cv), some (.ref sv), some (.str z), none, none, none, none, none, none, o17, o18, none, none] ∧ z ∈ pth33 ∧ Kp [] H13 H', ?_, fun σ H14 ⟨z, hσ, hz, k14⟩ => ?_⟩
  · walk_at "wq"
    exact ⟨c, rfl, fun z mz G k => ⟨z, rfl, mz, k⟩⟩
  subst hσ
  have K514 := k10.trans (k11.trans (k12.trans (k13.trans k14)))
  have P14 := P5.go K514
  have rsh14 := rsh.kp0 k14
  have rrv14 := rrv.kp0 (k12.trans (k13.trans k14))
  have rcv14 := rcv.kp0 (k13.trans k14)
  have hnm : ls.map (·.1) = nms33 := P14.nm
  have hrow : ∀ n, noneB (rowD n (itD (ixD (shD33 ys) 3))) = !decide (n ∈ names) := fun n => by
    rw [sh_row n ys]
    congr 1
    exact decide_eq_decide.mpr hys.mem_iff
  have hdoc : ∀ p ∈ ls, L33 p.1 p.2 := P14.dc
  have hp33 : ∀ p ∈ ls, purD p.2 = true := P14.pur
  have inl : ∀ x ∈ names, x ∈ ls.map (·.1) := fun x m => by rw [hnm]; exact P14.sub x m
  obtain ⟨d0, hd0⟩ := mem_getA (ls := ls) (n := Str.ofString "list") (inl _ P14.inl)
  obtain ⟨doc, hdocF⟩ : ∃ doc : Str → PyData, (fun n => (getA ls n).getD d0) = doc := ⟨_, rfl⟩
  have hdoc2 : ∀ x, ∃ p ∈ ls, doc x = p.2 := fun x => by
    rw [← hdocF]
    cases e : getA ls x with
    | some d => exact ⟨_, getA_mem e, by show (getA ls x).getD d0 = _; rw [e]; rfl⟩
    | none => exact ⟨_, getA_mem hd0, by show (getA ls x).getD d0 = _; rw [e]; rfl⟩
  have hl0 : ∀ x, isList (doc x) = true := fun x => by
    obtain ⟨p, mp, e⟩ := hdoc2 x
    rw [e]; exact (hdoc p mp).ok
  obtain ⟨du, hdu⟩ : ∃ du, du = walkF (shD33 ys) z doc 1200 [(Str.ofString "list", rlD chD33 3)] [] := ⟨_, rfl⟩
  refine ⟨fun σ H' => ∃ (rd pa : Addr) (vs : List V), σ = [some (V.ref a), some (.int c), some (.ref dp), some (.ref dl), some (.ref na), o5, some (.ref rp), some (.ref rv), some (.ref cv), some (.ref sv), some (.str z), some (.ref rd), some (.ref pa), none, none, none, none, o17, o18, none, none] ∧ H' rd = some (.lst vs) ∧ RqA H' vs (du.1.map rowW) ∧ Rq H' (.ref pa) du.2 ∧ Kp [] H14 H', ?_, fun σ H15 ⟨rd, pa, vs, hσ, epr, rpr, rpa, k15⟩ => ?_⟩
  · walk_at "wq"
    obtain ⟨p0, xs0, e0, er0, _, rr0, x3, hx3, rx3⟩ := rrv14.part (i := 3) (show tupB 4 4 rlsD33 = true from rfl) (by omega)
    cases e0
    refine ⟨_, er0, _, hx3, x3, rlD chD33 3, dl, na, kvs, ls, names, z, shD33 ys, doc, fun n d h => by rw [← hdocF]; show (getA ls n).getD d0 = d; rw [h]; rfl, rfl, rx3, chD_ok.2.2.2.2.2.2, chD_ok.2.2.2.2.2.1, P14.ed, P14.kd, P14.en, hnm, P14.nd, P14.sub, P14.inl, hz, hdoc, hrow, fun r pr pa vs G h1 h2 h3 h4 k => ⟨r, _, rfl, SqT.of h1, rfl, ?_⟩⟩
    walk_at "wq"
    exact ⟨vs, h2, by rw [hdu]; exact h3, by rw [hdu]; exact h4, k⟩
  subst hσ
  have ly : ys.length ≤ 32 := by rw [hys.length_eq]; omega
  have hdl : ∀ x ∈ names, isList (doc x) = true ∧ purD (doc x) = true ∧ okD 7 (doc x) = true := fun x m => by
    obtain ⟨p, mp, e⟩ := hdoc2 x
    have L := hdoc p mp
    rw [e]; exact ⟨L.ok, in_pur 6 _ L.inn, okD_le (by decide) (in_ok 6 _ L.inn)⟩
  have hlead : ∀ s g, leadsF (shD33 ys) s g = true → strD (ixD g 0) ∈ names := fun s g h => by
    unfold leadsF at h
    rw [hrow, Bool.not_not] at h
    simp only [Bool.and_eq_true, decide_eq_true_eq] at h
    exact h.2.1
  have hl4 : lnS (Str.ofString "list") = true := by decide +kernel
  obtain ⟨hdu1, hdu2⟩ := walk_rowsX (sh := shD33 ys) (z := z) (doc := doc) (names := names) hdl hlead (n := 1200) (w := [(Str.ofString "list", rlD chD33 3)]) (sn := []) fun p m => by
    rw [List.mem_singleton.mp m]; exact ⟨P14.inl, hl4, okD_le (by decide) chD_ok.2.2.2.2.2.1, chD_ok.2.2.2.2.2.2⟩
  rw [← hdu] at hdu1 hdu2
  have K15 := P5.k.trans (K514.trans k15)
  have P15 := P14.go k15
  have g15 : Tabs Ts H15 := hG.kp0 K15
  have E15 : E33 Ts dl rd pa cv sv kvs ls ys du vs H15 := ⟨P15.ed, P15.kd, epr, rpr, rpa, rcv14.kp0 k15, rsh14.kp0 k15, g15⟩
  have ego : ∀ {S : List Addr} {H H' : Hp}, E33 Ts dl rd pa cv sv kvs ls ys du vs H → Kp S H H' → Tabs Ts H' → (∀ x ∈ S, x ≠ dl ∧ ∀ us, H x ≠ some (.lst us)) → E33 Ts dl rd pa cv sv kvs ls ys du vs H' := fun e k g n => e.go hp33 hdu1 hdu2 ly k g n
  have nTs : ∀ {H : Hp}, E33 Ts dl rd pa cv sv kvs ls ys du vs H → ∀ x ∈ Ts, x ≠ dl ∧ ∀ us, H x ≠ some (.lst us) := fun e x m => by
    obtain ⟨ps, t, _⟩ := e.g x m
    refine ⟨fun h => ?_, fun us h => ?_⟩
    · have := e.ed
      rw [← h, t] at this; cases this
    · rw [t] at h; cases h
  have lz : z.length ≤ 100 := (pth33_ok z hz).2.1
  refine ⟨fun σ H' => ∃ (o wl sd : Addr), σ = [some (V.ref a), some (.int c), some (.ref dp), some (.ref dl), some (.ref na), o5, some (.ref rp), some (.ref rv), some (.ref cv), some (.ref sv), some (.str z), some (.ref rd), some (.ref pa), some (.ref o), none, none, none, o17, o18, none, none] ∧ E33 Ts dl rd pa cv sv kvs ls ys du vs H' ∧ sd ≠ dl ∧ Srs C o wl sd (.ref sv) (shD33 ys) (Sst.new z (rlD chD33 3)) H', ?_, fun σ H16 ⟨o, wl, sd, hσ, E16, nsd, S16⟩ => ?_⟩
  · walk_at "wq"
    intro o dx ho hdx ndx
    have k0 : Kp [] H15 (upd (upd H15 dx (.own o)) o (.ins C dx [])) := (Kp.new hdx _).trans (Kp.new (by rw [upd_ne ndx.symm]; exact ho) _)
    have E0 := ego E15 k0 (E15.g.kp0 k0) fun x m => absurd m List.not_mem_nil
    refine ⟨o, dx, .ref cv, .ref sv, chD33, shD33 ys, z, rfl, upd_same, E0.rch, chD_ok.1, chD_ok.2.1, chD_ok.2.2.1, E0.rsh, shR33 ly, lz, fun wl sd H1 w0 s0 nwo nso k1 S1 => ⟨rfl, ?_, wl, sd, ?_, S1⟩⟩
    · refine ego E0 k1 (E0.g.kp k1 fun P mP mo => absurd mP (by rw [List.mem_singleton.mp mo]; exact E0.g.ne upd_same)) fun x m => ?_
      rw [List.mem_singleton.mp m]
      refine ⟨fun h => ?_, fun us h => ?_⟩
      · have := E0.ed
        rw [← h, upd_same] at this; cases this
      · rw [upd_same] at h; cases h
    · intro h
      have := E0.ed
      rw [← h, s0] at this; cases this
  subst hσ
  have hget : ∀ p : Str × PyData, p.1 ∈ names → getA ls p.1 = some (doc p.1) := fun p m => by
    obtain ⟨d, hd⟩ := mem_getA (ls := ls) (n := p.1) (inl _ m)
    rw [← hdocF, hd]; show _ = some ((getA ls p.1).getD d0); rw [hd]; rfl
  have hlsok : LsOk ls := fun p m => by
    have L := hdoc p m
    exact ⟨L.ok, L.nm, okD_le (by decide) (in_ok 6 _ L.inn), in_pur 6 _ L.inn⟩
  obtain ⟨fin, hfin⟩ : ∃ fin, fin = (trF (shD33 ys) doc 33 (Sst.new z (rlD chD33 3))).2 := ⟨_, rfl⟩
  have htr : trF (shD33 ys) doc 33 (Sst.new z (rlD chD33 3)) = (du.1, fin) ∧ du.2 = fin.res := by
    have := walk_tr (sh := shD33 ys) (z := z) (doc := doc) (U := names) (by omega) (fun x m => by
      obtain ⟨zz, LS⟩ := lsP (hl0 x)
      exact (tupB_len LS.r1).2) hlead (n := 1200) (w := [(Str.ofString "list", rlD chD33 3)]) (sn := []) (s := Sst.new z (rlD chD33 3)) (m := 33) rfl rfl rfl rfl (by intro h; cases h) List.nodup_nil (fun x m => absurd m List.not_mem_nil) (fun p m => by rw [List.mem_singleton.mp m]; exact P14.inl) (by decide) (by decide)
    rw [← hdu] at this
    rw [this, hfin]
    exact ⟨rfl, rfl⟩
  have hres0 : noneB fin.res = false := by
    rw [hfin]
    exact tr_inv hl0 (Sst.Inv.new z _) (.inl rfl) (by show 33 ≤ 33 + 0; decide)
  have hnmem : ∀ n, n ∈ nms33 → ∀ {G : Hp}, E33 Ts dl rd pa cv sv kvs ls ys du vs G → ∃ v d, DGet G dl (.str n) (some v) ∧ Rq G v d ∧ L33 n d := fun n m {G} e => by
    obtain ⟨d, hd⟩ := mem_getA (ls := ls) (n := n) (by rw [hnm]; exact m)
    rcases e.kd.val (n := n) with ⟨v, d', h1, h2, h3⟩ | ⟨h1, h2⟩
    · rw [hd] at h2
      cases h2
      exact ⟨v, d, by rw [← h1]; exact DGet.k (k := Sum.inr n) e.ed, h3, hdoc _ (getA_mem hd)⟩
    · rw [hd] at h2; cases h2
  refine ⟨fun σ H' => ∃ (o14 o19 o20 : Option V) (wl : Addr), σ = [some (V.ref a), some (.int c), some (.ref dp), some (.ref dl), some (.ref na), o5, some (.ref rp), some (.ref rv), some (.ref cv), some (.ref sv), some (.str z), some (.ref rd), some (.ref pa), some (.ref o), o14, none, none, o17, o18, o19, o20] ∧ E33 Ts dl rd pa cv sv kvs ls ys du vs H' ∧ Srs C o wl sd (.ref sv) (shD33 ys) fin H' ∧ fin.Inv ∧ noneB fin.res = false, ?_, fun σ H17 ⟨o14, o19, o20, wl, hσ, E17, S17, I17, fr⟩ => ?_⟩
  · refine for_viaL (fun x H' => x = .ref rd ∧ H' = H16) (fun R hR => ?_) (fun x H' ⟨ex, eH⟩ => ?_)
    · walk_at "wq"
      exact hR _ _ ⟨rfl, rfl⟩
    subst ex
    subst eH
    refine ⟨rd, rfl, ⟨_, SqL.of E16.epr⟩, ?_⟩
    refine for_list (K := K) (a := rd) (xs := vs) (fun i σ H' => ∃ (o14 o19 o20 : Option V) (wl : Addr) (s : Sst) (m : Nat), σ = [some (V.ref a), some (.int c), some (.ref dp), some (.ref dl), some (.ref na), o5, some (.ref rp), some (.ref rv), some (.ref cv), some (.ref sv), some (.str z), some (.ref rd), some (.ref pa), some (.ref o), o14, none, none, o17, o18, o19, o20] ∧ E33 Ts dl rd pa cv sv kvs ls ys du vs H' ∧ Srs C o wl sd (.ref sv) (shD33 ys) s H' ∧ s.Inv ∧ 33 ≤ m + s.seen.length ∧ trF (shD33 ys) doc m s = (du.1.drop i, fin))
      ⟨_, _, _, wl, _, 33, rfl, E16, S16, Sst.Inv.new z _, Nat.le_add_right _ _, htr.1⟩ (fun i σ H' _ ⟨_, _, _, _, _, _, _, E, _⟩ => SqL.of E.epr) (fun i x σ H' hx ⟨o14, o19, o20, wl, s, m, hσ, E, S, I, hm, ht⟩ => ?_) (fun σ H' ⟨o14, o19, o20, wl, s, m, hσ, E, S, I, hm, ht⟩ => ?_)
    · subst hσ
      obtain ⟨pd, hpd, rx⟩ := E.rpr.get hx
      rw [List.getElem?_map] at hpd
      obtain ⟨p, hp, rfl⟩ := Option.map_eq_some_iff.mp hpd
      have mp := List.mem_of_getElem? hp
      have hRw := hdu1 p mp
      have edr : du.1.drop i = p :: du.1.drop (i + 1) := by
        have li := (List.getElem?_eq_some_iff.mp hp).1
        rw [List.drop_eq_getElem_cons li]
        congr 1
        exact (List.getElem?_eq_some_iff.mp hp).2
      rw [edr] at ht
      have hrn : noneB s.res = true := by
        cases e : noneB s.res with
        | true => rfl
        | false => rw [trF_end e] at ht; cases (Prod.mk.inj ht).1
      obtain ⟨m, rfl⟩ : ∃ k, m = k + 1 := by
        cases m with
        | zero => cases (Prod.mk.inj ht).1
        | succ k => exact ⟨k, rfl⟩
      rw [trF_go hrn] at ht
      obtain ⟨ht1, ht2⟩ := Prod.mk.inj ht
      obtain ⟨hhd, ht1⟩ := List.cons.inj ht1
      rw [hhd] at ht1 ht2
      have hrs := noneB_none hrn
      obtain ⟨i1, i2, i3⟩ := I.go hrs
      obtain ⟨a0, xr, rfl, ea0, rxr⟩ := row_of rx
      have hwant : s.want = rowW p := by unfold Sst.want; rw [if_pos hrn, hhd]
      obtain ⟨d, hd⟩ := mem_getA (ls := ls) (n := p.1) (inl _ hRw.m)
      have L := hdoc _ (getA_mem hd)
      have hdd : doc p.1 = d := by rw [← hdocF]; show (getA ls p.1).getD d0 = d; rw [hd]; rfl
      have hdd2 : ∀ {G : Hp}, E33 Ts dl rd pa cv sv kvs ls ys du vs G → ∃ v, DGet G dl (.str p.1) (some v) ∧ Rq G v d := fun e => by
        rcases e.kd.val (n := p.1) with ⟨v, d', h1, h2, h3⟩ | ⟨h1, h2⟩
        · rw [hd] at h2
          cases h2
          exact ⟨v, by rw [← h1]; exact DGet.k (k := Sum.inr p.1) e.ed, h3⟩
        · rw [hd] at h2; cases h2
      obtain ⟨dx, rv1, ho, hrv⟩ := S.ob
      have hsh := ok_shaped hRw.ok (by decide : 9 ≤ 64)
      have hself := okD_eqv hRw.ok
      walk_at "wq"
      refine ⟨fun σ H2 => H2 = H' ∧ σ = [some (V.ref a), some (.int c), some (.ref dp), some (.ref dl), some (.ref na), o5, some (.ref rp), some (.ref rv), some (.ref cv), some (.ref sv), some (.str z), some (.ref rd), some (.ref pa), some (.ref o), some (V.ref a0), none, none, o17, o18, o19, o20], ?_, fun σ H2 ⟨eH2, hσ⟩ => ?_⟩
      · walk_at "wq"
        refine ⟨dx, _, ho, rfl, o, wl, sd, .ref sv, shD33 ys, s, rfl, S, fun _ => i1, fun u ru => ?_⟩
        rw [hwant] at ru
        refine ⟨rowW p, rowW p, ru.dp, rx.dp, hsh, hsh, _, rfl, ?_⟩
        rw [hself]
        refine if_no (by simp) ⟨dx, _, ho, rfl, o, wl, sd, .ref sv, shD33 ys, s, rfl, S, fun u2 ru2 => ?_⟩
        rw [hrs] at ru2
        cases ru2
        exact if_no (by simp) rfl
      subst hσ
      subst eH2
      refine ⟨fun σ H3 => ∃ (la : Addr) (us : List V) (dA dB : PyData), σ = [some (V.ref a), some (.int c), some (.ref dp), some (.ref dl), some (.ref na), o5, some (.ref rp), some (.ref rv), some (.ref cv), some (.ref sv), some (.str z), some (.ref rd), some (.ref pa), some (.ref o), some (V.ref a0), none, none, o17, o18, some (V.ref la), o20] ∧ E33 Ts dl rd pa cv sv kvs ls ys du vs H3 ∧ Srs C o wl sd (.ref sv) (shD33 ys) s H3 ∧ H3 la = some (.lst us) ∧ RqA H3 us [.none, dA, dB, .tuple [.str (Str.ofString "list")], chD33] ∧ L33 (Str.ofString "a") dA ∧ L33 (Str.ofString "b") dB ∧ Kp [] H2 H3, ?_, fun σ H3 ⟨la, us, dA, dB, hσ, E3, S3, ela, rus, LA, LB, k3⟩ => ?_⟩
      · walk_at "wq"
        obtain ⟨va, dA, ga, ra, LA⟩ := hnmem (Str.ofString "a") (by decide +kernel) E
        obtain ⟨vb, dB, gb, rb, LB⟩ := hnmem (Str.ofString "b") (by decide +kernel) E
        refine ⟨va, ga, vb, gb, by omega, fun p1 w1 => ⟨by omega, fun p2 w2 => ?_⟩⟩
        have q1 : Kp [] H2 (upd H2 p1 (.tup [.str (Str.ofString "list")])) := Kp.new w1 _
        have q2 : Kp [] _ (upd (upd H2 p1 (.tup [.str (Str.ofString "list")])) p2 (.lst [.non, va, vb, .ref p1, .ref cv])) := Kp.new w2 _
        have q := q1.trans q2
        exact ⟨ego E q (E.g.kp0 q) (fun x m => absurd m List.not_mem_nil), S.kp0 q, dA, dB, .cons .non (.cons (ra.kp0 q) (.cons (rb.kp0 q) (.cons (.tup (q2.keep _ _ List.not_mem_nil upd_same) (.cons (.str _) .nil)) (.cons (E.rch.kp0 q) .nil)))), LA, LB, q⟩
      subst hσ
      have ea3 := k3.keep _ _ List.not_mem_nil ea0
      have rx3 := rxr.kp0 k3
      refine ⟨fun σ H4 => ∃ o20 : Option V, σ = [some (V.ref a), some (.int c), some (.ref dp), some (.ref dl), some (.ref na), o5, some (.ref rp), some (.ref rv), some (.ref cv), some (.ref sv), some (.str z), some (.ref rd), some (.ref pa), some (.ref o), some (V.ref a0), none, none, o17, o18, some (V.ref la), o20] ∧ E33 Ts dl rd pa cv sv kvs ls ys du vs H4 ∧ Srs C o wl sd (.ref sv) (shD33 ys) s H4 ∧ H4 a0 = some (.tup [.str p.1, xr]) ∧ Rq H4 xr p.2, ?_, fun σ H4 ⟨o20, hσ, E4, S4, ea4, rx4⟩ => ?_⟩
      · refine for_viaL (fun x G => x = .ref la ∧ G = H3) (fun R hR => ?_) (fun x G ⟨ex, eH⟩ => ?_)
        · walk_at "wq"
          exact hR _ _ ⟨rfl, rfl⟩
        subst ex
        subst eH
        refine ⟨la, rfl, ⟨_, SqL.of ela⟩, ?_⟩
        refine for_list (K := K) (a := la) (xs := us) (fun j σ G2 => ∃ o20 : Option V, σ = [some (V.ref a), some (.int c), some (.ref dp), some (.ref dl), some (.ref na), o5, some (.ref rp), some (.ref rv), some (.ref cv), some (.ref sv), some (.str z), some (.ref rd), some (.ref pa), some (.ref o), some (V.ref a0), none, none, o17, o18, some (V.ref la), o20] ∧ E33 Ts dl rd pa cv sv kvs ls ys du vs G2 ∧ Srs C o wl sd (.ref sv) (shD33 ys) s G2 ∧ G2 la = some (.lst us) ∧ RqA G2 us [.none, dA, dB, .tuple [.str (Str.ofString "list")], chD33] ∧ G2 a0 = some (.tup [.str p.1, xr]) ∧ Rq G2 xr p.2)
          ⟨_, rfl, E3, S3, ela, rus, ea3, rx3⟩ (fun j σ G2 _ ⟨_, _, _, _, e, _⟩ => SqL.of e) (fun j x σ G2 hx ⟨o20, hσ, E2, S2, ela2, rus2, ea2, rx2⟩ => ?_) (fun σ G2 ⟨o20, hσ, E2, S2, ela2, rus2, ea2, rx2⟩ => ⟨_, hσ, E2, S2, ea2, rx2⟩)
        subst hσ
        obtain ⟨e, he, rxe⟩ := rus2.get hx
        have me := List.mem_of_getElem? he
        have refu : okD 12 e = true → (isList e = true → purD e = true) → ¬ (isList e = true ∧ ixD e 1 = .str s.hd.1) → ∀ {Q' : VK}, (∀ G3, Kp Ts G2 G3 → Tabs Ts G3 → Q' (.bl true) G3) → spRef33 C Ts [V.ref o, x] G2 Q' E0 := fun n1 n2 n3 Q' hq => ⟨o, wl, sd, .ref sv, shD33 ys, s, x, e, rfl, S2, I, rxe, n1, n2, E2.g, fun h => n3 h.2, fun G3 k3 g3 => hq G3 k3 g3⟩
        simp only [List.mem_cons, List.not_mem_nil, or_false] at me
        walk_at "wq"
        rcases me with rfl | rfl | rfl | rfl | rfl
        · cases rxe
          refine ⟨"NoneType", rfl, if_yes rfl ?_⟩
          exact refu rfl (fun h => rfl) (fun h => absurd h.1 (by decide)) (fun G3 k3 g3 => ⟨true, rfl, if_no (by simp) (by
            have E5 := ego E2 k3 g3 (nTs E2)
            have S5 := S2.tabs k3 E2.g
            have ea5 := k3.tup _ _ ea2
            have rx5 := rx2.pure k3 hRw.p
            obtain ⟨dx3, rv3, ho3, hrv3⟩ := S5.ob
            refine ⟨dx3, _, ho3, rfl, o, wl, sd, .ref sv, shD33 ys, s, rfl, S5, fun _ => i1, fun u ru => ?_⟩
            rw [hwant] at ru
            refine ⟨rowW p, rowW p, ru.dp, (Rq.tup ea5 (.cons (.str _) (.cons rx5 .nil)) : Rq G3 (.ref a0) (rowW p)).dp, hsh, hsh, _, rfl, ?_⟩
            rw [hself]
            exact if_no (by simp) ⟨E5, S5, k3.keep _ _ (E2.g.ne ela2) ela2, rus2.tabs k3 E2.g, ea5, rx5⟩)⟩)
        · obtain ⟨da, xs6, ds6, rfl, eda, edd, rr6, l61, l62⟩ := tupB_of rxe LA.t6
          have lx6 := rr6.len
          obtain ⟨q6, ys6, e6, eq6, _, _, v1, hv1, rv1⟩ := rxe.part LA.t6 (i := 1) (by omega)
          cases e6
          rw [eda] at eq6
          cases eq6
          rw [LA.nm] at rv1
          cases rv1
          refine ⟨"tuple", tyN_tup eda, if_no (by decide) ⟨da, rfl, xs6, .inr (SqT.of eda), if_no (by omega) ⟨da, rfl, _, eda, _, hv1, _, ea2, _, at0, rfl, ?_⟩⟩⟩
          by_cases cn : Str.ofString "a" = p.1
          · refine if_no (by rw [cn]; simp) ?_
            exact ⟨E2, S2, ela2, rus2, ea2, rx2⟩
          · refine if_yes (by simpa using cn) ?_
            exact refu (okD_le (by decide) (in_ok 6 _ LA.inn)) (fun _ => in_pur 6 _ LA.inn) (fun h => by
              have h2 := h.2
              rw [LA.nm, hhd] at h2
              exact cn (PyData.str.inj h2)) (fun G3 k3 g3 => ⟨true, rfl, if_no (by simp) (by
            have E5 := ego E2 k3 g3 (nTs E2)
            have S5 := S2.tabs k3 E2.g
            have ea5 := k3.tup _ _ ea2
            have rx5 := rx2.pure k3 hRw.p
            obtain ⟨dx3, rv3, ho3, hrv3⟩ := S5.ob
            refine ⟨dx3, _, ho3, rfl, o, wl, sd, .ref sv, shD33 ys, s, rfl, S5, fun _ => i1, fun u ru => ?_⟩
            rw [hwant] at ru
            refine ⟨rowW p, rowW p, ru.dp, (Rq.tup ea5 (.cons (.str _) (.cons rx5 .nil)) : Rq G3 (.ref a0) (rowW p)).dp, hsh, hsh, _, rfl, ?_⟩
            rw [hself]
            exact if_no (by simp) ⟨E5, S5, k3.keep _ _ (E2.g.ne ela2) ela2, rus2.tabs k3 E2.g, ea5, rx5⟩)⟩)
        · obtain ⟨da, xs6, ds6, rfl, eda, edd, rr6, l61, l62⟩ := tupB_of rxe LB.t6
          have lx6 := rr6.len
          obtain ⟨q6, ys6, e6, eq6, _, _, v1, hv1, rv1⟩ := rxe.part LB.t6 (i := 1) (by omega)
          cases e6
          rw [eda] at eq6
          cases eq6
          rw [LB.nm] at rv1
          cases rv1
          refine ⟨"tuple", tyN_tup eda, if_no (by decide) ⟨da, rfl, xs6, .inr (SqT.of eda), if_no (by omega) ⟨da, rfl, _, eda, _, hv1, _, ea2, _, at0, rfl, ?_⟩⟩⟩
          by_cases cn : Str.ofString "b" = p.1
          · refine if_no (by rw [cn]; simp) ?_
            exact ⟨E2, S2, ela2, rus2, ea2, rx2⟩
          · refine if_yes (by simpa using cn) ?_
            exact refu (okD_le (by decide) (in_ok 6 _ LB.inn)) (fun _ => in_pur 6 _ LB.inn) (fun h => by
              have h2 := h.2
              rw [LB.nm, hhd] at h2
              exact cn (PyData.str.inj h2)) (fun G3 k3 g3 => ⟨true, rfl, if_no (by simp) (by
            have E5 := ego E2 k3 g3 (nTs E2)
            have S5 := S2.tabs k3 E2.g
            have ea5 := k3.tup _ _ ea2
            have rx5 := rx2.pure k3 hRw.p
            obtain ⟨dx3, rv3, ho3, hrv3⟩ := S5.ob
            refine ⟨dx3, _, ho3, rfl, o, wl, sd, .ref sv, shD33 ys, s, rfl, S5, fun _ => i1, fun u ru => ?_⟩
            rw [hwant] at ru
            refine ⟨rowW p, rowW p, ru.dp, (Rq.tup ea5 (.cons (.str _) (.cons rx5 .nil)) : Rq G3 (.ref a0) (rowW p)).dp, hsh, hsh, _, rfl, ?_⟩
            rw [hself]
            exact if_no (by simp) ⟨E5, S5, k3.keep _ _ (E2.g.ne ela2) ela2, rus2.tabs k3 E2.g, ea5, rx5⟩)⟩)
        · obtain ⟨da, xs6, ds6, rfl, eda, edd, rr6, l61, l62⟩ := tupB_of rxe (show tupB 1 1 (.tuple [.str (Str.ofString "list")]) = true from rfl)
          have lx6 := rr6.len
          refine ⟨"tuple", tyN_tup eda, if_no (by decide) ⟨da, rfl, xs6, .inr (SqT.of eda), if_yes (by omega) ?_⟩⟩
          exact refu (by decide +kernel) (fun h => rfl) (fun h => absurd h.1 (by decide)) (fun G3 k3 g3 => ⟨true, rfl, if_no (by simp) (by
            have E5 := ego E2 k3 g3 (nTs E2)
            have S5 := S2.tabs k3 E2.g
            have ea5 := k3.tup _ _ ea2
            have rx5 := rx2.pure k3 hRw.p
            obtain ⟨dx3, rv3, ho3, hrv3⟩ := S5.ob
            refine ⟨dx3, _, ho3, rfl, o, wl, sd, .ref sv, shD33 ys, s, rfl, S5, fun _ => i1, fun u ru => ?_⟩
            rw [hwant] at ru
            refine ⟨rowW p, rowW p, ru.dp, (Rq.tup ea5 (.cons (.str _) (.cons rx5 .nil)) : Rq G3 (.ref a0) (rowW p)).dp, hsh, hsh, _, rfl, ?_⟩
            rw [hself]
            exact if_no (by simp) ⟨E5, S5, k3.keep _ _ (E2.g.ne ela2) ela2, rus2.tabs k3 E2.g, ea5, rx5⟩)⟩)
        · obtain ⟨da, xs6, ds6, rfl, eda, edd, rr6, l61, l62⟩ := tupB_of rxe (show tupB 4 4 chD33 = true from rfl)
          have lx6 := rr6.len
          refine ⟨"tuple", tyN_tup eda, if_no (by decide) ⟨da, rfl, xs6, .inr (SqT.of eda), if_yes (by omega) ?_⟩⟩
          exact refu chD_ok.2.1 (fun _ => chD_ok.2.2.1) (fun h => absurd h.1 (by decide)) (fun G3 k3 g3 => ⟨true, rfl, if_no (by simp) (by
            have E5 := ego E2 k3 g3 (nTs E2)
            have S5 := S2.tabs k3 E2.g
            have ea5 := k3.tup _ _ ea2
            have rx5 := rx2.pure k3 hRw.p
            obtain ⟨dx3, rv3, ho3, hrv3⟩ := S5.ob
            refine ⟨dx3, _, ho3, rfl, o, wl, sd, .ref sv, shD33 ys, s, rfl, S5, fun _ => i1, fun u ru => ?_⟩
            rw [hwant] at ru
            refine ⟨rowW p, rowW p, ru.dp, (Rq.tup ea5 (.cons (.str _) (.cons rx5 .nil)) : Rq G3 (.ref a0) (rowW p)).dp, hsh, hsh, _, rfl, ?_⟩
            rw [hself]
            exact if_no (by simp) ⟨E5, S5, k3.keep _ _ (E2.g.ne ela2) ela2, rus2.tabs k3 E2.g, ea5, rx5⟩)⟩)
      subst hσ
      walk_at "wq"
      obtain ⟨dx3, rv3, ho3, hrv3⟩ := S4.ob
      obtain ⟨v, hv, rv'⟩ := hdd2 E4
      have hn1 : ixD d 1 = .str s.hd.1 := by rw [hhd, L.nm]
      have pud := in_pur 6 _ L.inn
      have wl1 := I.wl
      have sl1 := I.sl
      refine ⟨dx3, _, ho3, rfl, _, ea4, _, at0, v, hv, o, wl, sd, .ref sv, shD33 ys, s, v, d, rfl, S4, fun _ => ⟨i1, i3 _ (hd_mem i1), by omega, by omega⟩, rv', okD_le (by decide) (in_ok 6 d L.inn), fun _ => pud, E4.g, fun _ _ _ wl' H5 hwl k4 g4 S5 => if_no (by simp) ⟨?_, wl', s.give (shD33 ys) d, S5, I.give hrs L.ok, m, ?_, ?_⟩, fun h => absurd ⟨hrs, L.ok, hn1⟩ h⟩
      · refine ego E4 k4 g4 fun x mx => ?_
        rcases List.mem_cons.mp mx with rfl | mx
        · refine ⟨fun h => ?_, fun us h => ?_⟩
          · have := E4.ed
            rw [← h, ho3] at this; cases this
          · rw [ho3] at h; cases h
        rcases List.mem_cons.mp mx with rfl | mx
        · exact ⟨nsd, fun us h => by rw [S4.sn] at h; cases h⟩
        · exact nTs E4 x mx
      · rw [give_seen]; omega
      · rw [← hdd]; exact Prod.ext ht1 ht2
    · subst hσ
      have el : vs.length = du.1.length := by rw [E.rpr.len, List.length_map]
      rw [el, List.drop_length] at ht
      have hrn : noneB s.res = false := by
        cases e : noneB s.res with
        | false => rfl
        | true =>
          cases m with
          | zero => have := I.sl; omega
          | succ k => rw [trF_go e] at ht; cases (Prod.mk.inj ht).1
      have es : s = fin := by rw [trF_end hrn] at ht; exact (Prod.mk.inj ht).2
      subst es
      exact ⟨_, _, _, wl, rfl, E, S, I, hrn⟩
  subst hσ
  have hshd := ok_shaped hdu2.o (by decide : 9 ≤ 64)
  have hselfd := okD_eqv hdu2.o
  have fn : fin.res ≠ .none := fun e => by rw [e] at fr; cases fr
  refine ⟨fun σ H' => σ = [some (V.ref a), some (.int c), some (.ref dp), some (.ref dl), some (.ref na), o5, some (.ref rp), some (.ref rv), some (.ref cv), some (.ref sv), some (.str z), some (.ref rd), some (.ref pa), some (.ref o), o14, none, none, o17, o18, o19, o20] ∧ E33 Ts dl rd pa cv sv kvs ls ys du vs H' ∧ Srs C o wl sd (.ref sv) (shD33 ys) fin H', ?_, fun σ H18 ⟨hσ, E18, S18⟩ => ?_⟩
  · walk_at "wq"
    obtain ⟨dx, rv1, ho, hrv⟩ := S17.ob
    refine ⟨dx, _, ho, rfl, o, wl, sd, .ref sv, shD33 ys, fin, rfl, S17, fun h => absurd h fn, fun u ru => ?_⟩
    unfold Sst.want at ru
    rw [if_neg (by rw [fr]; simp)] at ru
    cases ru
    refine if_no (by simp) ⟨dx, _, ho, rfl, o, wl, sd, .ref sv, shD33 ys, fin, rfl, S17, fun u ru => ⟨du.2, du.2, ?_, E17.rpa.dp, hshd, hshd, _, rfl, ?_⟩⟩
    · rw [htr.2]; exact ru.dp
    rw [hselfd]
    obtain ⟨v, d', gv, rv', L⟩ := hnmem (Str.ofString "list") (by decide +kernel) E17
    exact if_no (by simp) ⟨v, gv, o, wl, sd, .ref sv, shD33 ys, fin, v, d', rfl, S17, I17, rv', okD_le (by decide) (in_ok 6 _ L.inn), fun _ => in_pur 6 _ L.inn, E17.g, fun h => fn h.1, fun G k g => ⟨true, rfl, if_no (by simp) ⟨ego E17 k g (nTs E17), S17.tabs k E17.g⟩⟩⟩
  subst hσ
  refine ⟨fun σ H' => σ = [some (V.ref a), some (.int c), some (.ref dp), some (.ref dl), some (.ref na), o5, some (.ref rp), some (.ref rv), some (.ref cv), some (.ref sv), some (.str z), some (.ref rd), some (.ref pa), some (.ref o), o14, none, none, o17, o18, o19, o20] ∧ E33 Ts dl rd pa cv sv kvs ls ys du vs H', ?_, fun σ H19 ⟨hσ, E19⟩ => ?_⟩
  · walk_at "wq"
    obtain ⟨dx, rv1, ho, hrv⟩ := S18.ob
    refine ⟨dx, _, ho, rfl, o, wl, sd, .ref sv, shD33 ys, fin, rfl, S18, fun u ru => ⟨du.2, du.2, ?_, E18.rpa.dp, hshd, hshd, _, rfl, ?_⟩⟩
    · rw [htr.2]; exact ru.dp
    rw [hselfd]
    refine if_no (by simp) ⟨dl, .ref cv, .ref sv, chD33, shD33 ys, z, kvs, ls, rfl, E18.rch, chD_ok.1, chD_ok.2.1, chD_ok.2.2.1, E18.rsh, shR33 ly, lz, E18.ed, E18.kd, hlsok, E18.g, fun u G ru kG gG => ?_⟩
    have EG := ego E18 kG gG (nTs E18)
    have hlk : lookF (shD33 ys) ls 33 (Sst.new z (rlD chD33 3)) = du.2 := by
      rw [htr.2, look_all (doc := doc), hfin]
      intro p mp
      rw [htr.1] at mp
      exact hget p (hdu1 p mp).m
    rw [hlk] at ru
    refine ⟨du.2, du.2, ru.dp, EG.rpa.dp, hshd, hshd, _, rfl, ?_⟩
    rw [hselfd]
    exact if_no (by simp) EG
  subst hσ
  have hne : du.1 ≠ [] := by
    intro e
    have := htr.1
    rw [e, trF_go rfl] at this
    cases (Prod.mk.inj this).1
  have lvs : vs.length = du.1.length := by rw [E19.rpr.len, List.length_map]
  have ld0 : 0 < du.1.length := List.length_pos_iff.mpr hne
  refine ⟨fun σ H' => ∃ (pre post : List (Str × PyData)) (q0 : Str × PyData), σ = [some (V.ref a), some (.int c), some (.ref dp), some (.ref dl), some (.ref na), o5, some (.ref rp), some (.ref rv), some (.ref cv), some (.ref sv), some (.str z), some (.ref rd), some (.ref pa), some (.ref o), o14, some (V.str q0.1), none, o17, o18, o19, o20] ∧ du.1 = pre ++ q0 :: post ∧ H' = H19, ?_, fun σ H20 ⟨pre, post, q0, hσ, epre, e20⟩ => ?_⟩
  · have c6 : 0 ≤ c / 6 % (vs.length : Int) ∧ c / 6 % (vs.length : Int) < vs.length := ⟨Int.emod_nonneg _ (by omega), Int.emod_lt_of_pos _ (by omega)⟩
    obtain ⟨t, ht⟩ : ∃ t : Nat, c / 6 % (vs.length : Int) = (t : Nat) := ⟨(c / 6 % (vs.length : Int)).toNat, by omega⟩
    rw [ht] at c6
    have lt : t < du.1.length := by omega
    obtain ⟨x, hx, rx⟩ := E19.rpr.ix (i := t) (by rw [List.length_map]; omega)
    have eq0 : (du.1.map rowW).getD t .none = rowW du.1[t] := by
      rw [List.getD_eq_getElem?_getD, List.getElem?_map, List.getElem?_eq_getElem lt]; rfl
    rw [eq0] at rx
    obtain ⟨a0, xr, rfl, ea0, rxr⟩ := row_of rx
    walk_at "wq"
    refine ⟨wide33 (by decide) (by decide), vs, .inl (SqL.of E19.epr), by omega, vs, E19.epr, .ref a0, by rw [ht]; exact hx, a0, rfl, _, ea0, _, at0, du.1.take t, du.1.drop (t + 1), du.1[t], rfl, ?_⟩
    rw [← List.drop_eq_getElem_cons lt, List.take_append_drop]
  subst hσ
  subst e20
  refine ⟨fun σ H' => ∃ ga : Addr, σ = [some (V.ref a), some (.int c), some (.ref dp), some (.ref dl), some (.ref na), o5, some (.ref rp), some (.ref rv), some (.ref cv), some (.ref sv), some (.str z), some (.ref rd), some (.ref pa), some (.ref o), o14, some (V.str q0.1), some (V.ref ga), o17, o18, o19, o20] ∧ H' ga = some (.dK []) ∧ H20 ga = none ∧ Kp [] H20 H', ?_, fun σ H21 ⟨ga, hσ, ega, nga, k21⟩ => ?_⟩
  · walk_at "wq"
    exact fun p hp => ⟨hp, Kp.new hp _⟩
  subst hσ
  have E21 := ego E19 k21 (E19.g.kp0 k21) fun x m => absurd m List.not_mem_nil
  have ndg : dl ≠ ga := fun e => by have := E19.ed; rw [e, nga] at this; cases this
  refine ⟨fun σ H' => ∃ (o17 : Option V) (gk : List (Key × V)), σ = [some (V.ref a), some (.int c), some (.ref dp), some (.ref dl), some (.ref na), o5, some (.ref rp), some (.ref rv), some (.ref cv), some (.ref sv), some (.str z), some (.ref rd), some (.ref pa), some (.ref o), o14, some (V.str q0.1), some (V.ref ga), o17, o18, o19, o20] ∧ E33 Ts dl rd pa cv sv kvs ls ys du vs H' ∧ H' ga = some (.dK gk) ∧ KvD H' gk (ls.filter fun p => !decide (p.1 = q0.1)), ?_, fun σ H22 ⟨o17, gk, hσ, E22, ega2, kd2⟩ => ?_⟩
  · refine ⟨dl, .dK kvs, E21.ed, trivial, fun od => ?_⟩
    have kf : Kp [dl, ga] H21 (upd H21 dl (.frz od (.dK kvs))) := kp_at E21.ed (fun us e => by cases e) (by simp)
    refine ⟨.ref dl, rfl, dl, od, rfl, .inl ⟨kvs, upd_same, ?_⟩⟩
    refine for_it (walk_keys (o := od) (d := dl) (kvs := kvs)) (fun i σ H' => ∃ (o17 : Option V) (gk : List (Key × V)), σ = [some (V.ref a), some (.int c), some (.ref dp), some (.ref dl), some (.ref na), o5, some (.ref rp), some (.ref rv), some (.ref cv), some (.ref sv), some (.str z), some (.ref rd), some (.ref pa), some (.ref o), o14, some (V.str q0.1), some (V.ref ga), o17, o18, o19, o20] ∧ H' dl = some (.frz od (.dK kvs)) ∧ H' ga = some (.dK gk) ∧ KvD H' gk ((ls.take i).filter fun p => !decide (p.1 = q0.1)) ∧ Kp [dl, ga] H21 H')
      ⟨_, [], rfl, upd_same, by rw [upd_ne ndg.symm]; exact ega, .nil, kf⟩ (fun i σ H' _ ⟨_, _, _, e, _⟩ => e) (fun i x σ H' H2' hi ⟨o17, gk, hσ, ef, eg, kg, kk⟩ ⟨hHH, key, v, hk, hx⟩ => ?_) (fun σ H' ⟨o17, gk, hσ, ef, eg, kg, kk⟩ => ?_)
    · subst hσ
      subst hHH hx
      obtain ⟨n, d, hn, rfl, rvd⟩ := E21.kd.at hk
      have ndl2 : (ls.map (·.1)).Nodup := by rw [hnm]; exact nms33_ok.1
      have gq : getA ls n = some d := getA_ix ndl2 hn
      rcases (E21.kd.kp kk hp33).val (n := n) with ⟨v', d', h1, h2, h3⟩ | ⟨h1, h2⟩
      rotate_left
      · rw [gq] at h2; cases h2
      rw [gq] at h2
      cases h2
      have e1 : ls.take (i + 1) = ls.take i ++ [(n, d)] := by rw [List.take_add_one, hn]; rfl
      have nin : n ∉ ((ls.take i).filter fun p => !decide (p.1 = q0.1)).map (·.1) := fun m => by
        have n1 : ((ls.take (i + 1)).map (·.1)).Nodup := ndl2.sublist ((List.take_sublist _ _).map _)
        rw [e1, List.map_append, List.nodup_append] at n1
        obtain ⟨q, mq, eq⟩ := List.mem_map.mp m
        exact n1.2.2 n (List.mem_map.mpr ⟨q, (List.mem_filter.mp mq).1, eq⟩) n (by simp) rfl
      have lgk := kg.len
      have lfl : ((ls.take i).filter fun p => !decide (p.1 = q0.1)).length ≤ ls.length := Nat.le_trans (List.length_filter_le _ _) (List.length_take_le' _ _)
      have l8 : ls.length = 8 := by have := congrArg List.length hnm; rw [List.length_map] at this; exact this
      walk_at "wq"
      refine ⟨rfl, ?_⟩
      by_cases cn : n = q0.1
      · refine if_no (fun h => h (by rw [cn]; rfl)) ⟨ef, gk, eg, ?_, kk⟩
        rw [e1, List.filter_append, show ([(n, d)].filter fun p => !decide (p.1 = q0.1)) = [] by simp [cn], List.append_nil]
        exact kg
      · refine if_yes (fun h => cn (V.str.inj h)) ⟨v', .inl ⟨kvs, Sum.inr n, .inr ⟨od, ef⟩, rfl, h1.symm⟩, _, DPut.k (k := Sum.inr n) eg (by omega), ?_⟩
        have ku : Kp [dl, ga] H2' (upd H2' ga (.dK (putK gk (Sum.inr n) v'))) := kp_dk eg (by simp)
        refine ⟨by rw [upd_ne ndg]; exact ef, putK gk (Sum.inr n) v', upd_same, ?_, kk.trans ku⟩
        rw [e1, List.filter_append, show ([(n, d)].filter fun p => !decide (p.1 = q0.1)) = [(n, d)] by simp [cn]]
        exact (kg.newK h3 nin).kp ku fun p m => by
          rcases List.mem_append.mp m with m | m
          · exact hp33 p (List.mem_of_mem_take (List.mem_filter.mp m).1)
          · rw [List.mem_singleton.mp m]; exact hp33 (n, d) (List.mem_of_getElem? hn)
    · have lk := E21.kd.len
      rw [lk, List.take_length] at kg
      have ku : Kp [dl, ga] H' (upd H' dl (.dK kvs)) := kp_at ef (fun us e => by cases e) (by simp)
      have kz := kk.trans ku
      have gz : Tabs Ts (upd H' dl (.dK kvs)) := E21.g.kp kz fun P mP mo => by
        rcases List.mem_cons.mp mo with e | mo
        · exact absurd mP (by rw [e]; exact E21.g.ne E21.ed)
        · exact absurd mP (by rw [List.mem_singleton.mp mo]; exact E21.g.ne ega)
      refine ⟨ef, o17, gk, hσ, E21.go2 hp33 hdu1 hdu2 ly kz gz upd_same ?_, by rw [upd_ne ndg.symm]; exact eg, kg.kp ku fun p m => hp33 p (List.mem_filter.mp m).1⟩
      intro x mx us h
      rcases List.mem_cons.mp mx with e | mx
      · rw [e, E21.ed] at h; cases h
      · rw [List.mem_singleton.mp mx, ega] at h; cases h
  subst hσ
  have hq0 := hdu1 q0 (by rw [epre]; simp)
  have hmiss : lookF (shD33 ys) (ls.filter fun p => !decide (p.1 = q0.1)) 33 (Sst.new z (rlD chD33 3)) = .tuple [.str (Str.ofString "missing"), .str q0.1] := by
    refine look_miss (doc := doc) (pre := pre) (q := q0) (post := post) (by rw [htr.1]; exact epre) (fun p mp => ?_) (getA_gone _ _)
    have hm : p ∈ du.1 := by rw [epre]; exact List.mem_append_left _ mp
    have nn := (tr_new (sh := shD33 ys) (doc := doc) hl0 (m := 33) (Sst.Inv.new z (rlD chD33 3)) (.inl rfl)).1
    rw [htr.1, epre, List.map_append, List.nodup_append] at nn
    rw [getA_filter (fun e => nn.2.2 p.1 (List.mem_map.mpr ⟨p, mp, rfl⟩) q0.1 (by simp) e)]
    exact hget p (hdu1 p hm).m
  walk_at "wq"
  refine ⟨ga, .ref cv, .ref sv, chD33, shD33 ys, z, gk, _, rfl, E22.rch, chD_ok.1, chD_ok.2.1, chD_ok.2.2.1, E22.rsh, shR33 ly, lz, ega2, kd2, fun p m => hlsok p (List.mem_filter.mp m).1, E22.g, fun u G ru kG gG => ?_⟩
  rw [hmiss] at ru
  refine ⟨by omega, fun pm wm => ?_⟩
  have km : Kp [] G (upd G pm (.tup [.str (Str.ofString "missing"), .str q0.1])) := Kp.new wm _
  have om : okD 9 (.tuple [.str (Str.ofString "missing"), .str q0.1]) = true := okD_tup.mpr ⟨by show 2 ≤ 200000; decide, fun d m => by
    rcases List.mem_cons.mp m with rfl | m
    · decide +kernel
    · rw [List.mem_singleton.mp m]; exact okD_ln hq0.l⟩
  have sm := ok_shaped om (by decide : 9 ≤ 64)
  refine ⟨.tuple [.str (Str.ofString "missing"), .str q0.1], .tuple [.str (Str.ofString "missing"), .str q0.1], (ru.kp0 km).dp, (Rq.tup upd_same (.cons (.str _) (.cons (.str _) .nil)) : Rq _ (.ref pm) _).dp, sm, sm, ?_⟩
  rw [okD_eqv om]
  exact q _
end
open PySem.Spec PyProof.Rows in
theorem all_mk {l : PySem.W.OpenLaw} {q : Program} {lo : List Str} {mean : ExcName → Option Value} {w : World} {K : PySem.W.Frag} {h : Heap} {mg mb : Str → Option Value} {fa : Addr} (T : Top q lo mean mg mb h) (X : K.In h) (G : h.Ns mainGlobals mg) (hfa : mg "law" = some (.ref fa))
    {C_Search : Addr} (aC_Search : PySem.W.nsIn K mainGlobals "Search" = some (some (.ref C_Search)))
    (pg_Search : PySem.W.plainGet K C_Search Str.empty = true)
    (hd_Search : PySem.W.hasDictIn K C_Search = true)
    (po_Search : PySem.W.plainOver K C_Search = true)
    (sa_Search : PySem.W.findIn K (.ref C_Search) "__setattr__" = some (some (.builtin "object.__setattr__")))
    (mk_Search : PySem.W.makesIn K C_Search = true)
    (kc_Search : PySem.W.keepIn K (.ref C_Search) = true)
    (na_shelf_Search : PySem.W.findIn K (.ref C_Search) "_shelf" = some none)
    (na_path_Search : PySem.W.findIn K (.ref C_Search) "_path" = some none)
    (na_waiting_Search : PySem.W.findIn K (.ref C_Search) "_waiting" = some none)
    (na_seen_Search : PySem.W.findIn K (.ref C_Search) "_seen" = some none)
    (na_result_Search : PySem.W.findIn K (.ref C_Search) "_result" = some none)
    {oc0 kV0 doc0 pm0 cd0 ct0 : Value} {od0 an0 : Option Addr} {sl0 : Array (Option Value)} {f0 : Addr}
    (a0 : PySem.W.nsIn K mainGlobals "is_list_name" = some (some (.ref f0)))
    (l0 : K.lookup f0 = some ⟨oc0, od0, .func (PySem.W.fnOf "is_list_name" "is_list_name" (defArgs s_is_list_name) (defBody s_is_list_name) (defScope s_is_list_name) .none kV0 doc0 pm0 an0 cd0 ct0), sl0⟩) (cc0 : PySem.W.codeIn K cd0 "is_list_name" = true) (k0 : PySem.W.keepIn K (.ref f0) = true)
    {oc1 kV1 doc1 pm1 cd1 ct1 : Value} {od1 an1 : Option Addr} {sl1 : Array (Option Value)} {f1 : Addr}
    (a1 : PySem.W.nsIn K mainGlobals "is_key" = some (some (.ref f1)))
    (l1 : K.lookup f1 = some ⟨oc1, od1, .func (PySem.W.fnOf "is_key" "is_key" (defArgs s_is_key) (defBody s_is_key) (defScope s_is_key) .none kV1 doc1 pm1 an1 cd1 ct1), sl1⟩) (cc1 : PySem.W.codeIn K cd1 "is_key" = true) (k1 : PySem.W.keepIn K (.ref f1) = true)
    {oc2 kV2 doc2 pm2 cd2 ct2 : Value} {od2 an2 : Option Addr} {sl2 : Array (Option Value)} {f2 : Addr}
    (a2 : PySem.W.nsIn K mainGlobals "is_path" = some (some (.ref f2)))
    (l2 : K.lookup f2 = some ⟨oc2, od2, .func (PySem.W.fnOf "is_path" "is_path" (defArgs s_is_path) (defBody s_is_path) (defScope s_is_path) .none kV2 doc2 pm2 an2 cd2 ct2), sl2⟩) (cc2 : PySem.W.codeIn K cd2 "is_path" = true) (k2 : PySem.W.keepIn K (.ref f2) = true)
    {oc3 kV3 doc3 pm3 cd3 ct3 : Value} {od3 an3 : Option Addr} {sl3 : Array (Option Value)} {f3 : Addr}
    (a3 : PySem.W.nsIn K mainGlobals "is_pattern" = some (some (.ref f3)))
    (l3 : K.lookup f3 = some ⟨oc3, od3, .func (PySem.W.fnOf "is_pattern" "is_pattern" (defArgs s_is_pattern) (defBody s_is_pattern) (defScope s_is_pattern) .none kV3 doc3 pm3 an3 cd3 ct3), sl3⟩) (cc3 : PySem.W.codeIn K cd3 "is_pattern" = true) (k3 : PySem.W.keepIn K (.ref f3) = true)
    {oc4 kV4 doc4 pm4 cd4 ct4 : Value} {od4 an4 : Option Addr} {sl4 : Array (Option Value)} {f4 : Addr}
    (a4 : PySem.W.nsIn K mainGlobals "matches" = some (some (.ref f4)))
    (l4 : K.lookup f4 = some ⟨oc4, od4, .func (PySem.W.fnOf "matches" "matches" (defArgs s_matches) (defBody s_matches) (defScope s_matches) .none kV4 doc4 pm4 an4 cd4 ct4), sl4⟩) (cc4 : PySem.W.codeIn K cd4 "matches" = true) (k4 : PySem.W.keepIn K (.ref f4) = true)
    {oc5 kV5 doc5 pm5 cd5 ct5 : Value} {od5 an5 : Option Addr} {sl5 : Array (Option Value)} {f5 : Addr}
    (a5 : PySem.W.nsIn K mainGlobals "ascends" = some (some (.ref f5)))
    (l5 : K.lookup f5 = some ⟨oc5, od5, .func (PySem.W.fnOf "ascends" "ascends" (defArgs s_ascends) (defBody s_ascends) (defScope s_ascends) .none kV5 doc5 pm5 an5 cd5 ct5), sl5⟩) (cc5 : PySem.W.codeIn K cd5 "ascends" = true) (k5 : PySem.W.keepIn K (.ref f5) = true)
    {oc6 kV6 doc6 pm6 ct6 : Value} {od6 an6 : Option Addr} {sl6 : Array (Option Value)} {c6 Pt6 f6 : Addr}
    (a6 : PySem.W.nsIn K mainGlobals "_consists_of" = some (some (.ref f6)))
    (l6 : K.lookup f6 = some ⟨oc6, od6, .func (PySem.W.fnOf "_consists_of" "_consists_of" (defArgs s_consists_of) (defBody s_consists_of) (defScope s_consists_of) .none kV6 doc6 pm6 an6 (.ref c6) ct6), sl6⟩) (cc6 : PySem.W.codeIn K (.ref c6) "_consists_of" = true) (k6 : PySem.W.keepIn K (.ref f6) = true)
    {oc7 kV7 doc7 pm7 ct7 : Value} {od7 an7 : Option Addr} {sl7 : Array (Option Value)} {c7 Pt7 f7 : Addr}
    (a7 : PySem.W.nsIn K mainGlobals "_has_parts_of" = some (some (.ref f7)))
    (l7 : K.lookup f7 = some ⟨oc7, od7, .func (PySem.W.fnOf "_has_parts_of" "_has_parts_of" (defArgs s_has_parts_of) (defBody s_has_parts_of) (defScope s_has_parts_of) .none kV7 doc7 pm7 an7 (.ref c7) ct7), sl7⟩) (cc7 : PySem.W.codeIn K (.ref c7) "_has_parts_of" = true) (k7 : PySem.W.keepIn K (.ref f7) = true)
    {oc8 kV8 doc8 pm8 cd8 ct8 : Value} {od8 an8 : Option Addr} {sl8 : Array (Option Value)} {f8 : Addr}
    (a8 : PySem.W.nsIn K mainGlobals "_part_matches" = some (some (.ref f8)))
    (l8 : K.lookup f8 = some ⟨oc8, od8, .func (PySem.W.fnOf "_part_matches" "_part_matches" (defArgs s_part_matches) (defBody s_part_matches) (defScope s_part_matches) .none kV8 doc8 pm8 an8 cd8 ct8), sl8⟩) (cc8 : PySem.W.codeIn K cd8 "_part_matches" = true) (k8 : PySem.W.keepIn K (.ref f8) = true)
    {oc9 kV9 doc9 pm9 cd9 ct9 : Value} {od9 an9 : Option Addr} {sl9 : Array (Option Value)} {f9 : Addr}
    (a9 : PySem.W.nsIn K mainGlobals "_stand_in_order" = some (some (.ref f9)))
    (l9 : K.lookup f9 = some ⟨oc9, od9, .func (PySem.W.fnOf "_stand_in_order" "_stand_in_order" (defArgs s_stand_in_order) (defBody s_stand_in_order) (defScope s_stand_in_order) .none kV9 doc9 pm9 an9 cd9 ct9), sl9⟩) (cc9 : PySem.W.codeIn K cd9 "_stand_in_order" = true) (k9 : PySem.W.keepIn K (.ref f9) = true)
    {oc10 kV10 doc10 pm10 cd10 ct10 : Value} {od10 an10 : Option Addr} {sl10 : Array (Option Value)} {f10 : Addr}
    (a10 : PySem.W.nsIn K mainGlobals "is_integer" = some (some (.ref f10)))
    (l10 : K.lookup f10 = some ⟨oc10, od10, .func (PySem.W.fnOf "is_integer" "is_integer" (defArgs s_is_integer) (defBody s_is_integer) (defScope s_is_integer) .none kV10 doc10 pm10 an10 cd10 ct10), sl10⟩) (cc10 : PySem.W.codeIn K cd10 "is_integer" = true) (k10 : PySem.W.keepIn K (.ref f10) = true)
    {oc11 kV11 doc11 pm11 ct11 : Value} {od11 an11 : Option Addr} {sl11 : Array (Option Value)} {c11 Pt11 f11 : Addr}
    (a11 : PySem.W.nsIn K mainGlobals "is_role" = some (some (.ref f11)))
    (l11 : K.lookup f11 = some ⟨oc11, od11, .func (PySem.W.fnOf "is_role" "is_role" (defArgs s_is_role) (defBody s_is_role) (defScope s_is_role) .none kV11 doc11 pm11 an11 (.ref c11) ct11), sl11⟩) (cc11 : PySem.W.codeIn K (.ref c11) "is_role" = true) (k11 : PySem.W.keepIn K (.ref f11) = true)
    {oc12 kV12 doc12 pm12 ct12 : Value} {od12 an12 : Option Addr} {sl12 : Array (Option Value)} {c12 Pt12 f12 : Addr}
    (a12 : PySem.W.nsIn K mainGlobals "is_digest" = some (some (.ref f12)))
    (l12 : K.lookup f12 = some ⟨oc12, od12, .func (PySem.W.fnOf "is_digest" "is_digest" (defArgs s_is_digest) (defBody s_is_digest) (defScope s_is_digest) .none kV12 doc12 pm12 an12 (.ref c12) ct12), sl12⟩) (cc12 : PySem.W.codeIn K (.ref c12) "is_digest" = true) (k12 : PySem.W.keepIn K (.ref f12) = true)
    {oc13 kV13 doc13 pm13 ct13 : Value} {od13 an13 : Option Addr} {sl13 : Array (Option Value)} {c13 Pt13 f13 : Addr}
    (a13 : PySem.W.nsIn K mainGlobals "is_grant" = some (some (.ref f13)))
    (l13 : K.lookup f13 = some ⟨oc13, od13, .func (PySem.W.fnOf "is_grant" "is_grant" (defArgs s_is_grant) (defBody s_is_grant) (defScope s_is_grant) .none kV13 doc13 pm13 an13 (.ref c13) ct13), sl13⟩) (cc13 : PySem.W.codeIn K (.ref c13) "is_grant" = true) (k13 : PySem.W.keepIn K (.ref f13) = true)
    {oc14 kV14 doc14 pm14 ct14 : Value} {od14 an14 : Option Addr} {sl14 : Array (Option Value)} {c14 Pt14 f14 : Addr}
    (a14 : PySem.W.nsIn K mainGlobals "is_list" = some (some (.ref f14)))
    (l14 : K.lookup f14 = some ⟨oc14, od14, .func (PySem.W.fnOf "is_list" "is_list" (defArgs s_is_list) (defBody s_is_list) (defScope s_is_list) .none kV14 doc14 pm14 an14 (.ref c14) ct14), sl14⟩) (cc14 : PySem.W.codeIn K (.ref c14) "is_list" = true) (k14 : PySem.W.keepIn K (.ref f14) = true)
    {oc15 kV15 doc15 pm15 cd15 ct15 : Value} {od15 an15 : Option Addr} {sl15 : Array (Option Value)} {f15 : Addr}
    (a15 : PySem.W.nsIn K mainGlobals "is_amount" = some (some (.ref f15)))
    (l15 : K.lookup f15 = some ⟨oc15, od15, .func (PySem.W.fnOf "is_amount" "is_amount" (defArgs s_is_amount) (defBody s_is_amount) (defScope s_is_amount) .none kV15 doc15 pm15 an15 cd15 ct15), sl15⟩) (cc15 : PySem.W.codeIn K cd15 "is_amount" = true) (k15 : PySem.W.keepIn K (.ref f15) = true)
    {oc16 kV16 doc16 pm16 ct16 : Value} {od16 an16 : Option Addr} {sl16 : Array (Option Value)} {c16 Pt16 f16 : Addr}
    (a16 : PySem.W.nsIn K mainGlobals "covers" = some (some (.ref f16)))
    (l16 : K.lookup f16 = some ⟨oc16, od16, .func (PySem.W.fnOf "covers" "covers" (defArgs s_covers) (defBody s_covers) (defScope s_covers) .none kV16 doc16 pm16 an16 (.ref c16) ct16), sl16⟩) (cc16 : PySem.W.codeIn K (.ref c16) "covers" = true) (k16 : PySem.W.keepIn K (.ref f16) = true)
    {oc17 kV17 doc17 pm17 cd17 ct17 : Value} {od17 an17 : Option Addr} {sl17 : Array (Option Value)} {f17 : Addr}
    (a17 : PySem.W.nsIn K mainGlobals "good_of" = some (some (.ref f17)))
    (l17 : K.lookup f17 = some ⟨oc17, od17, .func (PySem.W.fnOf "good_of" "good_of" (defArgs s_good_of) (defBody s_good_of) (defScope s_good_of) .none kV17 doc17 pm17 an17 cd17 ct17), sl17⟩) (cc17 : PySem.W.codeIn K cd17 "good_of" = true) (k17 : PySem.W.keepIn K (.ref f17) = true)
    {oc18 kV18 doc18 pm18 cd18 ct18 : Value} {od18 an18 : Option Addr} {sl18 : Array (Option Value)} {f18 : Addr}
    (a18 : PySem.W.nsIn K mainGlobals "entry_of" = some (some (.ref f18)))
    (l18 : K.lookup f18 = some ⟨oc18, od18, .func (PySem.W.fnOf "entry_of" "entry_of" (defArgs s_entry_of) (defBody s_entry_of) (defScope s_entry_of) .none kV18 doc18 pm18 an18 cd18 ct18), sl18⟩) (cc18 : PySem.W.codeIn K cd18 "entry_of" = true) (k18 : PySem.W.keepIn K (.ref f18) = true)
    {oc19 kV19 doc19 pm19 cd19 ct19 : Value} {od19 an19 : Option Addr} {sl19 : Array (Option Value)} {f19 : Addr}
    (a19 : PySem.W.nsIn K mainGlobals "_is_tuple_of" = some (some (.ref f19)))
    (l19 : K.lookup f19 = some ⟨oc19, od19, .func (PySem.W.fnOf "_is_tuple_of" "_is_tuple_of" (defArgs s_is_tuple_of) (defBody s_is_tuple_of) (defScope s_is_tuple_of) .none kV19 doc19 pm19 an19 cd19 ct19), sl19⟩) (cc19 : PySem.W.codeIn K cd19 "_is_tuple_of" = true) (k19 : PySem.W.keepIn K (.ref f19) = true)
    {oc20 kV20 doc20 pm20 cd20 ct20 : Value} {od20 an20 : Option Addr} {sl20 : Array (Option Value)} {f20 : Addr}
    (a20 : PySem.W.nsIn K mainGlobals "_is_tuple_within" = some (some (.ref f20)))
    (l20 : K.lookup f20 = some ⟨oc20, od20, .func (PySem.W.fnOf "_is_tuple_within" "_is_tuple_within" (defArgs s_is_tuple_within) (defBody s_is_tuple_within) (defScope s_is_tuple_within) .none kV20 doc20 pm20 an20 cd20 ct20), sl20⟩) (cc20 : PySem.W.codeIn K cd20 "_is_tuple_within" = true) (k20 : PySem.W.keepIn K (.ref f20) = true)
    {oc21 kV21 doc21 pm21 cd21 ct21 : Value} {od21 an21 : Option Addr} {sl21 : Array (Option Value)} {f21 : Addr}
    (a21 : PySem.W.nsIn K mainGlobals "_is_headed" = some (some (.ref f21)))
    (l21 : K.lookup f21 = some ⟨oc21, od21, .func (PySem.W.fnOf "_is_headed" "_is_headed" (defArgs s_is_headed) (defBody s_is_headed) (defScope s_is_headed) .none kV21 doc21 pm21 an21 cd21 ct21), sl21⟩) (cc21 : PySem.W.codeIn K cd21 "_is_headed" = true) (k21 : PySem.W.keepIn K (.ref f21) = true)
    {oc22 kV22 doc22 pm22 cd22 ct22 : Value} {od22 an22 : Option Addr} {sl22 : Array (Option Value)} {f22 : Addr}
    (a22 : PySem.W.nsIn K mainGlobals "_is_version" = some (some (.ref f22)))
    (l22 : K.lookup f22 = some ⟨oc22, od22, .func (PySem.W.fnOf "_is_version" "_is_version" (defArgs s_is_version) (defBody s_is_version) (defScope s_is_version) .none kV22 doc22 pm22 an22 cd22 ct22), sl22⟩) (cc22 : PySem.W.codeIn K cd22 "_is_version" = true) (k22 : PySem.W.keepIn K (.ref f22) = true)
    {oc23 kV23 doc23 pm23 cd23 ct23 : Value} {od23 an23 : Option Addr} {sl23 : Array (Option Value)} {f23 : Addr}
    (a23 : PySem.W.nsIn K mainGlobals "_is_good" = some (some (.ref f23)))
    (l23 : K.lookup f23 = some ⟨oc23, od23, .func (PySem.W.fnOf "_is_good" "_is_good" (defArgs s_is_good) (defBody s_is_good) (defScope s_is_good) .none kV23 doc23 pm23 an23 cd23 ct23), sl23⟩) (cc23 : PySem.W.codeIn K cd23 "_is_good" = true) (k23 : PySem.W.keepIn K (.ref f23) = true)
    {oc24 kV24 doc24 pm24 cd24 ct24 : Value} {od24 an24 : Option Addr} {sl24 : Array (Option Value)} {f24 : Addr}
    (a24 : PySem.W.nsIn K mainGlobals "_behind_name" = some (some (.ref f24)))
    (l24 : K.lookup f24 = some ⟨oc24, od24, .func (PySem.W.fnOf "_behind_name" "_behind_name" (defArgs s_behind_name) (defBody s_behind_name) (defScope s_behind_name) .none kV24 doc24 pm24 an24 cd24 ct24), sl24⟩) (cc24 : PySem.W.codeIn K cd24 "_behind_name" = true) (k24 : PySem.W.keepIn K (.ref f24) = true)
    {oc25 kV25 doc25 pm25 cd25 ct25 : Value} {od25 an25 : Option Addr} {sl25 : Array (Option Value)} {f25 : Addr}
    (a25 : PySem.W.nsIn K mainGlobals "role_of" = some (some (.ref f25)))
    (l25 : K.lookup f25 = some ⟨oc25, od25, .func (PySem.W.fnOf "role_of" "role_of" (defArgs s_role_of) (defBody s_role_of) (defScope s_role_of) .none kV25 doc25 pm25 an25 cd25 ct25), sl25⟩) (cc25 : PySem.W.codeIn K cd25 "role_of" = true) (k25 : PySem.W.keepIn K (.ref f25) = true)
    {oc26 kV26 doc26 pm26 cd26 ct26 : Value} {od26 an26 : Option Addr} {sl26 : Array (Option Value)} {f26 : Addr}
    (a26 : PySem.W.findIn K (.ref C_Search) "__init__" = some (some (.ref f26))) (i26 : PySem.W.isFn K (.ref f26) = true)
    (l26 : K.lookup f26 = some ⟨oc26, od26, .func (PySem.W.fnOf "__init__" "Search.__init__" (defArgs s_Search___init) (defBody s_Search___init) (defScope s_Search___init) .none kV26 doc26 pm26 an26 cd26 ct26), sl26⟩) (cc26 : PySem.W.codeIn K cd26 "Search.__init__" = true) (k26 : PySem.W.keepIn K (.ref f26) = true)
    {oc27 kV27 doc27 pm27 cd27 ct27 : Value} {od27 an27 : Option Addr} {sl27 : Array (Option Value)} {f27 : Addr}
    (a27 : PySem.W.findIn K (.ref C_Search) "wanted" = some (some (.ref f27))) (i27 : PySem.W.isFn K (.ref f27) = true)
    (l27 : K.lookup f27 = some ⟨oc27, od27, .func (PySem.W.fnOf "wanted" "Search.wanted" (defArgs s_Search_wanted) (defBody s_Search_wanted) (defScope s_Search_wanted) .none kV27 doc27 pm27 an27 cd27 ct27), sl27⟩) (cc27 : PySem.W.codeIn K cd27 "Search.wanted" = true) (k27 : PySem.W.keepIn K (.ref f27) = true)
    {oc28 kV28 doc28 pm28 cd28 ct28 : Value} {od28 an28 : Option Addr} {sl28 : Array (Option Value)} {f28 : Addr}
    (a28 : PySem.W.findIn K (.ref C_Search) "give" = some (some (.ref f28))) (i28 : PySem.W.isFn K (.ref f28) = true)
    (l28 : K.lookup f28 = some ⟨oc28, od28, .func (PySem.W.fnOf "give" "Search.give" (defArgs s_Search_give) (defBody s_Search_give) (defScope s_Search_give) .none kV28 doc28 pm28 an28 cd28 ct28), sl28⟩) (cc28 : PySem.W.codeIn K cd28 "Search.give" = true) (k28 : PySem.W.keepIn K (.ref f28) = true)
    {oc29 kV29 doc29 pm29 cd29 ct29 : Value} {od29 an29 : Option Addr} {sl29 : Array (Option Value)} {f29 : Addr}
    (a29 : PySem.W.findIn K (.ref C_Search) "result" = some (some (.ref f29))) (i29 : PySem.W.isFn K (.ref f29) = true)
    (l29 : K.lookup f29 = some ⟨oc29, od29, .func (PySem.W.fnOf "result" "Search.result" (defArgs s_Search_result) (defBody s_Search_result) (defScope s_Search_result) .none kV29 doc29 pm29 an29 cd29 ct29), sl29⟩) (cc29 : PySem.W.codeIn K cd29 "Search.result" = true) (k29 : PySem.W.keepIn K (.ref f29) = true)
    {oc30 kV30 doc30 pm30 cd30 ct30 : Value} {od30 an30 : Option Addr} {sl30 : Array (Option Value)} {f30 : Addr}
    (a30 : PySem.W.findIn K (.ref C_Search) "_follow" = some (some (.ref f30))) (i30 : PySem.W.isFn K (.ref f30) = true)
    (l30 : K.lookup f30 = some ⟨oc30, od30, .func (PySem.W.fnOf "_follow" "Search._follow" (defArgs s_Search__follow) (defBody s_Search__follow) (defScope s_Search__follow) .none kV30 doc30 pm30 an30 cd30 ct30), sl30⟩) (cc30 : PySem.W.codeIn K cd30 "Search._follow" = true) (k30 : PySem.W.keepIn K (.ref f30) = true)
    {oc31 kV31 doc31 pm31 cd31 ct31 : Value} {od31 an31 : Option Addr} {sl31 : Array (Option Value)} {f31 : Addr}
    (a31 : PySem.W.findIn K (.ref C_Search) "_leads_on" = some (some (.ref f31))) (i31 : PySem.W.isFn K (.ref f31) = true)
    (l31 : K.lookup f31 = some ⟨oc31, od31, .func (PySem.W.fnOf "_leads_on" "Search._leads_on" (defArgs s_Search__leads_on) (defBody s_Search__leads_on) (defScope s_Search__leads_on) .none kV31 doc31 pm31 an31 cd31 ct31), sl31⟩) (cc31 : PySem.W.codeIn K cd31 "Search._leads_on" = true) (k31 : PySem.W.keepIn K (.ref f31) = true)
    {oc32 kV32 doc32 pm32 cd32 ct32 : Value} {od32 an32 : Option Addr} {sl32 : Array (Option Value)} {f32 : Addr}
    (a32 : PySem.W.nsIn K mainGlobals "lookup" = some (some (.ref f32)))
    (l32 : K.lookup f32 = some ⟨oc32, od32, .func (PySem.W.fnOf "lookup" "lookup" (defArgs s_lookup) (defBody s_lookup) (defScope s_lookup) .none kV32 doc32 pm32 an32 cd32 ct32), sl32⟩) (cc32 : PySem.W.codeIn K cd32 "lookup" = true) (k32 : PySem.W.keepIn K (.ref f32) = true)
    {oc33 kV33 doc33 pm33 cd33 ct33 : Value} {od33 an33 : Option Addr} {sl33 : Array (Option Value)} {f33 : Addr}
    (a33 : PySem.W.nsIn K mainGlobals "_law_cell" = some (some (.ref f33)))
    (l33 : K.lookup f33 = some ⟨oc33, od33, .func (PySem.W.fnOf "_law_cell" "_law_cell" (defArgs s_law_cell) (defBody s_law_cell) (defScope s_law_cell) .none kV33 doc33 pm33 an33 cd33 ct33), sl33⟩) (cc33 : PySem.W.codeIn K cd33 "_law_cell" = true) (k33 : PySem.W.keepIn K (.ref f33) = true)
    {oc34 kV34 doc34 pm34 cd34 ct34 : Value} {od34 an34 : Option Addr} {sl34 : Array (Option Value)} {f34 : Addr}
    (a34 : PySem.W.nsIn K mainGlobals "_law_draws" = some (some (.ref f34)))
    (l34 : K.lookup f34 = some ⟨oc34, od34, .func (PySem.W.fnOf "_law_draws" "_law_draws" (defArgs s_law_draws) (defBody s_law_draws) (defScope s_law_draws) .none kV34 doc34 pm34 an34 cd34 ct34), sl34⟩) (cc34 : PySem.W.codeIn K cd34 "_law_draws" = true) (k34 : PySem.W.keepIn K (.ref f34) = true)
    {oc35 kV35 doc35 pm35 cd35 ct35 : Value} {od35 an35 : Option Addr} {sl35 : Array (Option Value)} {f35 : Addr}
    (a35 : PySem.W.nsIn K mainGlobals "_law_names" = some (some (.ref f35)))
    (l35 : K.lookup f35 = some ⟨oc35, od35, .func (PySem.W.fnOf "_law_names" "_law_names" (defArgs s_law_names) (defBody s_law_names) (defScope s_law_names) .none kV35 doc35 pm35 an35 cd35 ct35), sl35⟩) (cc35 : PySem.W.codeIn K cd35 "_law_names" = true) (k35 : PySem.W.keepIn K (.ref f35) = true)
    {oc36 kV36 doc36 pm36 cd36 ct36 : Value} {od36 an36 : Option Addr} {sl36 : Array (Option Value)} {f36 : Addr}
    (a36 : PySem.W.nsIn K mainGlobals "_law_path" = some (some (.ref f36)))
    (l36 : K.lookup f36 = some ⟨oc36, od36, .func (PySem.W.fnOf "_law_path" "_law_path" (defArgs s_law_path) (defBody s_law_path) (defScope s_law_path) .none kV36 doc36 pm36 an36 cd36 ct36), sl36⟩) (cc36 : PySem.W.codeIn K cd36 "_law_path" = true) (k36 : PySem.W.keepIn K (.ref f36) = true)
    {oc37 kV37 doc37 pm37 cd37 ct37 : Value} {od37 an37 : Option Addr} {sl37 : Array (Option Value)} {f37 : Addr}
    (a37 : PySem.W.nsIn K mainGlobals "_law_patterns" = some (some (.ref f37)))
    (l37 : K.lookup f37 = some ⟨oc37, od37, .func (PySem.W.fnOf "_law_patterns" "_law_patterns" (defArgs s_law_patterns) (defBody s_law_patterns) (defScope s_law_patterns) .none kV37 doc37 pm37 an37 cd37 ct37), sl37⟩) (cc37 : PySem.W.codeIn K cd37 "_law_patterns" = true) (k37 : PySem.W.keepIn K (.ref f37) = true)
    {oc38 kV38 doc38 pm38 cd38 ct38 : Value} {od38 an38 : Option Addr} {sl38 : Array (Option Value)} {f38 : Addr}
    (a38 : PySem.W.nsIn K mainGlobals "_law_covers" = some (some (.ref f38)))
    (l38 : K.lookup f38 = some ⟨oc38, od38, .func (PySem.W.fnOf "_law_covers" "_law_covers" (defArgs s_law_covers) (defBody s_law_covers) (defScope s_law_covers) .none kV38 doc38 pm38 an38 cd38 ct38), sl38⟩) (cc38 : PySem.W.codeIn K cd38 "_law_covers" = true) (k38 : PySem.W.keepIn K (.ref f38) = true)
    {oc39 kV39 doc39 pm39 cd39 ct39 : Value} {od39 an39 : Option Addr} {sl39 : Array (Option Value)} {f39 : Addr}
    (a39 : PySem.W.nsIn K mainGlobals "_law_fits" = some (some (.ref f39)))
    (l39 : K.lookup f39 = some ⟨oc39, od39, .func (PySem.W.fnOf "_law_fits" "_law_fits" (defArgs s_law_fits) (defBody s_law_fits) (defScope s_law_fits) .none kV39 doc39 pm39 an39 cd39 ct39), sl39⟩) (cc39 : PySem.W.codeIn K cd39 "_law_fits" = true) (k39 : PySem.W.keepIn K (.ref f39) = true)
    {oc40 kV40 doc40 pm40 cd40 ct40 : Value} {od40 an40 : Option Addr} {sl40 : Array (Option Value)} {f40 : Addr}
    (a40 : PySem.W.nsIn K mainGlobals "_law_list" = some (some (.ref f40)))
    (l40 : K.lookup f40 = some ⟨oc40, od40, .func (PySem.W.fnOf "_law_list" "_law_list" (defArgs s_law_list) (defBody s_law_list) (defScope s_law_list) .none kV40 doc40 pm40 an40 cd40 ct40), sl40⟩) (cc40 : PySem.W.codeIn K cd40 "_law_list" = true) (k40 : PySem.W.keepIn K (.ref f40) = true)
    {oc41 kV41 doc41 pm41 cd41 ct41 : Value} {od41 an41 : Option Addr} {sl41 : Array (Option Value)} {f41 : Addr}
    (a41 : PySem.W.nsIn K mainGlobals "_law_walk" = some (some (.ref f41)))
    (l41 : K.lookup f41 = some ⟨oc41, od41, .func (PySem.W.fnOf "_law_walk" "_law_walk" (defArgs s_law_walk) (defBody s_law_walk) (defScope s_law_walk) .none kV41 doc41 pm41 an41 cd41 ct41), sl41⟩) (cc41 : PySem.W.codeIn K cd41 "_law_walk" = true) (k41 : PySem.W.keepIn K (.ref f41) = true)
    {oc42 kV42 doc42 pm42 cd42 ct42 : Value} {od42 an42 : Option Addr} {sl42 : Array (Option Value)} {f42 : Addr}
    (a42 : PySem.W.nsIn K mainGlobals "_law_refused" = some (some (.ref f42)))
    (l42 : K.lookup f42 = some ⟨oc42, od42, .func (PySem.W.fnOf "_law_refused" "_law_refused" (defArgs s_law_refused) (defBody s_law_refused) (defScope s_law_refused) .none kV42 doc42 pm42 an42 cd42 ct42), sl42⟩) (cc42 : PySem.W.codeIn K cd42 "_law_refused" = true) (k42 : PySem.W.keepIn K (.ref f42) = true)
    {oc43 kV43 doc43 pm43 cd43 ct43 : Value} {od43 an43 : Option Addr} {sl43 : Array (Option Value)} {f43 : Addr}
    (a43 : PySem.W.nsIn K mainGlobals "law" = some (some (.ref f43)))
    (l43 : K.lookup f43 = some ⟨oc43, od43, .func (PySem.W.fnOf "law" "law" (defArgs s_law) (defBody s_law) (defScope s_law) .none kV43 doc43 pm43 an43 cd43 ct43), sl43⟩) (cc43 : PySem.W.codeIn K cd43 "law" = true) (k43 : PySem.W.keepIn K (.ref f43) = true)
    (z_len : PySem.W.nsIn K mainGlobals "len" = some none)
    (z_int : PySem.W.nsIn K mainGlobals "int" = some none)
    (z_str : PySem.W.nsIn K mainGlobals "str" = some none)
    (z_bool : PySem.W.nsIn K mainGlobals "bool" = some none)
    (z_list : PySem.W.nsIn K mainGlobals "list" = some none)
    (z_tuple : PySem.W.nsIn K mainGlobals "tuple" = some none)
    (z_range : PySem.W.nsIn K mainGlobals "range" = some none)
    (z_isinstance : PySem.W.nsIn K mainGlobals "isinstance" = some none)
    (z_ord : PySem.W.nsIn K mainGlobals "ord" = some none)
    (z_all : PySem.W.nsIn K mainGlobals "all" = some none)
    {t_LETTERS : Tok} (v_LETTERS : PySem.W.nsIn K mainGlobals "_LETTERS" = some (some (.str "abcdefghijklmnopqrstuvwxyz" t_LETTERS)))
    {t_DIGITS : Tok} (v_DIGITS : PySem.W.nsIn K mainGlobals "_DIGITS" = some (some (.str "0123456789" t_DIGITS)))
    {t_PART_MARKS : Tok} (v_PART_MARKS : PySem.W.nsIn K mainGlobals "_PART_MARKS" = some (some (.str "abcdefghijklmnopqrstuvwxyz0123456789_-." t_PART_MARKS)))
    {t_MOST_NAME : Tok} (v_MOST_NAME : PySem.W.nsIn K mainGlobals "_MOST_NAME" = some (some (.int 12 t_MOST_NAME)))
    {t_MOST_PARTS : Tok} (v_MOST_PARTS : PySem.W.nsIn K mainGlobals "_MOST_PARTS" = some (some (.int 6 t_MOST_PARTS)))
    {t_MOST_PATH : Tok} (v_MOST_PATH : PySem.W.nsIn K mainGlobals "MOST_PATH" = some (some (.int 60 t_MOST_PATH)))
    {t_MOST_KEYS : Tok} (v_MOST_KEYS : PySem.W.nsIn K mainGlobals "MOST_KEYS" = some (some (.int 16 t_MOST_KEYS)))
    {t_MOST_NUMBER : Tok} (v_MOST_NUMBER : PySem.W.nsIn K mainGlobals "MOST_NUMBER" = some (some (.int 1000000000000 t_MOST_NUMBER)))
    {t_DIGEST_LENGTH : Tok} (v_DIGEST_LENGTH : PySem.W.nsIn K mainGlobals "DIGEST_LENGTH" = some (some (.int 18 t_DIGEST_LENGTH)))
    {t_DIGEST_MARKS : Tok} (v_DIGEST_MARKS : PySem.W.nsIn K mainGlobals "_DIGEST_MARKS" = some (some (.str "0123456789abcdef" t_DIGEST_MARKS)))
    {t_MOST_PATTERNS : Tok} (v_MOST_PATTERNS : PySem.W.nsIn K mainGlobals "_MOST_PATTERNS" = some (some (.int 8 t_MOST_PATTERNS)))
    {t_MOST_GOODS : Tok} (v_MOST_GOODS : PySem.W.nsIn K mainGlobals "MOST_GOODS" = some (some (.int 64 t_MOST_GOODS)))
    {t_MOST_LISTS : Tok} (v_MOST_LISTS : PySem.W.nsIn K mainGlobals "MOST_LISTS" = some (some (.int 32 t_MOST_LISTS)))
    {t_TOP_LIST : Tok} (v_TOP_LIST : PySem.W.nsIn K mainGlobals "TOP_LIST" = some (some (.str "list" t_TOP_LIST)))
    {C_BadState : Addr} (g_BadState : PySem.W.nsIn K mainGlobals "BadState" = some (some (.ref C_BadState))) (e_BadState : PySem.W.excIn K C_BadState [.type "ValueError", .type "Exception", .type "BaseException", .type "object"] "ValueError.__new__" = true) (ke_BadState : PySem.W.keepIn K (.ref C_BadState) = true) (be_BadState : PySem.W.subIn K (.ref C_BadState) (.type "BaseException") = some true) (te_BadState : PySem.W.typeIn K (.ref C_BadState) = some (.type "type")) (ie_BadState : PySem.W.isClsIn K C_BadState = true) (se_BadState : PySem.W.subIn K (.ref C_BadState) (.ref C_BadState) = some true)
    {R_RN : Addr} {o_RN : Obj} {its_RN : Array Value} {n_RN : Nat} (g_RN : PySem.W.nsIn K mainGlobals "_ROLE_NAMES" = some (some (.ref R_RN))) (lo_RN : K.lookup R_RN = some o_RN) (cl_RN : o_RN.cls = .type "tuple") (di_RN : o_RN.dict = none) (da_RN : o_RN.data = .seq its_RN n_RN) (sz_RN : its_RN.size ≤ sizeLine) (va_RN : Vals (rnm.map V.str) its_RN.toList)
    (z_sorted : PySem.W.nsIn K mainGlobals "sorted" = some none) (z_set : PySem.W.nsIn K mainGlobals "set" = some none) (z_any : PySem.W.nsIn K mainGlobals "any" = some none) (z_zip : PySem.W.nsIn K mainGlobals "zip" = some none) (z_abs : PySem.W.nsIn K mainGlobals "abs" = some none)
    {dd6 : DefRec} {cK6 : Value} {dc6 : Option Addr} {vs6 : Array Value} {sc6 : Array (Option Value)} (t1_6 : K.lookup c6 = some ⟨cK6, dc6, .fields vs6, sc6⟩) (u1_6 : vs6[11]? = some (.ref Pt6)) (n1_6 : K.lookup Pt6 = none) (r1_6 : (recsOf q).find? (fun e : DefRec => e.name == PySem.Str.ofString "_consists_of") = some dd6)
    {dd7 : DefRec} {cK7 : Value} {dc7 : Option Addr} {vs7 : Array Value} {sc7 : Array (Option Value)} (t1_7 : K.lookup c7 = some ⟨cK7, dc7, .fields vs7, sc7⟩) (u1_7 : vs7[11]? = some (.ref Pt7)) (n1_7 : K.lookup Pt7 = none) (r1_7 : (recsOf q).find? (fun e : DefRec => e.name == PySem.Str.ofString "_has_parts_of") = some dd7)
    {dd11 : DefRec} {cK11 : Value} {dc11 : Option Addr} {vs11 : Array Value} {sc11 : Array (Option Value)} (t1_11 : K.lookup c11 = some ⟨cK11, dc11, .fields vs11, sc11⟩) (u1_11 : vs11[11]? = some (.ref Pt11)) (n1_11 : K.lookup Pt11 = none) (r1_11 : (recsOf q).find? (fun e : DefRec => e.name == PySem.Str.ofString "is_role") = some dd11)
    {dd12 : DefRec} {cK12 : Value} {dc12 : Option Addr} {vs12 : Array Value} {sc12 : Array (Option Value)} (t1_12 : K.lookup c12 = some ⟨cK12, dc12, .fields vs12, sc12⟩) (u1_12 : vs12[11]? = some (.ref Pt12)) (n1_12 : K.lookup Pt12 = none) (r1_12 : (recsOf q).find? (fun e : DefRec => e.name == PySem.Str.ofString "is_digest") = some dd12)
    {dd13 : DefRec} {cK13 : Value} {dc13 : Option Addr} {vs13 : Array Value} {sc13 : Array (Option Value)} (t1_13 : K.lookup c13 = some ⟨cK13, dc13, .fields vs13, sc13⟩) (u1_13 : vs13[11]? = some (.ref Pt13)) (n1_13 : K.lookup Pt13 = none) (r1_13 : (recsOf q).find? (fun e : DefRec => e.name == PySem.Str.ofString "is_grant") = some dd13)
    {dd14 : DefRec} {cK14 : Value} {dc14 : Option Addr} {vs14 : Array Value} {sc14 : Array (Option Value)} (t1_14 : K.lookup c14 = some ⟨cK14, dc14, .fields vs14, sc14⟩) (u1_14 : vs14[11]? = some (.ref Pt14)) (n1_14 : K.lookup Pt14 = none) (r1_14 : (recsOf q).find? (fun e : DefRec => e.name == PySem.Str.ofString "is_list") = some dd14)
    {dd16 : DefRec} {cK16 : Value} {dc16 : Option Addr} {vs16 : Array Value} {sc16 : Array (Option Value)} (t1_16 : K.lookup c16 = some ⟨cK16, dc16, .fields vs16, sc16⟩) (u1_16 : vs16[11]? = some (.ref Pt16)) (n1_16 : K.lookup Pt16 = none) (r1_16 : (recsOf q).find? (fun e : DefRec => e.name == PySem.Str.ofString "covers") = some dd16) :
    LamX.LawAtS l w K CX0 18 63 "script" mg fa h := by
  have e := hfa.symm.trans (PySem.W.mg_of X G a43)
  cases e
  have F0 := fun_mk (st := s_is_list_name) l0 cc0 k0
  have b0 := F0.binds (ps := ["value"]) fun _ _ _ _ _ _ us hl => match us, hl with | [_], _ => rfl
  have F1 := fun_mk (st := s_is_key) l1 cc1 k1
  have b1 := F1.binds (ps := ["value"]) fun _ _ _ _ _ _ us hl => match us, hl with | [_], _ => rfl
  have F2 := fun_mk (st := s_is_path) l2 cc2 k2
  have b2 := F2.binds (ps := ["value"]) fun _ _ _ _ _ _ us hl => match us, hl with | [_], _ => rfl
  have F3 := fun_mk (st := s_is_pattern) l3 cc3 k3
  have b3 := F3.binds (ps := ["value"]) fun _ _ _ _ _ _ us hl => match us, hl with | [_], _ => rfl
  have F4 := fun_mk (st := s_matches) l4 cc4 k4
  have b4 := F4.binds (ps := ["pattern", "path"]) fun _ _ _ _ _ _ us hl => match us, hl with | [_, _], _ => rfl
  have F5 := fun_mk (st := s_ascends) l5 cc5 k5
  have b5 := F5.binds (ps := ["names"]) fun _ _ _ _ _ _ us hl => match us, hl with | [_], _ => rfl
  have F6 := fun_mk (st := s_consists_of) l6 cc6 k6
  have b6 := F6.binds (ps := ["text", "marks"]) fun _ _ _ _ _ _ us hl => match us, hl with | [_, _], _ => rfl
  have F7 := fun_mk (st := s_has_parts_of) l7 cc7 k7
  have b7 := F7.binds (ps := ["value", "marks"]) fun _ _ _ _ _ _ us hl => match us, hl with | [_, _], _ => rfl
  have F8 := fun_mk (st := s_part_matches) l8 cc8 k8
  have b8 := F8.binds (ps := ["pattern", "part"]) fun _ _ _ _ _ _ us hl => match us, hl with | [_, _], _ => rfl
  have F9 := fun_mk (st := s_stand_in_order) l9 cc9 k9
  have b9 := F9.binds (ps := ["pieces", "text"]) fun _ _ _ _ _ _ us hl => match us, hl with | [_, _], _ => rfl
  have F10 := fun_mk (st := s_is_integer) l10 cc10 k10
  have b10 := F10.binds (ps := ["value", "least", "greatest"]) fun _ _ _ _ _ _ us hl => match us, hl with | [_, _, _], _ => rfl
  have F11 := fun_mk (st := s_is_role) l11 cc11 k11
  have b11 := F11.binds (ps := ["value"]) fun _ _ _ _ _ _ us hl => match us, hl with | [_], _ => rfl
  have F12 := fun_mk (st := s_is_digest) l12 cc12 k12
  have b12 := F12.binds (ps := ["value"]) fun _ _ _ _ _ _ us hl => match us, hl with | [_], _ => rfl
  have F13 := fun_mk (st := s_is_grant) l13 cc13 k13
  have b13 := F13.binds (ps := ["value"]) fun _ _ _ _ _ _ us hl => match us, hl with | [_], _ => rfl
  have F14 := fun_mk (st := s_is_list) l14 cc14 k14
  have b14 := F14.binds (ps := ["value"]) fun _ _ _ _ _ _ us hl => match us, hl with | [_], _ => rfl
  have F15 := fun_mk (st := s_is_amount) l15 cc15 k15
  have b15 := F15.binds (ps := ["value"]) fun _ _ _ _ _ _ us hl => match us, hl with | [_], _ => rfl
  have F16 := fun_mk (st := s_covers) l16 cc16 k16
  have b16 := F16.binds (ps := ["grant", "path"]) fun _ _ _ _ _ _ us hl => match us, hl with | [_, _], _ => rfl
  have F17 := fun_mk (st := s_good_of) l17 cc17 k17
  have b17 := F17.binds (ps := ["document", "path"]) fun _ _ _ _ _ _ us hl => match us, hl with | [_, _], _ => rfl
  have F18 := fun_mk (st := s_entry_of) l18 cc18 k18
  have b18 := F18.binds (ps := ["document", "name"]) fun _ _ _ _ _ _ us hl => match us, hl with | [_, _], _ => rfl
  have F19 := fun_mk (st := s_is_tuple_of) l19 cc19 k19
  have b19 := F19.binds (ps := ["value", "many"]) fun _ _ _ _ _ _ us hl => match us, hl with | [_, _], _ => rfl
  have F20 := fun_mk (st := s_is_tuple_within) l20 cc20 k20
  have b20 := F20.binds (ps := ["value", "least", "most"]) fun _ _ _ _ _ _ us hl => match us, hl with | [_, _, _], _ => rfl
  have F21 := fun_mk (st := s_is_headed) l21 cc21 k21
  have b21 := F21.binds (ps := ["value", "word", "many"]) fun _ _ _ _ _ _ us hl => match us, hl with | [_, _, _], _ => rfl
  have F22 := fun_mk (st := s_is_version) l22 cc22 k22
  have b22 := F22.binds (ps := ["value"]) fun _ _ _ _ _ _ us hl => match us, hl with | [_], _ => rfl
  have F23 := fun_mk (st := s_is_good) l23 cc23 k23
  have b23 := F23.binds (ps := ["value"]) fun _ _ _ _ _ _ us hl => match us, hl with | [_], _ => rfl
  have F24 := fun_mk (st := s_behind_name) l24 cc24 k24
  have b24 := F24.binds (ps := ["rows", "name"]) fun _ _ _ _ _ _ us hl => match us, hl with | [_, _], _ => rfl
  have F25 := fun_mk (st := s_role_of) l25 cc25 k25
  have b25 := F25.binds (ps := ["charter", "name"]) fun _ _ _ _ _ _ us hl => match us, hl with | [_, _], _ => rfl
  have F26 := fun_mk (st := s_Search___init) l26 cc26 k26
  have b26 := F26.binds (ps := ["self", "charter", "shelf", "path"]) fun _ _ _ _ _ _ us hl => match us, hl with | [_, _, _, _], _ => rfl
  have F27 := fun_mk (st := s_Search_wanted) l27 cc27 k27
  have b27 := F27.binds (ps := ["self"]) fun _ _ _ _ _ _ us hl => match us, hl with | [_], _ => rfl
  have F28 := fun_mk (st := s_Search_give) l28 cc28 k28
  have b28 := F28.binds (ps := ["self", "document"]) fun _ _ _ _ _ _ us hl => match us, hl with | [_, _], _ => rfl
  have F29 := fun_mk (st := s_Search_result) l29 cc29 k29
  have b29 := F29.binds (ps := ["self"]) fun _ _ _ _ _ _ us hl => match us, hl with | [_], _ => rfl
  have F30 := fun_mk (st := s_Search__follow) l30 cc30 k30
  have b30 := F30.binds (ps := ["self", "grants"]) fun _ _ _ _ _ _ us hl => match us, hl with | [_, _], _ => rfl
  have F31 := fun_mk (st := s_Search__leads_on) l31 cc31 k31
  have b31 := F31.binds (ps := ["self", "grant"]) fun _ _ _ _ _ _ us hl => match us, hl with | [_, _], _ => rfl
  have F32 := fun_mk (st := s_lookup) l32 cc32 k32
  have b32 := F32.binds (ps := ["charter", "shelf", "lists", "path"]) fun _ _ _ _ _ _ us hl => match us, hl with | [_, _, _, _], _ => rfl
  have F33 := fun_mk (st := s_law_cell) l33 cc33 k33
  have b33 := F33.binds (ps := ["script", "k"]) fun _ _ _ _ _ _ us hl => match us, hl with | [_, _], _ => rfl
  have F34 := fun_mk (st := s_law_draws) l34 cc34 k34
  have b34 := F34.binds (ps := ["script", "start", "most"]) fun _ _ _ _ _ _ us hl => match us, hl with | [_, _, _], _ => rfl
  have F35 := fun_mk (st := s_law_names) l35 cc35 k35
  have b35 := F35.binds (ps := []) fun _ _ _ _ _ _ us hl => match us, hl with | [], _ => rfl
  have F36 := fun_mk (st := s_law_path) l36 cc36 k36
  have b36 := F36.binds (ps := ["number"]) fun _ _ _ _ _ _ us hl => match us, hl with | [_], _ => rfl
  have F37 := fun_mk (st := s_law_patterns) l37 cc37 k37
  have b37 := F37.binds (ps := ["number"]) fun _ _ _ _ _ _ us hl => match us, hl with | [_], _ => rfl
  have F38 := fun_mk (st := s_law_covers) l38 cc38 k38
  have b38 := F38.binds (ps := ["patterns", "path"]) fun _ _ _ _ _ _ us hl => match us, hl with | [_, _], _ => rfl
  have F39 := fun_mk (st := s_law_fits) l39 cc39 k39
  have b39 := F39.binds (ps := ["mark", "part"]) fun _ _ _ _ _ _ us hl => match us, hl with | [_, _], _ => rfl
  have F40 := fun_mk (st := s_law_list) l40 cc40 k40
  have b40 := F40.binds (ps := ["name", "number", "key"]) fun _ _ _ _ _ _ us hl => match us, hl with | [_, _, _], _ => rfl
  have F41 := fun_mk (st := s_law_walk) l41 cc41 k41
  have b41 := F41.binds (ps := ["role", "lists", "named", "path"]) fun _ _ _ _ _ _ us hl => match us, hl with | [_, _, _, _], _ => rfl
  have F42 := fun_mk (st := s_law_refused) l42 cc42 k42
  have b42 := F42.binds (ps := ["search", "document"]) fun _ _ _ _ _ _ us hl => match us, hl with | [_, _], _ => rfl
  have F43 := fun_mk (st := s_law) l43 cc43 k43
  have b43 := F43.binds (ps := ["script"]) fun _ _ _ _ _ _ us hl => match us, hl with | [_], _ => rfl
  have B : Blt mg := ⟨PySem.W.mg_none_of X G z_len, PySem.W.mg_none_of X G z_int, PySem.W.mg_none_of X G z_str, PySem.W.mg_none_of X G z_bool, PySem.W.mg_none_of X G z_list, PySem.W.mg_none_of X G z_tuple, PySem.W.mg_none_of X G z_range, PySem.W.mg_none_of X G z_isinstance, PySem.W.mg_none_of X G z_ord, PySem.W.mg_none_of X G z_all⟩
  have cl_Search : Cls K C_Search := ⟨pg_Search, hd_Search, po_Search, sa_Search⟩
  have E_BadState : Err K mg "BadState" C_BadState := ⟨PySem.W.mg_of X G g_BadState, e_BadState, ke_BadState, be_BadState, te_BadState, ie_BadState, se_BadState⟩
  obtain ⟨hC6, hP6⟩ := tab_mk T X r1_6 a6 l6 rfl t1_6 u1_6
  obtain ⟨hC7, hP7⟩ := tab_mk T X r1_7 a7 l7 rfl t1_7 u1_7
  obtain ⟨hC11, hP11⟩ := tab_mk T X r1_11 a11 l11 rfl t1_11 u1_11
  obtain ⟨hC12, hP12⟩ := tab_mk T X r1_12 a12 l12 rfl t1_12 u1_12
  obtain ⟨hC13, hP13⟩ := tab_mk T X r1_13 a13 l13 rfl t1_13 u1_13
  obtain ⟨hC14, hP14⟩ := tab_mk T X r1_14 a14 l14 rfl t1_14 u1_14
  obtain ⟨hC16, hP16⟩ := tab_mk T X r1_16 a16 l16 rfl t1_16 u1_16
  have each : ∀ {φ : Addr × Addr → Prop}, φ (c6, Pt6) → φ (c7, Pt7) → φ (c11, Pt11) → φ (c12, Pt12) → φ (c13, Pt13) → φ (c14, Pt14) → φ (c16, Pt16) → ∀ p ∈ ([(c6, Pt6), (c7, Pt7), (c11, Pt11), (c12, Pt12), (c13, Pt13), (c14, Pt14), (c16, Pt16)] : List (Addr × Addr)), φ p := fun h6 h7 h11 h12 h13 h14 h16 p hp => by
    simp only [List.mem_cons, List.not_mem_nil, or_false] at hp
    rcases hp with rfl | rfl | rfl | rfl | rfl | rfl | rfl
    · exact h6
    · exact h7
    · exact h11
    · exact h12
    · exact h13
    · exact h14
    · exact h16
  have eachT : ∀ {φ : Addr → Prop}, φ Pt6 → φ Pt7 → φ Pt11 → φ Pt12 → φ Pt13 → φ Pt14 → φ Pt16 → ∀ p ∈ ([Pt6, Pt7, Pt11, Pt12, Pt13, Pt14, Pt16] : List Addr), φ p := fun h6 h7 h11 h12 h13 h14 h16 p hp => by
    simp only [List.mem_cons, List.not_mem_nil, or_false] at hp
    rcases hp with rfl | rfl | rfl | rfl | rfl | rfl | rfl
    · exact h6
    · exact h7
    · exact h11
    · exact h12
    · exact h13
    · exact h14
    · exact h16
  have m_Pt6 : Pt6 ∈ ([Pt6, Pt7, Pt11, Pt12, Pt13, Pt14, Pt16] : List Addr) := List.mem_cons_self
  have m_Pt7 : Pt7 ∈ ([Pt6, Pt7, Pt11, Pt12, Pt13, Pt14, Pt16] : List Addr) := List.mem_cons_of_mem _ (List.mem_cons_self)
  have m_Pt11 : Pt11 ∈ ([Pt6, Pt7, Pt11, Pt12, Pt13, Pt14, Pt16] : List Addr) := List.mem_cons_of_mem _ (List.mem_cons_of_mem _ (List.mem_cons_self))
  have m_Pt12 : Pt12 ∈ ([Pt6, Pt7, Pt11, Pt12, Pt13, Pt14, Pt16] : List Addr) := List.mem_cons_of_mem _ (List.mem_cons_of_mem _ (List.mem_cons_of_mem _ (List.mem_cons_self)))
  have m_Pt13 : Pt13 ∈ ([Pt6, Pt7, Pt11, Pt12, Pt13, Pt14, Pt16] : List Addr) := List.mem_cons_of_mem _ (List.mem_cons_of_mem _ (List.mem_cons_of_mem _ (List.mem_cons_of_mem _ (List.mem_cons_self))))
  have m_Pt14 : Pt14 ∈ ([Pt6, Pt7, Pt11, Pt12, Pt13, Pt14, Pt16] : List Addr) := List.mem_cons_of_mem _ (List.mem_cons_of_mem _ (List.mem_cons_of_mem _ (List.mem_cons_of_mem _ (List.mem_cons_of_mem _ (List.mem_cons_self)))))
  have m_Pt16 : Pt16 ∈ ([Pt6, Pt7, Pt11, Pt12, Pt13, Pt14, Pt16] : List Addr) := List.mem_cons_of_mem _ (List.mem_cons_of_mem _ (List.mem_cons_of_mem _ (List.mem_cons_of_mem _ (List.mem_cons_of_mem _ (List.mem_cons_of_mem _ (List.mem_cons_self))))))
  refine ⟨PySem.W.fnOf "law" "law" (defArgs s_law) (defBody s_law) (defScope s_law) .none kV43 doc43 pm43 an43 cd43 ct43, [(c6, Pt6), (c7, Pt7), (c11, Pt11), (c12, Pt12), (c13, Pt13), (c14, Pt14), (c16, Pt16)], spLaw33 K ([Pt6, Pt7, Pt11, Pt12, Pt13, Pt14, Pt16]), each hP6 hP7 hP11 hP12 hP13 hP14 hP16, each n1_6 n1_7 n1_11 n1_12 n1_13 n1_14 n1_16, each hC6 hC7 hC11 hC12 hC13 hC14 hC16, fun s v => .of_eq rfl, fun H a ns hl hb ht hS => ?_, fun base KB GB TBs => ?_⟩
  · have g : Tabs ([Pt6, Pt7, Pt11, Pt12, Pt13, Pt14, Pt16]) H := eachT ⟨#[], ht (c6, Pt6) (List.mem_cons_self), True.intro⟩ ⟨#[], ht (c7, Pt7) (List.mem_cons_of_mem _ (List.mem_cons_self)), True.intro⟩ ⟨#[], ht (c11, Pt11) (List.mem_cons_of_mem _ (List.mem_cons_of_mem _ (List.mem_cons_self))), True.intro⟩ ⟨#[], ht (c12, Pt12) (List.mem_cons_of_mem _ (List.mem_cons_of_mem _ (List.mem_cons_of_mem _ (List.mem_cons_self)))), True.intro⟩ ⟨#[], ht (c13, Pt13) (List.mem_cons_of_mem _ (List.mem_cons_of_mem _ (List.mem_cons_of_mem _ (List.mem_cons_of_mem _ (List.mem_cons_self))))), True.intro⟩ ⟨#[], ht (c14, Pt14) (List.mem_cons_of_mem _ (List.mem_cons_of_mem _ (List.mem_cons_of_mem _ (List.mem_cons_of_mem _ (List.mem_cons_of_mem _ (List.mem_cons_self)))))), True.intro⟩ ⟨#[], ht (c16, Pt16) (List.mem_cons_of_mem _ (List.mem_cons_of_mem _ (List.mem_cons_of_mem _ (List.mem_cons_of_mem _ (List.mem_cons_of_mem _ (List.mem_cons_of_mem _ (List.mem_cons_self))))))), True.intro⟩
    exact ⟨a, ns, rfl, hS, g, hl, fun _ => rfl⟩
  have TB6 : GxR.TabB base mg c6 Pt6 := let z := TBs (c6, Pt6) (List.mem_cons_self); ⟨z.code, z.bm, z.gP⟩
  have TB7 : GxR.TabB base mg c7 Pt7 := let z := TBs (c7, Pt7) (List.mem_cons_of_mem _ (List.mem_cons_self)); ⟨z.code, z.bm, z.gP⟩
  have TB11 : GxR.TabB base mg c11 Pt11 := let z := TBs (c11, Pt11) (List.mem_cons_of_mem _ (List.mem_cons_of_mem _ (List.mem_cons_self))); ⟨z.code, z.bm, z.gP⟩
  have TB12 : GxR.TabB base mg c12 Pt12 := let z := TBs (c12, Pt12) (List.mem_cons_of_mem _ (List.mem_cons_of_mem _ (List.mem_cons_of_mem _ (List.mem_cons_self)))); ⟨z.code, z.bm, z.gP⟩
  have TB13 : GxR.TabB base mg c13 Pt13 := let z := TBs (c13, Pt13) (List.mem_cons_of_mem _ (List.mem_cons_of_mem _ (List.mem_cons_of_mem _ (List.mem_cons_of_mem _ (List.mem_cons_self))))); ⟨z.code, z.bm, z.gP⟩
  have TB14 : GxR.TabB base mg c14 Pt14 := let z := TBs (c14, Pt14) (List.mem_cons_of_mem _ (List.mem_cons_of_mem _ (List.mem_cons_of_mem _ (List.mem_cons_of_mem _ (List.mem_cons_of_mem _ (List.mem_cons_self)))))); ⟨z.code, z.bm, z.gP⟩
  have TB16 : GxR.TabB base mg c16 Pt16 := let z := TBs (c16, Pt16) (List.mem_cons_of_mem _ (List.mem_cons_of_mem _ (List.mem_cons_of_mem _ (List.mem_cons_of_mem _ (List.mem_cons_of_mem _ (List.mem_cons_of_mem _ (List.mem_cons_self))))))); ⟨z.code, z.bm, z.gP⟩
  have DN : NmC mg := ⟨⟨_, PySem.W.mg_of X G v_DIGITS⟩, ⟨_, PySem.W.mg_of X G v_MOST_NAME⟩⟩
  have DD : DcC mg := ⟨⟨_, PySem.W.mg_of X G v_MOST_KEYS⟩⟩
  have c_is_integer : Cal l.prog w K mg base CX0 (1) "is_integer" (spIntg) := ⟨⟨f10, _, _, ok_integer F10 B, PySem.W.mg_of X G a10, k10, b10⟩⟩
  have c_consists_of : Cal l.prog w K mg base CX0 (3) "_consists_of" (spCons Pt6) := ⟨⟨f6, _, _, ok_consists B TB6 l6 cc6, PySem.W.mg_of X G a6, k6, b6⟩⟩
  have c_is_key : Cal l.prog w K mg base CX0 (4) "is_key" (spNm kyV Pt6) := ⟨⟨f1, _, _, ok_key F1 B DN c_consists_of, PySem.W.mg_of X G a1, k1, b1⟩⟩
  have c_ascends : Cal l.prog w K mg base CX0 (1) "ascends" (spAsc K) := ⟨⟨f5, _, _, ok_asc F5 B (PySem.W.mg_none_of X G z_sorted) (PySem.W.mg_none_of X G z_set), PySem.W.mg_of X G a5, k5, b5⟩⟩
  have c_is_tuple_of : Cal l.prog w K mg base CX0 (1) "_is_tuple_of" (spTOf) := ⟨⟨f19, _, _, ok_tof F19 B, PySem.W.mg_of X G a19, k19, b19⟩⟩
  have c_is_tuple_within : Cal l.prog w K mg base CX0 (1) "_is_tuple_within" (spTIn) := ⟨⟨f20, _, _, ok_tin F20 B, PySem.W.mg_of X G a20, k20, b20⟩⟩
  have c_is_role : Cal l.prog w K mg base CX0 (8) "is_role" (spDoc isRole ([Pt6, Pt7, Pt11, Pt12, Pt13, Pt14, Pt16])) := ⟨⟨f11, _, _, ok_role B TB11 DD m_Pt11 m_Pt6 l11 cc11 c_is_tuple_of c_is_tuple_within c_is_key c_ascends c_is_integer, PySem.W.mg_of X G a11, k11, b11⟩⟩
  have DH : DhC mg := ⟨⟨_, PySem.W.mg_of X G v_MOST_NUMBER⟩⟩
  have c_is_headed : Cal l.prog w K mg base CX0 (2) "_is_headed" (spHead) := ⟨⟨f21, _, _, ok_headed F21 B c_is_tuple_of, PySem.W.mg_of X G a21, k21, b21⟩⟩
  have c_is_version : Cal l.prog w K mg base CX0 (2) "_is_version" (spNumP 1) := ⟨⟨f22, _, _, ok_version F22 B DH c_is_integer, PySem.W.mg_of X G a22, k22, b22⟩⟩
  have c_is_amount : Cal l.prog w K mg base CX0 (2) "is_amount" (spNumP 0) := ⟨⟨f15, _, _, ok_amount F15 B DH c_is_integer, PySem.W.mg_of X G a15, k15, b15⟩⟩
  have DP : PaC mg := ⟨⟨_, PySem.W.mg_of X G v_MOST_PATH⟩, ⟨_, PySem.W.mg_of X G v_MOST_PARTS⟩, ⟨_, PySem.W.mg_of X G v_PART_MARKS⟩⟩
  have DGR : DgrC mg := ⟨⟨_, PySem.W.mg_of X G v_MOST_PATTERNS⟩, ⟨_, PySem.W.mg_of X G v_TOP_LIST⟩⟩
  have DLS : DlsC mg := ⟨⟨_, PySem.W.mg_of X G v_MOST_GOODS⟩, ⟨_, PySem.W.mg_of X G v_MOST_LISTS⟩⟩
  have DSH : DshC mg := ⟨⟨_, PySem.W.mg_of X G v_MOST_LISTS⟩, ⟨_, PySem.W.mg_of X G v_TOP_LIST⟩⟩
  have c_is_list_name : Cal l.prog w K mg base CX0 (4) "is_list_name" (spNm lnV Pt6) := ⟨⟨f0, _, _, ok_list_name F0 B DN ⟨_, PySem.W.mg_of X G v_LETTERS⟩ c_consists_of, PySem.W.mg_of X G a0, k0, b0⟩⟩
  have c_has_parts_of : Cal l.prog w K mg base CX0 (6) "_has_parts_of" (spPartsOf ([Pt6, Pt7, Pt11, Pt12, Pt13, Pt14, Pt16])) := ⟨⟨f7, _, _, ok_parts_of B TB7 DP m_Pt7 m_Pt6 l7 cc7 c_consists_of, PySem.W.mg_of X G a7, k7, b7⟩⟩
  have c_is_pattern : Cal l.prog w K mg base CX0 (7) "is_pattern" (spPa ptM ([Pt6, Pt7, Pt11, Pt12, Pt13, Pt14, Pt16])) := ⟨⟨f3, _, _, ok_pattern F3 B DP c_has_parts_of, PySem.W.mg_of X G a3, k3, b3⟩⟩
  have c_is_path : Cal l.prog w K mg base CX0 (7) "is_path" (spPa paM ([Pt6, Pt7, Pt11, Pt12, Pt13, Pt14, Pt16])) := ⟨⟨f2, _, _, ok_path F2 B DP c_has_parts_of, PySem.W.mg_of X G a2, k2, b2⟩⟩
  have c_is_grant : Cal l.prog w K mg base CX0 (11) "is_grant" (spDoc isGrant ([Pt6, Pt7, Pt11, Pt12, Pt13, Pt14, Pt16])) := ⟨⟨f13, _, _, ok_grant B TB13 DGR m_Pt13 m_Pt6 l13 cc13 c_is_tuple_of c_is_tuple_within c_is_list_name c_is_role c_is_pattern c_is_integer, PySem.W.mg_of X G a13, k13, b13⟩⟩
  have DG : DdC mg := ⟨⟨_, PySem.W.mg_of X G v_DIGEST_LENGTH⟩, ⟨_, PySem.W.mg_of X G v_DIGEST_MARKS⟩⟩
  have c_is_digest : Cal l.prog w K mg base CX0 (3) "is_digest" (spDoc isDig ([Pt6, Pt7, Pt11, Pt12, Pt13, Pt14, Pt16])) := ⟨⟨f12, _, _, ok_digestD B TB12 DG m_Pt12 l12 cc12, PySem.W.mg_of X G a12, k12, b12⟩⟩
  have c_is_good : Cal l.prog w K mg base CX0 (8) "_is_good" (spDoc isGood ([Pt6, Pt7, Pt11, Pt12, Pt13, Pt14, Pt16])) := ⟨⟨f23, _, _, ok_good F23 B c_is_tuple_of c_is_path c_is_amount c_is_digest, PySem.W.mg_of X G a23, k23, b23⟩⟩
  have c_is_list : Cal l.prog w K mg base CX0 (15) "is_list" (spDoc isList ([Pt6, Pt7, Pt11, Pt12, Pt13, Pt14, Pt16])) := ⟨⟨f14, _, _, ok_list B (PySem.W.mg_none_of X G z_sorted) TB14 DLS m_Pt14 m_Pt6 l14 cc14 c_is_headed c_is_list_name c_is_version c_is_amount c_is_tuple_within c_is_good c_is_grant c_ascends, PySem.W.mg_of X G a14, k14, b14⟩⟩
  have c_stand_in_order : Cal l.prog w K mg base CX0 (1) "_stand_in_order" (spStand K) := ⟨⟨f9, _, _, ok_stand F9 B, PySem.W.mg_of X G a9, k9, b9⟩⟩
  have c_part_matches : Cal l.prog w K mg base CX0 (2) "_part_matches" (spPartM) := ⟨⟨f8, _, _, ok_part F8 B c_stand_in_order, PySem.W.mg_of X G a8, k8, b8⟩⟩
  have c_matches : Cal l.prog w K mg base CX0 (3) "matches" (spMatches) := ⟨⟨f4, _, _, ok_matches F4 B (PySem.W.mg_none_of X G z_zip) c_part_matches, PySem.W.mg_of X G a4, k4, b4⟩⟩
  have RN : RnC K mg R_RN := ⟨PySem.W.mg_of X G g_RN, ⟨o_RN, its_RN, n_RN, lo_RN, cl_RN, di_RN, da_RN, sz_RN, va_RN⟩⟩
  have c_role_of : Cal l.prog w K mg base CX0 (1) "role_of" (spRoleOf) := ⟨⟨f25, _, _, ok_roleof F25 RN, PySem.W.mg_of X G a25, k25, b25⟩⟩
  have DSR : SrC K mg C_Search C_BadState := ⟨cl_Search, na_shelf_Search, na_path_Search, na_waiting_Search, na_seen_Search, na_result_Search, E_BadState⟩
  have DSM : SrM mg := ⟨⟨_, PySem.W.mg_of X G v_TOP_LIST⟩, ⟨_, PySem.W.mg_of X G v_MOST_LISTS⟩⟩
  have c_behind_name : Cal l.prog w K mg base CX0 (1) "_behind_name" (spBehind) := ⟨⟨f24, _, _, ok_behind F24 B, PySem.W.mg_of X G a24, k24, b24⟩⟩
  have c_entry_of : Cal l.prog w K mg base CX0 (2) "entry_of" (spOf 3) := ⟨⟨f18, _, _, ok_entry_of F18 B c_behind_name, PySem.W.mg_of X G a18, k18, b18⟩⟩
  have c_good_of : Cal l.prog w K mg base CX0 (2) "good_of" (spOf 4) := ⟨⟨f17, _, _, ok_good_of F17 B c_behind_name, PySem.W.mg_of X G a17, k17, b17⟩⟩
  have c_covers : Cal l.prog w K mg base CX0 (6) "covers" (spCovers ([Pt6, Pt7, Pt11, Pt12, Pt13, Pt14, Pt16])) := ⟨⟨f16, _, _, ok_covers B (PySem.W.mg_none_of X G z_any) TB16 m_Pt16 l16 cc16 c_matches, PySem.W.mg_of X G a16, k16, b16⟩⟩
  have k_Search : CalK l.prog w K mg base CX0 (2) C_Search "Search" (spSInit C_Search) := ⟨⟨f26, _, _, ok_sinit F26 B DSR DSM c_role_of, ⟨mk_Search, a26, i26, kc_Search⟩, b26⟩, PySem.W.mg_of X G aC_Search⟩
  have m_Search_wanted : CalM l.prog w K mg base CX0 (1) C_Search "wanted" (spSWant C_Search) := ⟨⟨f27, _, _, ok_swanted F27 B DSR, ⟨a27, i27, k27⟩, b27⟩, cl_Search⟩
  have m_Search_result : CalM l.prog w K mg base CX0 (1) C_Search "result" (spSRes C_Search) := ⟨⟨f29, _, _, ok_sresult F29 B DSR, ⟨a29, i29, k29⟩, b29⟩, cl_Search⟩
  have m_Search_leads_on : CalM l.prog w K mg base CX0 (7) C_Search "_leads_on" (spSLead C_Search ([Pt6, Pt7, Pt11, Pt12, Pt13, Pt14, Pt16])) := ⟨⟨f31, _, _, ok_sleads F31 B DSR c_entry_of c_covers, ⟨a31, i31, k31⟩, b31⟩, cl_Search⟩
  have m_Search_follow : CalM l.prog w K mg base CX0 (8) C_Search "_follow" (spSFol C_Search ([Pt6, Pt7, Pt11, Pt12, Pt13, Pt14, Pt16])) := ⟨⟨f30, _, _, ok_sfollow F30 B DSR m_Search_leads_on, ⟨a30, i30, k30⟩, b30⟩, cl_Search⟩
  have m_Search_give : CalM l.prog w K mg base (L2.CX l.prog w) (16) C_Search "give" (spSGive C_Search C_BadState ([Pt6, Pt7, Pt11, Pt12, Pt13, Pt14, Pt16])) := ⟨⟨f28, _, _, ok_sgive F28 B DSR DSM c_is_list c_good_of m_Search_follow, ⟨a28, i28, k28⟩, b28⟩, cl_Search⟩
  have c_lookup : Cal l.prog w K mg base CX0 (17) "lookup" (spLook ([Pt6, Pt7, Pt11, Pt12, Pt13, Pt14, Pt16])) := ⟨⟨f32, _, _, ok_lookup F32 B k_Search m_Search_wanted m_Search_result m_Search_give, PySem.W.mg_of X G a32, k32, b32⟩⟩
  have c_law_cell : Cal l.prog w K mg base CX0 (1) "_law_cell" (spCellA K) := ⟨⟨f33, _, _, ok_cellA F33 B (PySem.W.mg_none_of X G z_abs), PySem.W.mg_of X G a33, k33, b33⟩⟩
  have c_law_draws : Cal l.prog w K mg base CX0 (1) "_law_draws" (spDraws K) := ⟨⟨f34, _, _, ok_draws F34 B (PySem.W.mg_none_of X G z_abs), PySem.W.mg_of X G a34, k34, b34⟩⟩
  have c_law_names : Cal l.prog w K mg base CX0 (1) "_law_names" (spNms33) := ⟨⟨f35, _, _, ok_nms33 F35, PySem.W.mg_of X G a35, k35, b35⟩⟩
  have c_law_path : Cal l.prog w K mg base CX0 (1) "_law_path" (spPth33) := ⟨⟨f36, _, _, ok_pth33 F36, PySem.W.mg_of X G a36, k36, b36⟩⟩
  have c_law_patterns : Cal l.prog w K mg base CX0 (1) "_law_patterns" (spPat33) := ⟨⟨f37, _, _, ok_pat33 F37 B, PySem.W.mg_of X G a37, k37, b37⟩⟩
  have r_fits : ∀ n : Nat, Cal l.prog w K mg base CX0 (n) "_law_fits" (spFit33 n) := by
    intro n
    induction n with
    | zero => exact Cal.imp (⟨⟨f39, _, _, ok_never, PySem.W.mg_of X G a39, k39, b39⟩⟩ : Cal l.prog w K mg base CX0 (0) "_law_fits" (fun _ _ _ _ ↦ False)) fun _ _ _ _ h => by obtain ⟨a, b, _, h, _⟩ := h; omega
    | succ n ih => exact ⟨⟨f39, _, _, ok_fit33 F39 B (PySem.W.mg_none_of X G z_any) ih, PySem.W.mg_of X G a39, k39, b39⟩⟩
  have c_law_covers : Cal l.prog w K mg base CX0 (9) "_law_covers" (spCov33) := ⟨⟨f38, _, _, ok_cov33 F38 B (r_fits 8), PySem.W.mg_of X G a38, k38, b38⟩⟩
  have c_law_list : Cal l.prog w K mg base CX0 (2) "_law_list" (spLst33) := ⟨⟨f40, _, _, ok_llst33 F40 B (PySem.W.mg_none_of X G z_sorted) c_law_names c_law_path c_law_patterns, PySem.W.mg_of X G a40, k40, b40⟩⟩
  have c_law_walk : Cal l.prog w K mg base CX0 (10) "_law_walk" (spWalk33) := ⟨⟨f41, _, _, ok_lwalk33 F41 B c_law_covers, PySem.W.mg_of X G a41, k41, b41⟩⟩
  have c_law_refused : Cal l.prog w K mg base CX0 (17) "_law_refused" (spRef33 C_Search ([Pt6, Pt7, Pt11, Pt12, Pt13, Pt14, Pt16])) := ⟨⟨f42, _, _, ok_ref33 F42 B DSR m_Search_give, PySem.W.mg_of X G a42, k42, b42⟩⟩
  exact ok_law33 F43 B (PySem.W.mg_none_of X G z_sorted) DSR c_law_cell c_law_draws c_law_names c_law_path c_law_list c_law_walk c_law_refused k_Search m_Search_wanted m_Search_result m_Search_give c_lookup
def d_is_list_name : He.FnD := ⟨("is_list_name", none), "is_list_name", "is_list_name", defArgs s_is_list_name, defBody s_is_list_name, defScope s_is_list_name⟩
def d_is_key : He.FnD := ⟨("is_key", none), "is_key", "is_key", defArgs s_is_key, defBody s_is_key, defScope s_is_key⟩
def d_is_path : He.FnD := ⟨("is_path", none), "is_path", "is_path", defArgs s_is_path, defBody s_is_path, defScope s_is_path⟩
def d_is_pattern : He.FnD := ⟨("is_pattern", none), "is_pattern", "is_pattern", defArgs s_is_pattern, defBody s_is_pattern, defScope s_is_pattern⟩
def d_matches : He.FnD := ⟨("matches", none), "matches", "matches", defArgs s_matches, defBody s_matches, defScope s_matches⟩
def d_ascends : He.FnD := ⟨("ascends", none), "ascends", "ascends", defArgs s_ascends, defBody s_ascends, defScope s_ascends⟩
def d_consists_of : He.FnD := ⟨("_consists_of", none), "_consists_of", "_consists_of", defArgs s_consists_of, defBody s_consists_of, defScope s_consists_of⟩
def d_has_parts_of : He.FnD := ⟨("_has_parts_of", none), "_has_parts_of", "_has_parts_of", defArgs s_has_parts_of, defBody s_has_parts_of, defScope s_has_parts_of⟩
def d_part_matches : He.FnD := ⟨("_part_matches", none), "_part_matches", "_part_matches", defArgs s_part_matches, defBody s_part_matches, defScope s_part_matches⟩
def d_stand_in_order : He.FnD := ⟨("_stand_in_order", none), "_stand_in_order", "_stand_in_order", defArgs s_stand_in_order, defBody s_stand_in_order, defScope s_stand_in_order⟩
def d_is_integer : He.FnD := ⟨("is_integer", none), "is_integer", "is_integer", defArgs s_is_integer, defBody s_is_integer, defScope s_is_integer⟩
def d_is_role : He.FnD := ⟨("is_role", none), "is_role", "is_role", defArgs s_is_role, defBody s_is_role, defScope s_is_role⟩
def d_is_digest : He.FnD := ⟨("is_digest", none), "is_digest", "is_digest", defArgs s_is_digest, defBody s_is_digest, defScope s_is_digest⟩
def d_is_grant : He.FnD := ⟨("is_grant", none), "is_grant", "is_grant", defArgs s_is_grant, defBody s_is_grant, defScope s_is_grant⟩
def d_is_list : He.FnD := ⟨("is_list", none), "is_list", "is_list", defArgs s_is_list, defBody s_is_list, defScope s_is_list⟩
def d_is_amount : He.FnD := ⟨("is_amount", none), "is_amount", "is_amount", defArgs s_is_amount, defBody s_is_amount, defScope s_is_amount⟩
def d_covers : He.FnD := ⟨("covers", none), "covers", "covers", defArgs s_covers, defBody s_covers, defScope s_covers⟩
def d_good_of : He.FnD := ⟨("good_of", none), "good_of", "good_of", defArgs s_good_of, defBody s_good_of, defScope s_good_of⟩
def d_entry_of : He.FnD := ⟨("entry_of", none), "entry_of", "entry_of", defArgs s_entry_of, defBody s_entry_of, defScope s_entry_of⟩
def d_is_tuple_of : He.FnD := ⟨("_is_tuple_of", none), "_is_tuple_of", "_is_tuple_of", defArgs s_is_tuple_of, defBody s_is_tuple_of, defScope s_is_tuple_of⟩
def d_is_tuple_within : He.FnD := ⟨("_is_tuple_within", none), "_is_tuple_within", "_is_tuple_within", defArgs s_is_tuple_within, defBody s_is_tuple_within, defScope s_is_tuple_within⟩
def d_is_headed : He.FnD := ⟨("_is_headed", none), "_is_headed", "_is_headed", defArgs s_is_headed, defBody s_is_headed, defScope s_is_headed⟩
def d_is_version : He.FnD := ⟨("_is_version", none), "_is_version", "_is_version", defArgs s_is_version, defBody s_is_version, defScope s_is_version⟩
def d_is_good : He.FnD := ⟨("_is_good", none), "_is_good", "_is_good", defArgs s_is_good, defBody s_is_good, defScope s_is_good⟩
def d_behind_name : He.FnD := ⟨("_behind_name", none), "_behind_name", "_behind_name", defArgs s_behind_name, defBody s_behind_name, defScope s_behind_name⟩
def d_role_of : He.FnD := ⟨("role_of", none), "role_of", "role_of", defArgs s_role_of, defBody s_role_of, defScope s_role_of⟩
def d_Search___init : He.FnD := ⟨("Search", some "__init__"), "__init__", "Search.__init__", defArgs s_Search___init, defBody s_Search___init, defScope s_Search___init⟩
def d_Search_wanted : He.FnD := ⟨("Search", some "wanted"), "wanted", "Search.wanted", defArgs s_Search_wanted, defBody s_Search_wanted, defScope s_Search_wanted⟩
def d_Search_give : He.FnD := ⟨("Search", some "give"), "give", "Search.give", defArgs s_Search_give, defBody s_Search_give, defScope s_Search_give⟩
def d_Search_result : He.FnD := ⟨("Search", some "result"), "result", "Search.result", defArgs s_Search_result, defBody s_Search_result, defScope s_Search_result⟩
def d_Search__follow : He.FnD := ⟨("Search", some "_follow"), "_follow", "Search._follow", defArgs s_Search__follow, defBody s_Search__follow, defScope s_Search__follow⟩
def d_Search__leads_on : He.FnD := ⟨("Search", some "_leads_on"), "_leads_on", "Search._leads_on", defArgs s_Search__leads_on, defBody s_Search__leads_on, defScope s_Search__leads_on⟩
def d_lookup : He.FnD := ⟨("lookup", none), "lookup", "lookup", defArgs s_lookup, defBody s_lookup, defScope s_lookup⟩
def d_law_cell : He.FnD := ⟨("_law_cell", none), "_law_cell", "_law_cell", defArgs s_law_cell, defBody s_law_cell, defScope s_law_cell⟩
def d_law_draws : He.FnD := ⟨("_law_draws", none), "_law_draws", "_law_draws", defArgs s_law_draws, defBody s_law_draws, defScope s_law_draws⟩
def d_law_names : He.FnD := ⟨("_law_names", none), "_law_names", "_law_names", defArgs s_law_names, defBody s_law_names, defScope s_law_names⟩
def d_law_path : He.FnD := ⟨("_law_path", none), "_law_path", "_law_path", defArgs s_law_path, defBody s_law_path, defScope s_law_path⟩
def d_law_patterns : He.FnD := ⟨("_law_patterns", none), "_law_patterns", "_law_patterns", defArgs s_law_patterns, defBody s_law_patterns, defScope s_law_patterns⟩
def d_law_covers : He.FnD := ⟨("_law_covers", none), "_law_covers", "_law_covers", defArgs s_law_covers, defBody s_law_covers, defScope s_law_covers⟩
def d_law_fits : He.FnD := ⟨("_law_fits", none), "_law_fits", "_law_fits", defArgs s_law_fits, defBody s_law_fits, defScope s_law_fits⟩
def d_law_list : He.FnD := ⟨("_law_list", none), "_law_list", "_law_list", defArgs s_law_list, defBody s_law_list, defScope s_law_list⟩
def d_law_walk : He.FnD := ⟨("_law_walk", none), "_law_walk", "_law_walk", defArgs s_law_walk, defBody s_law_walk, defScope s_law_walk⟩
def d_law_refused : He.FnD := ⟨("_law_refused", none), "_law_refused", "_law_refused", defArgs s_law_refused, defBody s_law_refused, defScope s_law_refused⟩
def d_law : He.FnD := ⟨("law", none), "law", "law", defArgs s_law, defBody s_law, defScope s_law⟩
def fg0 : List He.FnD := [d_is_list_name, d_is_key, d_is_path, d_is_pattern, d_matches, d_ascends, d_consists_of, d_has_parts_of, d_part_matches, d_stand_in_order, d_is_integer, d_is_role]
def fg1 : List He.FnD := [d_is_digest, d_is_grant, d_is_list, d_is_amount, d_covers, d_good_of, d_entry_of, d_is_tuple_of, d_is_tuple_within, d_is_headed, d_is_version, d_is_good]
def fg2 : List He.FnD := [d_behind_name, d_role_of, d_Search___init, d_Search_wanted, d_Search_give, d_Search_result, d_Search__follow, d_Search__leads_on, d_lookup, d_law_cell, d_law_draws, d_law_names]
def fg3 : List He.FnD := [d_law_path, d_law_patterns, d_law_covers, d_law_fits, d_law_list, d_law_walk, d_law_refused, d_law]
def fgs : List (List He.FnD) := [fg0, fg1, fg2, fg3]
def tfs : List He.FnD := [d_consists_of, d_has_parts_of, d_is_role, d_is_digest, d_is_grant, d_is_list, d_covers]
noncomputable def xg0 : List (PySem.W.Frag → Bool) := [fun K => He.eqO (PySem.W.nsIn K mainGlobals "Search") (some (some (.ref (gA K "Search")))), fun K => PySem.W.plainGet K (gA K "Search") Str.empty, fun K => PySem.W.hasDictIn K (gA K "Search"), fun K => PySem.W.plainOver K (gA K "Search"), fun K => He.eqO (PySem.W.findIn K (.ref (gA K "Search")) "__setattr__") (some (some (.builtin "object.__setattr__"))), fun K => PySem.W.makesIn K (gA K "Search"), fun K => PySem.W.keepIn K (.ref (gA K "Search")), fun K => He.eqO (PySem.W.findIn K (.ref (gA K "Search")) "_shelf") (some none), fun K => He.eqO (PySem.W.findIn K (.ref (gA K "Search")) "_path") (some none), fun K => He.eqO (PySem.W.findIn K (.ref (gA K "Search")) "_waiting") (some none), fun K => He.eqO (PySem.W.findIn K (.ref (gA K "Search")) "_seen") (some none), fun K => He.eqO (PySem.W.findIn K (.ref (gA K "Search")) "_result") (some none)]
noncomputable def xg1 : List (PySem.W.Frag → Bool) := [fun K => He.eqO (PySem.W.nsIn K mainGlobals "len") (some none), fun K => He.eqO (PySem.W.nsIn K mainGlobals "int") (some none), fun K => He.eqO (PySem.W.nsIn K mainGlobals "str") (some none), fun K => He.eqO (PySem.W.nsIn K mainGlobals "bool") (some none), fun K => He.eqO (PySem.W.nsIn K mainGlobals "list") (some none), fun K => He.eqO (PySem.W.nsIn K mainGlobals "tuple") (some none), fun K => He.eqO (PySem.W.nsIn K mainGlobals "range") (some none), fun K => He.eqO (PySem.W.nsIn K mainGlobals "isinstance") (some none), fun K => He.eqO (PySem.W.nsIn K mainGlobals "ord") (some none), fun K => He.eqO (PySem.W.nsIn K mainGlobals "all") (some none), fun K => (He.Fa.str "_LETTERS" "abcdefghijklmnopqrstuvwxyz").ok K, fun K => (He.Fa.str "_DIGITS" "0123456789").ok K]
noncomputable def xg2 : List (PySem.W.Frag → Bool) := [fun K => (He.Fa.str "_PART_MARKS" "abcdefghijklmnopqrstuvwxyz0123456789_-.").ok K, fun K => (He.Fa.int "_MOST_NAME" (12)).ok K, fun K => (He.Fa.int "_MOST_PARTS" (6)).ok K, fun K => (He.Fa.int "MOST_PATH" (60)).ok K, fun K => (He.Fa.int "MOST_KEYS" (16)).ok K, fun K => (He.Fa.int "MOST_NUMBER" (1000000000000)).ok K, fun K => (He.Fa.int "DIGEST_LENGTH" (18)).ok K, fun K => (He.Fa.str "_DIGEST_MARKS" "0123456789abcdef").ok K, fun K => (He.Fa.int "_MOST_PATTERNS" (8)).ok K, fun K => (He.Fa.int "MOST_GOODS" (64)).ok K, fun K => (He.Fa.int "MOST_LISTS" (32)).ok K, fun K => (He.Fa.str "TOP_LIST" "list").ok K]
noncomputable def xg3 : List (PySem.W.Frag → Bool) := [fun K => He.eqO (PySem.W.nsIn K mainGlobals "BadState") (some (some (.ref (gA K "BadState")))), fun K => PySem.W.excIn K (gA K "BadState") [.type "ValueError", .type "Exception", .type "BaseException", .type "object"] "ValueError.__new__", fun K => PySem.W.keepIn K (.ref (gA K "BadState")), fun K => decide (PySem.W.subIn K (.ref (gA K "BadState")) (.type "BaseException") = some true), fun K => decide (PySem.W.typeIn K (.ref (gA K "BadState")) = some (.type "type")), fun K => PySem.W.isClsIn K (gA K "BadState"), fun K => decide (PySem.W.subIn K (.ref (gA K "BadState")) (.ref (gA K "BadState")) = some true), fun K => He.eqO (PySem.W.nsIn K mainGlobals "_ROLE_NAMES") (some (some (.ref (gA K "_ROLE_NAMES")))), fun K => strsB K (gA K "_ROLE_NAMES") rnm, fun K => He.eqO (PySem.W.nsIn K mainGlobals "sorted") (some none), fun K => He.eqO (PySem.W.nsIn K mainGlobals "set") (some none), fun K => He.eqO (PySem.W.nsIn K mainGlobals "any") (some none)]
noncomputable def xg4 : List (PySem.W.Frag → Bool) := [fun K => He.eqO (PySem.W.nsIn K mainGlobals "zip") (some none), fun K => He.eqO (PySem.W.nsIn K mainGlobals "abs") (some none)]
noncomputable def xgs : FxL := [xg0, xg1, xg2, xg3, xg4]
def nm0_ : List Str := ["DIGEST_LENGTH", "ChartError", "BadState", "MOST_NUMBER", "MOST_KEYS", "MOST_GOODS", "MOST_LISTS", "MOST_PATH", "_LETTERS", "_DIGITS", "_PART_MARKS", "_MOST_NAME"]
def nm1_ : List Str := ["_MOST_PARTS", "is_list_name", "is_key", "is_path", "is_pattern", "matches", "ascends", "_part_matches", "_stand_in_order", "is_integer", "TOP_LIST", "_DIGEST_MARKS"]
def nm2_ : List Str := ["_MOST_PATTERNS", "is_amount", "good_of", "entry_of", "_is_tuple_of", "_is_tuple_within", "_is_headed", "_is_version", "_is_good", "_behind_name", "_ROLE_NAMES", "role_of"]
def nm3_ : List Str := ["Search", "lookup", "_law_cell", "_law_draws", "_law_names", "_law_path", "_law_patterns", "_law_covers", "_law_fits", "_law_list", "_law_walk", "_law_refused"]
def nms_ : List Str := nm0_ ++ nm1_ ++ nm2_ ++ nm3_
abbrev Rr : PySem.W.OpenRow := PySem.W.OpenLaw.row PySem.Challenge.rw_sealchart_k33_search_by_the_rules
abbrev qv : Program := PySem.W.view Rr.prog [21, 22, 31, 32, 33, 34, 36, 62]
noncomputable abbrev hk : PySem.W.Hook := hookH xgs fgs tfs
noncomputable def ob (s : PySem.W.SharedT) : AlH := obsHG xgs fgs tfs (HandSHeadRun.getT s)
theorem ob_eq (s : PySem.W.SharedT) : ob s = hk.obs s.abs := obsHG_eq s
open PySem.W PySem.Calls in
set_option maxHeartbeats 0 in
theorem run_a (w : World) (os : OsState) : (HandSHeadRun.endF (HandSHeadRun.stepQ (HandSHeadRun.denQ HandSHeadRun.tabQ) Rr.prog w) 40000 Rr.prog w os).map (fun s => HandSHeadRun.looksF Rr.prog (boot_heap w.params) s.abs) = some true := by
  kernel_rfl
open PySem.W PySem.Calls in
set_option maxHeartbeats 0 in
theorem run_b (w : World) (os : OsState) : (HandSHeadRun.endF (HandSHeadRun.stepQ (HandSHeadRun.denQ HandSHeadRun.tabQ) Rr.prog w) 40000 Rr.prog w os).map (fun s => HandSHeadRun.seenQ qv nms_ (importedModules Rr.prog.main.body) (fun s => xlAt qv [] s && recOk Rr.toRowW.records s) s.abs) = some (openGood qv nms_) := by
  kernel_rfl
open PySem.W PySem.Calls in
set_option maxHeartbeats 0 in
theorem run_c (w : World) (os : OsState) : (HandSHeadRun.endF (HandSHeadRun.stepQ (HandSHeadRun.denQ HandSHeadRun.tabQ) Rr.prog w) 40000 Rr.prog w os).map (ob) = some (hk.val w) := by
  kernel_rfl
theorem run (w : World) : HandSHeadRun.RunEq Rr qv hk ob 40000 nms_ w := run_of3 (run_a w) (run_b w) (run_c w)
open PySem.Spec PyProof.Rows in
set_option maxHeartbeats 0 in
theorem all_hk {l : PySem.W.OpenLaw} {lo : List Str} {mean : ExcName → Option Value} {w : World} {K : PySem.W.Frag} {h : Heap} {mg mb : Str → Option Value} {fa : Addr} (T : Top qv lo mean mg mb h) (X : K.In h) (c : SaysH xgs fgs tfs K) (G : h.Ns mainGlobals mg) (hfa : mg "law" = some (.ref fa)) :
    LamX.LawAtS l w K CX0 18 63 "script" mg fa h := by
  obtain ⟨A0, Z0, oc0, od0, ol0, kv0, dc0, pm0, an0, cv0, ct0, L0, Q0⟩ := SaysH.glo c 0 0 (d := d_is_list_name) rfl rfl rfl
  obtain ⟨A1, Z1, oc1, od1, ol1, kv1, dc1, pm1, an1, cv1, ct1, L1, Q1⟩ := SaysH.glo c 0 1 (d := d_is_key) rfl rfl rfl
  obtain ⟨A2, Z2, oc2, od2, ol2, kv2, dc2, pm2, an2, cv2, ct2, L2, Q2⟩ := SaysH.glo c 0 2 (d := d_is_path) rfl rfl rfl
  obtain ⟨A3, Z3, oc3, od3, ol3, kv3, dc3, pm3, an3, cv3, ct3, L3, Q3⟩ := SaysH.glo c 0 3 (d := d_is_pattern) rfl rfl rfl
  obtain ⟨A4, Z4, oc4, od4, ol4, kv4, dc4, pm4, an4, cv4, ct4, L4, Q4⟩ := SaysH.glo c 0 4 (d := d_matches) rfl rfl rfl
  obtain ⟨A5, Z5, oc5, od5, ol5, kv5, dc5, pm5, an5, cv5, ct5, L5, Q5⟩ := SaysH.glo c 0 5 (d := d_ascends) rfl rfl rfl
  obtain ⟨A6, Z6, oc6, od6, ol6, kv6, dc6, pm6, an6, cv6, ct6, L6, Q6⟩ := SaysH.glo c 0 6 (d := d_consists_of) rfl rfl rfl
  obtain ⟨A7, Z7, oc7, od7, ol7, kv7, dc7, pm7, an7, cv7, ct7, L7, Q7⟩ := SaysH.glo c 0 7 (d := d_has_parts_of) rfl rfl rfl
  obtain ⟨A8, Z8, oc8, od8, ol8, kv8, dc8, pm8, an8, cv8, ct8, L8, Q8⟩ := SaysH.glo c 0 8 (d := d_part_matches) rfl rfl rfl
  obtain ⟨A9, Z9, oc9, od9, ol9, kv9, dc9, pm9, an9, cv9, ct9, L9, Q9⟩ := SaysH.glo c 0 9 (d := d_stand_in_order) rfl rfl rfl
  obtain ⟨A10, Z10, oc10, od10, ol10, kv10, dc10, pm10, an10, cv10, ct10, L10, Q10⟩ := SaysH.glo c 0 10 (d := d_is_integer) rfl rfl rfl
  obtain ⟨A11, Z11, oc11, od11, ol11, kv11, dc11, pm11, an11, cv11, ct11, L11, Q11⟩ := SaysH.glo c 0 11 (d := d_is_role) rfl rfl rfl
  obtain ⟨A12, Z12, oc12, od12, ol12, kv12, dc12, pm12, an12, cv12, ct12, L12, Q12⟩ := SaysH.glo c 1 0 (d := d_is_digest) rfl rfl rfl
  obtain ⟨A13, Z13, oc13, od13, ol13, kv13, dc13, pm13, an13, cv13, ct13, L13, Q13⟩ := SaysH.glo c 1 1 (d := d_is_grant) rfl rfl rfl
  obtain ⟨A14, Z14, oc14, od14, ol14, kv14, dc14, pm14, an14, cv14, ct14, L14, Q14⟩ := SaysH.glo c 1 2 (d := d_is_list) rfl rfl rfl
  obtain ⟨A15, Z15, oc15, od15, ol15, kv15, dc15, pm15, an15, cv15, ct15, L15, Q15⟩ := SaysH.glo c 1 3 (d := d_is_amount) rfl rfl rfl
  obtain ⟨A16, Z16, oc16, od16, ol16, kv16, dc16, pm16, an16, cv16, ct16, L16, Q16⟩ := SaysH.glo c 1 4 (d := d_covers) rfl rfl rfl
  obtain ⟨A17, Z17, oc17, od17, ol17, kv17, dc17, pm17, an17, cv17, ct17, L17, Q17⟩ := SaysH.glo c 1 5 (d := d_good_of) rfl rfl rfl
  obtain ⟨A18, Z18, oc18, od18, ol18, kv18, dc18, pm18, an18, cv18, ct18, L18, Q18⟩ := SaysH.glo c 1 6 (d := d_entry_of) rfl rfl rfl
  obtain ⟨A19, Z19, oc19, od19, ol19, kv19, dc19, pm19, an19, cv19, ct19, L19, Q19⟩ := SaysH.glo c 1 7 (d := d_is_tuple_of) rfl rfl rfl
  obtain ⟨A20, Z20, oc20, od20, ol20, kv20, dc20, pm20, an20, cv20, ct20, L20, Q20⟩ := SaysH.glo c 1 8 (d := d_is_tuple_within) rfl rfl rfl
  obtain ⟨A21, Z21, oc21, od21, ol21, kv21, dc21, pm21, an21, cv21, ct21, L21, Q21⟩ := SaysH.glo c 1 9 (d := d_is_headed) rfl rfl rfl
  obtain ⟨A22, Z22, oc22, od22, ol22, kv22, dc22, pm22, an22, cv22, ct22, L22, Q22⟩ := SaysH.glo c 1 10 (d := d_is_version) rfl rfl rfl
  obtain ⟨A23, Z23, oc23, od23, ol23, kv23, dc23, pm23, an23, cv23, ct23, L23, Q23⟩ := SaysH.glo c 1 11 (d := d_is_good) rfl rfl rfl
  obtain ⟨A24, Z24, oc24, od24, ol24, kv24, dc24, pm24, an24, cv24, ct24, L24, Q24⟩ := SaysH.glo c 2 0 (d := d_behind_name) rfl rfl rfl
  obtain ⟨A25, Z25, oc25, od25, ol25, kv25, dc25, pm25, an25, cv25, ct25, L25, Q25⟩ := SaysH.glo c 2 1 (d := d_role_of) rfl rfl rfl
  obtain ⟨A26, I26, Z26, oc26, od26, ol26, kv26, dc26, pm26, an26, cv26, ct26, L26, Q26⟩ := SaysH.met c 2 2 (d := d_Search___init) rfl rfl rfl
  obtain ⟨A27, I27, Z27, oc27, od27, ol27, kv27, dc27, pm27, an27, cv27, ct27, L27, Q27⟩ := SaysH.met c 2 3 (d := d_Search_wanted) rfl rfl rfl
  obtain ⟨A28, I28, Z28, oc28, od28, ol28, kv28, dc28, pm28, an28, cv28, ct28, L28, Q28⟩ := SaysH.met c 2 4 (d := d_Search_give) rfl rfl rfl
  obtain ⟨A29, I29, Z29, oc29, od29, ol29, kv29, dc29, pm29, an29, cv29, ct29, L29, Q29⟩ := SaysH.met c 2 5 (d := d_Search_result) rfl rfl rfl
  obtain ⟨A30, I30, Z30, oc30, od30, ol30, kv30, dc30, pm30, an30, cv30, ct30, L30, Q30⟩ := SaysH.met c 2 6 (d := d_Search__follow) rfl rfl rfl
  obtain ⟨A31, I31, Z31, oc31, od31, ol31, kv31, dc31, pm31, an31, cv31, ct31, L31, Q31⟩ := SaysH.met c 2 7 (d := d_Search__leads_on) rfl rfl rfl
  obtain ⟨A32, Z32, oc32, od32, ol32, kv32, dc32, pm32, an32, cv32, ct32, L32, Q32⟩ := SaysH.glo c 2 8 (d := d_lookup) rfl rfl rfl
  obtain ⟨A33, Z33, oc33, od33, ol33, kv33, dc33, pm33, an33, cv33, ct33, L33, Q33⟩ := SaysH.glo c 2 9 (d := d_law_cell) rfl rfl rfl
  obtain ⟨A34, Z34, oc34, od34, ol34, kv34, dc34, pm34, an34, cv34, ct34, L34, Q34⟩ := SaysH.glo c 2 10 (d := d_law_draws) rfl rfl rfl
  obtain ⟨A35, Z35, oc35, od35, ol35, kv35, dc35, pm35, an35, cv35, ct35, L35, Q35⟩ := SaysH.glo c 2 11 (d := d_law_names) rfl rfl rfl
  obtain ⟨A36, Z36, oc36, od36, ol36, kv36, dc36, pm36, an36, cv36, ct36, L36, Q36⟩ := SaysH.glo c 3 0 (d := d_law_path) rfl rfl rfl
  obtain ⟨A37, Z37, oc37, od37, ol37, kv37, dc37, pm37, an37, cv37, ct37, L37, Q37⟩ := SaysH.glo c 3 1 (d := d_law_patterns) rfl rfl rfl
  obtain ⟨A38, Z38, oc38, od38, ol38, kv38, dc38, pm38, an38, cv38, ct38, L38, Q38⟩ := SaysH.glo c 3 2 (d := d_law_covers) rfl rfl rfl
  obtain ⟨A39, Z39, oc39, od39, ol39, kv39, dc39, pm39, an39, cv39, ct39, L39, Q39⟩ := SaysH.glo c 3 3 (d := d_law_fits) rfl rfl rfl
  obtain ⟨A40, Z40, oc40, od40, ol40, kv40, dc40, pm40, an40, cv40, ct40, L40, Q40⟩ := SaysH.glo c 3 4 (d := d_law_list) rfl rfl rfl
  obtain ⟨A41, Z41, oc41, od41, ol41, kv41, dc41, pm41, an41, cv41, ct41, L41, Q41⟩ := SaysH.glo c 3 5 (d := d_law_walk) rfl rfl rfl
  obtain ⟨A42, Z42, oc42, od42, ol42, kv42, dc42, pm42, an42, cv42, ct42, L42, Q42⟩ := SaysH.glo c 3 6 (d := d_law_refused) rfl rfl rfl
  obtain ⟨A43, Z43, oc43, od43, ol43, kv43, dc43, pm43, an43, cv43, ct43, L43, Q43⟩ := SaysH.glo c 3 7 (d := d_law) rfl rfl rfl
  obtain ⟨tc6, tk6, td6, tv6, ts6, tp6, te6, T6, U6, N6⟩ := SaysH.tab c 0 (d := d_consists_of) rfl L6
  cases te6
  obtain ⟨tc7, tk7, td7, tv7, ts7, tp7, te7, T7, U7, N7⟩ := SaysH.tab c 1 (d := d_has_parts_of) rfl L7
  cases te7
  obtain ⟨tc11, tk11, td11, tv11, ts11, tp11, te11, T11, U11, N11⟩ := SaysH.tab c 2 (d := d_is_role) rfl L11
  cases te11
  obtain ⟨tc12, tk12, td12, tv12, ts12, tp12, te12, T12, U12, N12⟩ := SaysH.tab c 3 (d := d_is_digest) rfl L12
  cases te12
  obtain ⟨tc13, tk13, td13, tv13, ts13, tp13, te13, T13, U13, N13⟩ := SaysH.tab c 4 (d := d_is_grant) rfl L13
  cases te13
  obtain ⟨tc14, tk14, td14, tv14, ts14, tp14, te14, T14, U14, N14⟩ := SaysH.tab c 5 (d := d_is_list) rfl L14
  cases te14
  obtain ⟨tc16, tk16, td16, tv16, ts16, tp16, te16, T16, U16, N16⟩ := SaysH.tab c 6 (d := d_covers) rfl L16
  cases te16
  obtain ⟨vt__LETTERS, V__LETTERS⟩ := str_in (SaysH.fact c 1 10 (f := fun K => (He.Fa.str "_LETTERS" "abcdefghijklmnopqrstuvwxyz").ok K) rfl rfl)
  obtain ⟨vt__DIGITS, V__DIGITS⟩ := str_in (SaysH.fact c 1 11 (f := fun K => (He.Fa.str "_DIGITS" "0123456789").ok K) rfl rfl)
  obtain ⟨vt__PART_MARKS, V__PART_MARKS⟩ := str_in (SaysH.fact c 2 0 (f := fun K => (He.Fa.str "_PART_MARKS" "abcdefghijklmnopqrstuvwxyz0123456789_-.").ok K) rfl rfl)
  obtain ⟨vt__MOST_NAME, V__MOST_NAME⟩ := int_in (SaysH.fact c 2 1 (f := fun K => (He.Fa.int "_MOST_NAME" (12)).ok K) rfl rfl)
  obtain ⟨vt__MOST_PARTS, V__MOST_PARTS⟩ := int_in (SaysH.fact c 2 2 (f := fun K => (He.Fa.int "_MOST_PARTS" (6)).ok K) rfl rfl)
  obtain ⟨vt_MOST_PATH, V_MOST_PATH⟩ := int_in (SaysH.fact c 2 3 (f := fun K => (He.Fa.int "MOST_PATH" (60)).ok K) rfl rfl)
  obtain ⟨vt_MOST_KEYS, V_MOST_KEYS⟩ := int_in (SaysH.fact c 2 4 (f := fun K => (He.Fa.int "MOST_KEYS" (16)).ok K) rfl rfl)
  obtain ⟨vt_MOST_NUMBER, V_MOST_NUMBER⟩ := int_in (SaysH.fact c 2 5 (f := fun K => (He.Fa.int "MOST_NUMBER" (1000000000000)).ok K) rfl rfl)
  obtain ⟨vt_DIGEST_LENGTH, V_DIGEST_LENGTH⟩ := int_in (SaysH.fact c 2 6 (f := fun K => (He.Fa.int "DIGEST_LENGTH" (18)).ok K) rfl rfl)
  obtain ⟨vt__DIGEST_MARKS, V__DIGEST_MARKS⟩ := str_in (SaysH.fact c 2 7 (f := fun K => (He.Fa.str "_DIGEST_MARKS" "0123456789abcdef").ok K) rfl rfl)
  obtain ⟨vt__MOST_PATTERNS, V__MOST_PATTERNS⟩ := int_in (SaysH.fact c 2 8 (f := fun K => (He.Fa.int "_MOST_PATTERNS" (8)).ok K) rfl rfl)
  obtain ⟨vt_MOST_GOODS, V_MOST_GOODS⟩ := int_in (SaysH.fact c 2 9 (f := fun K => (He.Fa.int "MOST_GOODS" (64)).ok K) rfl rfl)
  obtain ⟨vt_MOST_LISTS, V_MOST_LISTS⟩ := int_in (SaysH.fact c 2 10 (f := fun K => (He.Fa.int "MOST_LISTS" (32)).ok K) rfl rfl)
  obtain ⟨vt_TOP_LIST, V_TOP_LIST⟩ := str_in (SaysH.fact c 2 11 (f := fun K => (He.Fa.str "TOP_LIST" "list").ok K) rfl rfl)
  obtain ⟨wo, wi, wn, w0, w1, w2, w3, w4, w5⟩ := strsB_ok (SaysH.fact c 3 8 (f := fun K => strsB K (gA K "_ROLE_NAMES") rnm) rfl rfl)
  exact all_mk T X G hfa
    (He.eqO_ok (SaysH.fact c 0 0 (f := fun K => He.eqO (PySem.W.nsIn K mainGlobals "Search") (some (some (.ref (gA K "Search"))))) rfl rfl))
    (SaysH.fact c 0 1 (f := fun K => PySem.W.plainGet K (gA K "Search") Str.empty) rfl rfl)
    (SaysH.fact c 0 2 (f := fun K => PySem.W.hasDictIn K (gA K "Search")) rfl rfl)
    (SaysH.fact c 0 3 (f := fun K => PySem.W.plainOver K (gA K "Search")) rfl rfl)
    (He.eqO_ok (SaysH.fact c 0 4 (f := fun K => He.eqO (PySem.W.findIn K (.ref (gA K "Search")) "__setattr__") (some (some (.builtin "object.__setattr__")))) rfl rfl))
    (SaysH.fact c 0 5 (f := fun K => PySem.W.makesIn K (gA K "Search")) rfl rfl)
    (SaysH.fact c 0 6 (f := fun K => PySem.W.keepIn K (.ref (gA K "Search"))) rfl rfl)
    (He.eqO_ok (SaysH.fact c 0 7 (f := fun K => He.eqO (PySem.W.findIn K (.ref (gA K "Search")) "_shelf") (some none)) rfl rfl))
    (He.eqO_ok (SaysH.fact c 0 8 (f := fun K => He.eqO (PySem.W.findIn K (.ref (gA K "Search")) "_path") (some none)) rfl rfl))
    (He.eqO_ok (SaysH.fact c 0 9 (f := fun K => He.eqO (PySem.W.findIn K (.ref (gA K "Search")) "_waiting") (some none)) rfl rfl))
    (He.eqO_ok (SaysH.fact c 0 10 (f := fun K => He.eqO (PySem.W.findIn K (.ref (gA K "Search")) "_seen") (some none)) rfl rfl))
    (He.eqO_ok (SaysH.fact c 0 11 (f := fun K => He.eqO (PySem.W.findIn K (.ref (gA K "Search")) "_result") (some none)) rfl rfl))
    A0
    L0
    Q0
    Z0
    A1
    L1
    Q1
    Z1
    A2
    L2
    Q2
    Z2
    A3
    L3
    Q3
    Z3
    A4
    L4
    Q4
    Z4
    A5
    L5
    Q5
    Z5
    A6
    L6
    Q6
    Z6
    A7
    L7
    Q7
    Z7
    A8
    L8
    Q8
    Z8
    A9
    L9
    Q9
    Z9
    A10
    L10
    Q10
    Z10
    A11
    L11
    Q11
    Z11
    A12
    L12
    Q12
    Z12
    A13
    L13
    Q13
    Z13
    A14
    L14
    Q14
    Z14
    A15
    L15
    Q15
    Z15
    A16
    L16
    Q16
    Z16
    A17
    L17
    Q17
    Z17
    A18
    L18
    Q18
    Z18
    A19
    L19
    Q19
    Z19
    A20
    L20
    Q20
    Z20
    A21
    L21
    Q21
    Z21
    A22
    L22
    Q22
    Z22
    A23
    L23
    Q23
    Z23
    A24
    L24
    Q24
    Z24
    A25
    L25
    Q25
    Z25
    A26
    I26
    L26
    Q26
    Z26
    A27
    I27
    L27
    Q27
    Z27
    A28
    I28
    L28
    Q28
    Z28
    A29
    I29
    L29
    Q29
    Z29
    A30
    I30
    L30
    Q30
    Z30
    A31
    I31
    L31
    Q31
    Z31
    A32
    L32
    Q32
    Z32
    A33
    L33
    Q33
    Z33
    A34
    L34
    Q34
    Z34
    A35
    L35
    Q35
    Z35
    A36
    L36
    Q36
    Z36
    A37
    L37
    Q37
    Z37
    A38
    L38
    Q38
    Z38
    A39
    L39
    Q39
    Z39
    A40
    L40
    Q40
    Z40
    A41
    L41
    Q41
    Z41
    A42
    L42
    Q42
    Z42
    A43
    L43
    Q43
    Z43
    (He.eqO_ok (SaysH.fact c 1 0 (f := fun K => He.eqO (PySem.W.nsIn K mainGlobals "len") (some none)) rfl rfl))
    (He.eqO_ok (SaysH.fact c 1 1 (f := fun K => He.eqO (PySem.W.nsIn K mainGlobals "int") (some none)) rfl rfl))
    (He.eqO_ok (SaysH.fact c 1 2 (f := fun K => He.eqO (PySem.W.nsIn K mainGlobals "str") (some none)) rfl rfl))
    (He.eqO_ok (SaysH.fact c 1 3 (f := fun K => He.eqO (PySem.W.nsIn K mainGlobals "bool") (some none)) rfl rfl))
    (He.eqO_ok (SaysH.fact c 1 4 (f := fun K => He.eqO (PySem.W.nsIn K mainGlobals "list") (some none)) rfl rfl))
    (He.eqO_ok (SaysH.fact c 1 5 (f := fun K => He.eqO (PySem.W.nsIn K mainGlobals "tuple") (some none)) rfl rfl))
    (He.eqO_ok (SaysH.fact c 1 6 (f := fun K => He.eqO (PySem.W.nsIn K mainGlobals "range") (some none)) rfl rfl))
    (He.eqO_ok (SaysH.fact c 1 7 (f := fun K => He.eqO (PySem.W.nsIn K mainGlobals "isinstance") (some none)) rfl rfl))
    (He.eqO_ok (SaysH.fact c 1 8 (f := fun K => He.eqO (PySem.W.nsIn K mainGlobals "ord") (some none)) rfl rfl))
    (He.eqO_ok (SaysH.fact c 1 9 (f := fun K => He.eqO (PySem.W.nsIn K mainGlobals "all") (some none)) rfl rfl))
    V__LETTERS
    V__DIGITS
    V__PART_MARKS
    V__MOST_NAME
    V__MOST_PARTS
    V_MOST_PATH
    V_MOST_KEYS
    V_MOST_NUMBER
    V_DIGEST_LENGTH
    V__DIGEST_MARKS
    V__MOST_PATTERNS
    V_MOST_GOODS
    V_MOST_LISTS
    V_TOP_LIST
    (He.eqO_ok (SaysH.fact c 3 0 (f := fun K => He.eqO (PySem.W.nsIn K mainGlobals "BadState") (some (some (.ref (gA K "BadState"))))) rfl rfl))
    (SaysH.fact c 3 1 (f := fun K => PySem.W.excIn K (gA K "BadState") [.type "ValueError", .type "Exception", .type "BaseException", .type "object"] "ValueError.__new__") rfl rfl)
    (SaysH.fact c 3 2 (f := fun K => PySem.W.keepIn K (.ref (gA K "BadState"))) rfl rfl)
    (of_decide_eq_true (SaysH.fact c 3 3 (f := fun K => decide (PySem.W.subIn K (.ref (gA K "BadState")) (.type "BaseException") = some true)) rfl rfl))
    (of_decide_eq_true (SaysH.fact c 3 4 (f := fun K => decide (PySem.W.typeIn K (.ref (gA K "BadState")) = some (.type "type"))) rfl rfl))
    (SaysH.fact c 3 5 (f := fun K => PySem.W.isClsIn K (gA K "BadState")) rfl rfl)
    (of_decide_eq_true (SaysH.fact c 3 6 (f := fun K => decide (PySem.W.subIn K (.ref (gA K "BadState")) (.ref (gA K "BadState")) = some true)) rfl rfl))
    (He.eqO_ok (SaysH.fact c 3 7 (f := fun K => He.eqO (PySem.W.nsIn K mainGlobals "_ROLE_NAMES") (some (some (.ref (gA K "_ROLE_NAMES"))))) rfl rfl))
    w0
    w1
    w2
    w3
    w4
    w5
    (He.eqO_ok (SaysH.fact c 3 9 (f := fun K => He.eqO (PySem.W.nsIn K mainGlobals "sorted") (some none)) rfl rfl))
    (He.eqO_ok (SaysH.fact c 3 10 (f := fun K => He.eqO (PySem.W.nsIn K mainGlobals "set") (some none)) rfl rfl))
    (He.eqO_ok (SaysH.fact c 3 11 (f := fun K => He.eqO (PySem.W.nsIn K mainGlobals "any") (some none)) rfl rfl))
    (He.eqO_ok (SaysH.fact c 4 0 (f := fun K => He.eqO (PySem.W.nsIn K mainGlobals "zip") (some none)) rfl rfl))
    (He.eqO_ok (SaysH.fact c 4 1 (f := fun K => He.eqO (PySem.W.nsIn K mainGlobals "abs") (some none)) rfl rfl))
    T6
    U6
    N6
    rfl
    T7
    U7
    N7
    rfl
    T11
    U11
    N11
    rfl
    T12
    U12
    N12
    rfl
    T13
    U13
    N13
    rfl
    T14
    U14
    N14
    rfl
    T16
    U16
    N16
    rfl
end SC
open PySem PySem.W PySem.Calls PyProof.Rows
set_option maxRecDepth 100000 in
set_option maxHeartbeats 0 in
theorem PySem.Challenge.cw_sealchart_k33_search_by_the_rules_holds : PySem.Challenge.rw_sealchart_k33_search_by_the_rules.Holds := by
  w_on; o_law
  refine HandSHeadRun.head_any (r := SC.Rr) (q := SC.qv) (H := SC.hk) (ob := SC.ob) (M := 40000) (loose := SC.nms_) (d := HandSHeadRun.topDef SC.Rr.prog 62) (kwd := []) SC.ob_eq
    (by kernel_rfl) (fun s => by kernel_rfl) SC.run (by kernel_rfl) (by kernel_rfl) (by kernel_rfl) (by rfl) (by first | assumption | decide +kernel) (by decide +kernel) ⟨rfl, rfl, rfl, rfl, rfl, by decide +kernel⟩ ?hw ?hc
  case hw => w_witness2
  case hc =>
    refine SC.walk_tabE (l := PySem.Challenge.rw_sealchart_k33_search_by_the_rules) (k := 18) (n := 63) (x := "script") (nm := "law") (CX := L2.CX0) (Sx := SC.SaysH SC.xgs SC.fgs SC.tfs) rfl (by decide) (by kernel_rfl) (by kernel_rfl) ⟨rfl, by decide, by decide⟩ (fun w h Y => Y) (fun _ _ _ _ z => z) ?F
    intro w mg mb lo mean fa h K T KX c G hmg
    exact SC.all_hk T KX c G hmg
--END
